import PyProof.Rows.All
import Wide.All
import OpenK.AllK
import Wide.FinOn
import HandS.ForMost
import HandS.ForExc
import HandS.More
import HandS.IsInst
import HandS.Defaults
import HandS.MakeKwOnly
import HandS.Property
import HandS.ExcIs
import HandS.Flow
import HandS.OwnEq
import HandS.NoneIn
import HandS.SlotsOwn
import KE.DatumOrd
import HandS.TupAny
import HandS.TupMul
import HandS.TupLen
import HandS.DictTup
import HandS.Strs
import HandS.ExcSuper
import HandS.TryMany
import HandS.WordsDict
import HandS.ForDict
import HandS.GenList
import KE.KExcSuper
import HandS.ExcInit
import HandS.Nested
import HandS.ClsMeth
import HandS.FStr
import HandS.FStrTup
import HandS.GenCall
import HandS.Exc
import OpenK.KMake
import Open.Head
import HandS.Ends
import HandS.ReCall
import HandS.SetFor
import HandS.Style
import KE.KDictCopyH
import HandS.Iter
import HandS.ExcOwn
import PyProof.Rows.SortShellAny
import HandS.Deep
import HandS.ExcField
import HandS.Conv
import HandS.Walk
import KE.RegKSuper
import PySem.Challenge.RW_answerparts_k20_mends_made
set_option Elab.async false
set_option linter.all false
section
set_option maxRecDepth 100000
set_option maxHeartbeats 4000000
namespace Cm
open PySem L2
/-! ### what the top has written -/
structure Bi (mg : Str → Option Value) : Prop where
  type : mg "type" = none
  int : mg "int" = none
  str : mg "str" = none
  bool : mg "bool" = none
  dict : mg "dict" = none
  list : mg "list" = none
  tuple : mg "tuple" = none
  len : mg "len" = none
  range : mg "range" = none
  max : mg "max" = none
  isi : mg "isinstance" = none
/-- a def of the module that stands under its own name -/
structure Dn (K : PySem.W.Frag) (mg : Str → Option Value) (x : Str) (st : Stmt) (ps : List Str) (f : Addr) (fd : FuncData) : Prop where
  F : Fun K x x st f fd
  g : mg x = some (.ref f)
  b : Binds K fd ps []
/-- an own class of exceptions without own __init__, over ValueError -/
structure Xc (K : PySem.W.Frag) (mg : Str → Option Value) (x : Str) (C : Addr) : Prop where
  g : mg x = some (.ref C)
  x : PySem.W.excIn K C [.type "ValueError", .type "Exception", .type "BaseException", .type "object"] "ValueError.__new__" = true
  k : PySem.W.keepIn K (.ref C) = true
  b : PySem.W.subIn K (.ref C) (.type "BaseException") = some true
  t : PySem.W.typeIn K (.ref C) = some (.type "type")
/-- the draws' state: the list at p holds a number, the list q of the script's ints (changed in part), a count -/
def HS (H : Hp) (p q : Addr) : Prop := ∃ (a i : Int) (ns : List Int), H p = some (.lst [.int a, .ref q, .int i]) ∧ H q = some (.lst (ns.map V.int)) ∧ ns.length ≤ 63 ∧ 0 ≤ a ∧ a < 2147483647 ∧ 0 ≤ i
def Keep (p q : Addr) (H H' : Hp) : Prop := ∀ b o, H b = some o → b ≠ p → b ≠ q → H' b = some o
theorem HS.ne {H : Hp} {p q : Addr} (h : HS H p q) : p ≠ q := by
  obtain ⟨a, i, ns, h1, h2, _⟩ := h
  refine ne_of h1 h2 fun e => ?_
  have e1 : [V.int a, .ref q, .int i] = ns.map V.int := by injection e
  match ns, e1 with
  | [], e1 => cases e1
  | [_], e1 => simp at e1
  | _ :: _ :: _, e1 => simp at e1
theorem HS.same {H H' : Hp} {p q : Addr} (h : HS H p q) (s : Same H H') : HS H' p q := by
  obtain ⟨a, i, ns, h1, h2, h3⟩ := h
  exact ⟨a, i, ns, s _ _ h1, s _ _ h2, h3⟩
theorem Keep.of {H H' : Hp} {p q : Addr} (s : Same H H') : Keep p q H H' := fun b o e _ _ => s b o e
theorem Keep.trans {H H1 H2 : Hp} {p q : Addr} (a : Keep p q H H1) (b : Keep p q H1 H2) : Keep p q H H2 := fun c o e h1 h2 => b c o (a c o e h1 h2) h1 h2
theorem HS.np {H : Hp} {p q t : Addr} (h : HS H p q) (n : H t = none) : t ≠ p ∧ t ≠ q := by
  obtain ⟨a, i, ns, h1, h2, _⟩ := h
  exact ⟨(ne_of_none h1 n).symm, (ne_of_none h2 n).symm⟩
theorem HS.nt {H : Hp} {p q t : Addr} {xs : List V} (h : HS H p q) (n : H t = some (.tup xs)) : t ≠ p ∧ t ≠ q := by
  obtain ⟨a, i, ns, h1, h2, _⟩ := h
  exact ⟨ne_of n h1 (by intro z; cases z), ne_of n h2 (by intro z; cases z)⟩
theorem HS.ni {H : Hp} {p q t C dx : Addr} {fs : List (Str × V)} (h : HS H p q) (n : H t = some (.ins C dx fs)) : t ≠ p ∧ t ≠ q := by
  obtain ⟨a, i, ns, h1, h2, _⟩ := h
  exact ⟨ne_of n h1 (by intro z; cases z), ne_of n h2 (by intro z; cases z)⟩
theorem same_upd {H : Hp} {t : Addr} {o : HO} (n : H t = none) : Same H (upd H t o) := fun b u e => by
  rw [upd_ne (ne_of_none e n)]
  exact e
theorem atI_in {α : Type} {xs : List α} {i : Int} (h0 : 0 ≤ i) (h1 : i < xs.length) : ∃ v, xs[i.toNat]? = some v ∧ atI xs i = some v := by
  have h : i.toNat < xs.length := by omega
  refine ⟨xs[i.toNat], by simp [h], ?_⟩
  have q := atI_nat (xs := xs) (j := i.toNat) (v := xs[i.toNat]) (by simp [h])
  rw [Int.toNat_of_nonneg h0] at q
  exact q
theorem ixN_in {n : Nat} {i : Int} (h0 : 0 ≤ i) (h1 : i < n) : ixN n i = some i.toNat := by
  unfold ixN
  rw [if_pos h0, if_pos h1]
theorem fmod_in (i m : Int) (hm : 0 < m) : 0 ≤ i.fmod m ∧ i.fmod m < m := by
  rw [Int.fmod_eq_emod_of_nonneg i (by omega)]
  exact ⟨Int.emod_nonneg _ (by omega), Int.emod_lt_of_pos _ hm⟩
/-- the cell that a draw reads -/
theorem pick (ns : List Int) (i : Int) : ∃ z, atI (ns.map V.int ++ [V.int 0]) (i.fmod (if (ns.length : Int) > 1 then (ns.length : Int) else 1)) = some (V.int z) ∧ (ns = [] → z = 0) := by
  cases ns with
  | nil =>
    refine ⟨0, ?_, fun _ => rfl⟩
    have e : i.fmod (if ((([] : List Int).length : Nat) : Int) > 1 then ((([] : List Int).length : Nat) : Int) else 1) = 0 := by
      have h := fmod_in i 1 (by omega)
      simp
    rw [e]
    rfl
  | cons n r =>
    have hm : (if (((n :: r).length : Nat) : Int) > 1 then (((n :: r).length : Nat) : Int) else 1) = ((n :: r).length : Int) := by
      by_cases c : (((n :: r).length : Nat) : Int) > 1
      · rw [if_pos c]
      · rw [if_neg c]
        have : (n :: r).length = r.length + 1 := rfl
        omega
    rw [hm]
    have hb := fmod_in i ((n :: r).length : Int) (by simp only [List.length_cons]; omega)
    obtain ⟨v, hv, ha⟩ := atI_in (xs := (n :: r).map V.int ++ [V.int 0]) hb.1 (by rw [List.length_append, List.length_map]; have := hb.2; simp only [List.length_singleton]; omega)
    rw [List.getElem?_append_left (by rw [List.length_map]; omega), List.getElem?_map] at hv
    cases e : (n :: r)[(i.fmod ((n :: r).length : Int)).toNat]? with
    | none => rw [e] at hv; cases hv
    | some z =>
      rw [e] at hv
      cases hv
      exact ⟨z, ha, fun q => by cases q⟩
theorem pickG {α : Type} (g : α → V) (os : List α) (v : Int) (h0 : 0 ≤ v) (h1 : v < os.length) : ∃ o, o ∈ os ∧ atI (os.map g) v = some (g o) := by
  obtain ⟨z, hz, ha⟩ := atI_in (xs := os.map g) h0 (by rw [List.length_map]; exact h1)
  rw [List.getElem?_map] at hz
  cases e : os[v.toNat]? with
  | none => rw [e] at hz; cases hz
  | some o =>
    rw [e] at hz
    cases hz
    exact ⟨o, List.mem_of_getElem? e, ha⟩
theorem pss_when {X : Cx} {b : List Stmt} {t : TS} {Pr : Prop} (h : Pr → PSs X b t) : PSs X b (fun D σ H => Pr ∧ t D σ H) := ⟨fun pins s σ H D I q => (h q.1).run pins s σ H D I q.2⟩
/-! ### _law_alike, of flat values and of tuples of flat values that are the same -/
/-- a flat value's type -/
def tyF : V → String
  | .non => "NoneType"
  | .bl _ => "bool"
  | .int _ => "int"
  | _ => "str"
theorem tyx_flat {K : PySem.W.Frag} {H : Hp} {v : V} (h : flatV v = true) : TyX K H v (.type (tyF v)) := by
  cases v <;> first | exact .base .non | exact .base (.bl _) | exact .base (.int _) | exact .base (.str _) | cases h
theorem kit_dict {K : PySem.W.Frag} {v : V} (h : flatV v = true) : PySem.W.kitOne K (.type (tyF v)) (.type "dict") = some false := by
  cases v with
  | non => exact kit_ty (a := "NoneType") (by decide +kernel)
  | bl _ => exact kit_ty (a := "bool") (by decide +kernel)
  | int _ => exact kit_ty (a := "int") (by decide +kernel)
  | str _ => exact kit_ty (a := "str") (by decide +kernel)
  | _ => cases h
theorem kit_tl1 {K : PySem.W.Frag} (a : String) (h : kitB a "tuple" = some false) (h' : kitB a "list" = some false) : PySem.W.kitAny K (.type a) [.type "tuple", .type "list"] = some false :=
  kitAny_cons (b := false) (kit_ty h) (fun _ => kitAny_cons (b := false) (kit_ty h') (fun _ => kitAny_nil) (fun q => nomatch q)) (fun q => nomatch q)
theorem kit_tl {K : PySem.W.Frag} {v : V} (h : flatV v = true) : PySem.W.kitAny K (.type (tyF v)) [.type "tuple", .type "list"] = some false := by
  cases v with
  | non => exact kit_tl1 "NoneType" (by decide +kernel) (by decide +kernel)
  | bl _ => exact kit_tl1 "bool" (by decide +kernel) (by decide +kernel)
  | int _ => exact kit_tl1 "int" (by decide +kernel) (by decide +kernel)
  | str _ => exact kit_tl1 "str" (by decide +kernel) (by decide +kernel)
  | _ => cases h
theorem take_at {α : Type} : ∀ {l : List α} {i : Nat} {x : α}, l[i]? = some x → l.take (i + 1) = l.take i ++ [x]
  | [], i, x, h => by simp at h
  | a :: l, 0, x, h => by
    have e : a = x := Option.some.inj (by simpa using h)
    subst e
    rfl
  | a :: l, i + 1, x, h => by
    rw [List.take_succ_cons, take_at (l := l) (i := i) (by simpa using h)]
    rfl
theorem pick0 (xs : List V) (v : Int) (h0 : 0 ≤ v) (h1 : v < xs.length) : ∃ o, o ∈ xs ∧ atI xs v = some o := by
  obtain ⟨z, hz, ha⟩ := atI_in (xs := xs) h0 h1
  exact ⟨z, List.mem_of_getElem? hz, ha⟩
theorem yes_read {σ : St} {H : Hp} {A B : Hp → Prop} (h : A H) : tYes σ H (fun b H3 => if b = true then A H3 else B H3) := by
  show (if true = true then A H else B H)
  rw [if_pos rfl]
  exact h
theorem via_s {te : TE} {g : TG} {rest : TS} {D : Ends} {σ : St} {H : Hp} (G : VK) (h : ∀ Q' : VK, (∀ v H', G v H' → Q' v H') → te σ H Q')
    (k : ∀ v H', G v H' → g v σ H' (rest D)) : tSeq (tAsg te g) rest D σ H := h _ k
theorem via_c {te : TE} {tr : TA} {σ : St} {H : Hp} {Q : List V → Hp → Prop} (G : VK) (h : ∀ Q' : VK, (∀ v H', G v H' → Q' v H') → te σ H Q')
    (k : ∀ v H', G v H' → tr σ H' fun xs H2 => Q (v :: xs) H2) : tCons te tr σ H Q := h _ k
theorem via {te : TE} {σ : St} {H : Hp} {Q : VK} (G : VK) (h : ∀ Q' : VK, (∀ v H', G v H' → Q' v H') → te σ H Q') (k : ∀ v H', G v H' → Q v H') : te σ H Q := h Q k
end Cm
/-! rules of my own: == of an own instance (general answer), an own class's |, an instance made inside a try -/
namespace Cm
open PySem PySem.Spec PyProof.Rows L2
section
variable {X : Cx} {CX : CXT} {n : Nat} {C f : Addr} {fd : FuncData} {ps : List Str} {sp : Sp}
def Other (C : Addr) (H : Hp) (b : Addr) : Prop := (∃ dy gs, H b = some (.ins C dy gs)) ∨ ∃ xs, H b = some (.tup xs)
def rCmp (C : Addr) (sp : Sp) (E : XK) : R2 := fun x y H Q => ∃ a dx fs b, x = .ref a ∧ y = .ref b ∧ H a = some (.ins C dx fs) ∧ Other C H b ∧ sp [x, y] H Q E
theorem op_cmpIns {E : XK} (F : FnOk X.prog X.w X.K X.mg X.base CX n f fd ps sp) (hs : PySem.W.findIn X.K (.ref C) "__eq__" = some (some (.ref f))) (hf : PySem.W.isFn X.K (.ref f) = true) (hb : Binds X.K fd ps [])
    (ht : PySem.W.notFirst X.K C (.type "tuple") = true) (hr : Room n X.A) (hx : Passes CX X E) : OpR X (compareOp .Eq) (rCmp C sp E) := by
  intro pins s σ H x y v u Q I rx ry h
  obtain ⟨a, dx, fs, b, rfl, rfl, ha, ho, q⟩ := h
  cases (show v = Value.ref a from rx)
  cases (show u = Value.ref b from ry)
  obtain ⟨mA, O, _⟩ := ins_get I.hok ha
  obtain ⟨od, J, _⟩ := O.look
  obtain ⟨m, hF⟩ := I.fr
  have fin : wpAny (model X.prog X.w) X.A (call (.ref f) [.ref a, .ref b]) (PySem.W.CmpBack (EP X pins σ Q)) X.xe s := by
    refine wpAny_mono (run_fn (us := [.ref a, .ref b]) (vs := [.ref a, .ref b]) F hr hb .nil hx I (.cons rfl (.cons rfl .nil)) q) (fun w' s' z => ?_) fun _ _ z => z
    obtain ⟨z', H', I', rz, qz⟩ := z
    exact SlX.cmpback rz ⟨z', H', I', rz, qz⟩
  show wpAny (model X.prog X.w) X.A (richCompare .Eq (.ref a) (.ref b)) _ _ _
  rcases ho with ⟨dy, gs, hb'⟩ | ⟨xs, hb'⟩
  · obtain ⟨mB, O', _⟩ := ins_get I.hok hb'
    obtain ⟨od', J', _⟩ := O'.look
    exact PySem.W.cmp_K (op := .Eq) (tb := .ref C) hr.units0 hF I.ok.mod.kin J J'.type (by simp [PySem.W.notFirst]) hs hf fin
  · obtain ⟨_, its, _, o, h1, h2, _⟩ := (show ObjOk X.prog X.w H s.heap b (.tup xs) from I.hok b _ hb')
    exact PySem.W.cmp_K (op := .Eq) (tb := .type "tuple") hr.units0 hF I.ok.mod.kin J (fun A Q E s k q => wpAny_typeOf_ref (k _ _ h1) (by rw [h2]; exact q)) ht hs hf fin
/-- a | b, both of the class C; what leaves is wished at the slots -/
def tOrIns (C : Addr) (sp : Sp) (E : L2.St → XK) (ta tb : TE) : TE := fun σ H Q => ta σ H fun x H1 => tb σ H1 fun y H2 => ∃ a dx fs b dy gs, x = .ref a ∧ y = .ref b ∧ H2 a = some (.ins C dx fs) ∧ H2 b = some (.ins C dy gs) ∧ sp [x, y] H2 Q (E σ)
theorem pe_orIns {E : L2.St → XK} {a b : Expr} {pos : Pos} {ta tb : TE} (F : FnOk X.prog X.w X.K X.mg X.base CX n f fd ps sp) (hc : PySem.W.selfFirst X.K C = true) (hs : PySem.W.findIn X.K (.ref C) "__or__" = some (some (.ref f))) (hf : PySem.W.isFn X.K (.ref f) = true)
    (hb : Binds X.K fd ps []) (hr : Room n X.A) (hx : ∀ σ, PassesAt CX X σ (E σ)) (pa : PE X a ta) (pb : PE X b tb) : PE X (.BinOp a .BitOr b pos) (tOrIns C sp E ta tb) := by
  refine ⟨fun pins s σ H Q I h => wpAny_BinOp (binT pa pb I h fun v u s2 x y H2 I2 rx ry q => ?_)⟩
  obtain ⟨a1, dx, fs, b1, dy, gs, rfl, rfl, ha, hb', q⟩ := q
  cases (show v = Value.ref a1 from rx)
  cases (show u = Value.ref b1 from ry)
  obtain ⟨mA, O, _⟩ := ins_get I2.hok ha
  obtain ⟨od, J, _⟩ := O.look
  obtain ⟨mB, O', _⟩ := ins_get I2.hok hb'
  obtain ⟨od', J', _⟩ := O'.look
  obtain ⟨m, hF⟩ := I2.fr
  refine PySem.W.binop_K (op := .BitOr) hF I2.ok.mod.kin J J'.type hc hs hf ?_
  refine wpAny_mono (run_fnS (us := [.ref a1, .ref b1]) (vs := [.ref a1, .ref b1]) F hr hb (hx σ) I2 (.cons rfl (.cons rfl .nil)) q) (fun w' s' z => ?_) fun _ _ z => z
  obtain ⟨z', H', I', rz, qz⟩ := z
  exact SlX.cmpback rz ⟨z', H', I', rz, qz⟩
end
section
variable {X : Cx} {CX : CXT} {k n : Nat} {f C : Addr} {fd : FuncData} {ps ks : List Str} {sp : Sp} {E : L2.St → XK} {x : Str} {p pos : Pos} {e : Expr} {es : List Expr} {kws : List Keyword} {t tk : TA} {g : List Value → List Value → List Value} {gV : List V → List V → List V}
/-- C(e, .., k = v, ..) where what leaves is wished at the slots -/
def tMakeKS (C : Addr) (n m : Nat) (sp : Sp) (gV : List V → List V → List V) (E : L2.St → XK) (t tk : TA) : TE := fun σ H Q => t σ H fun vs H1 => tk σ H1 fun zs H2 => vs.length = n ∧ zs.length = m ∧ ∀ a dx, H2 a = none → H2 dx = none → dx ≠ a →
  sp (gV (.ref a :: vs) zs) (upd (upd H2 dx (.own a)) a (.ins C dx [])) (fun v H3 => v = .non ∧ Q (.ref a) H3) (E σ)
theorem pe_makeKS (M : Mk X.K C f) (F : FnOk X.prog X.w X.K X.mg X.base CX k f fd ps sp) (hr : Room (k + 1) X.A) (hg : Gl X x) (hm : X.mg x = some (.ref C)) (hb : KBn X.K fd ps (n + 1) ks g gV) (hx : ∀ σ, PassesAt CX X σ (E σ)) (ha : PA X (e :: es) t) (hkw : PK X kws tk)
    (hall : (backToKw pos (keywordEach kws X.env)).all (·.1.isSome) = true := by rfl) (hks : (backToKw pos (keywordEach kws X.env)).filterMap (·.1) = ks := by rfl) (hdb : (x == ("__debug__" : Str)) = false := by decide)
    (he : starEach (e :: es) X.env = (false, eval e X.env) :: starEach es X.env := by rfl) (hpl : ((backTo pos (starEach (e :: es) X.env)).any (·.1) || (backToKw pos (keywordEach kws X.env)).any (·.1.isNone)) = false := by rfl) :
    PE X (.Call (.Name x p) (e :: es) kws pos) (tMakeKS C n ks.length sp gV E t tk) := by
  refine ⟨fun pins s σ H Q I h => wpAny_Call_Name_kw (ld_glob I hg hm ?_ hdb)⟩
  refine PySem.W.callWith_KW (h₀ := X.base) I.ok.mod.kin M.kp hall (thn (ha.run pos pins s σ H _ I h) fun us s1 ⟨vs, H1, I1, r, q⟩ => ?_) hpl he
  refine thn (hkw.run pos pins s1 σ H1 _ I1 q) fun ws s2 ⟨zs, H2, I2, rz, l1, l2, q2⟩ => ⟨I2.kIn, ?_⟩
  rw [hks]
  -- the new instance and its dict, then __init__
  have at1 := I2.hok.fresh (Nat.le_succ s2.heap.objs.size)
  have at0 := I2.hok.fresh (Nat.le_refl s2.heap.objs.size)
  have todo := q2 (s2.heap.objs.size + 1) s2.heap.objs.size at1 at0 (Nat.ne_of_lt (Nat.lt_succ_self _))
  have J := Inv.made (C := C) I2
  have rAll : Vals (V.ref (s2.heap.objs.size + 1) :: vs) (Value.ref (s2.heap.objs.size + 1) :: us) := Paired.cons rfl r
  have len : (Value.ref (s2.heap.objs.size + 1) :: us).length = n + 1 := by rw [← rAll.length, List.length_cons, l1]
  have bound := hb.to _ (Value.ref (s2.heap.objs.size + 1) :: us) ws J.kIn len (rz.length.symm.trans l2)
  have ran := F.run _ X.stack _ _ ⟨Value.ref (s2.heap.objs.size + 1) :: us, ks.zip ws⟩ _ _ _ (E σ) (hr.make C us (ks.zip ws)) (J.env0.make C us (ks.zip ws)) bound (hb.rel rAll rz) todo
  refine wpAny_call (make_map (f := f) I2.kIn M.makes M.init (beq_iff_eq.mp M.fn) (codeAny_mono ran fun rr s' hq => ?_))
  match rr, hq with
  | .error er, hq => exact hx σ pins _ _ er s' J hq
  | .ok (.ret u), hq =>
    obtain ⟨v, H', J3, rv, ev, q3⟩ := J.after hq
    cases ev
    exact ⟨rv, ⟨V.ref (s2.heap.objs.size + 1), H', J3, rfl, q3⟩⟩
  | .ok .next, hq => exact False.elim hq
  | .ok .brk, hq => exact False.elim hq
  | .ok .cont, hq => exact False.elim hq
end
end Cm
namespace Cm
open PySem L2
theorem with_dn {K : PySem.W.Frag} {h : Heap} {mg : Str → Option Value} {x : Str} {st : Stmt} {ps : List Str} {f : Addr} {od an : Option Addr} {sl : Array (Option Value)} {oc kV dc pm cd ct : Value} {R : Prop} (X : K.In h) (G : h.Ns mainGlobals mg)
    (a : PySem.W.nsIn K mainGlobals x = some (some (.ref f))) (l : K.lookup f = some ⟨oc, od, .func (PySem.W.fnOf x x (defArgs st) (defBody st) (defScope st) .none kV dc pm an cd ct), sl⟩) (c : PySem.W.codeIn K cd x = true) (k : PySem.W.keepIn K (.ref f) = true)
    (b : ∀ fd, Fun K x x st f fd → Binds K fd ps []) (rest : ∀ f fd, Dn K mg x st ps f fd → R) : R :=
  rest f _ ⟨fun_mk l c k, PySem.W.mg_of X G a, b _ (fun_mk l c k)⟩
theorem kit_mk {K : PySem.W.Frag} {C : Addr} {t : Value} {b : Bool} (h1 : PySem.W.isClsIn K C = true) (h2 : PySem.W.typeIn K (.ref C) = some (.type "type")) (h3 : (t == .ref C) = false) (h4 : PySem.W.subIn K t (.ref C) = some b) : PySem.W.kitOne K t (.ref C) = some b := by
  have h1' : (PySem.W.clsIn K C).isSome = true := h1
  unfold PySem.W.kitOne PySem.W.kitCls
  rw [h3, if_neg Bool.false_ne_true]
  show (if ((PySem.W.clsIn K C).isSome && PySem.W.typeIn K (.ref C) == some (.type "type")) = true then PySem.W.subIn K t (.ref C) else none) = some b
  rw [h1', h2, if_pos (by decide)]
  exact h4
end Cm
end
section
set_option linter.all false
set_option maxRecDepth 100000
set_option maxHeartbeats 2000000
/-! R8: for, in the body of a generator that list(..) drains -/
namespace Cm
open PySem PySem.Spec PyProof.Rows L2 GenW
section
variable {M : Model} {A : Around} {R : GenEnd} {Y : Protocol} {n : Nat} {s₀ s : Shared} {c : Code} {fs : List Frame}
theorem segFor {tg iter : Expr} {body : List Stmt} {pos : Pos} {env : Env} {K : Flow → Sem PySem.Fin} {J : Value → Sem PySem.Fin} {gd : Bool → Bool} {lv : List Value → List Value} (hs : ∀ x, foldedSetIterable iter env x = pure x)
    (h : wpAny M (A.over c fs) (eval iter env) (fun v s1 => wpAny M (A.over c fs) (pyIter v) (fun itv s2 => ∀ p, Seg M A R Y n s₀ (.forLoop tg itv body [] env) (M.den (.forLoop tg itv body [] env))
        (.ret (fun r => ((match r with | .ok f => (.pure f : Sem Flow) | .error e => .raise e).onRaise (L2.cameBack env)).wrap K J gd lv) none (gd false) (lv []) c p [] :: fs) s2) (fun x s' => Seg M A R Y n s₀ c (J x) fs s') s1) (fun x s' => Seg M A R Y n s₀ c (J x) fs s') s) :
    Seg M A R Y n s₀ c ((exec (.For tg iter body [] pos) env).wrap K J gd lv) fs s := by
  rw [arm_exec_For]
  refine seg_bind_wrap (wpAny_standAt (seg_bind_wrap (wpAny_mono h (fun v s1 h1 => ?_) fun _ _ q => q)))
  rw [hs]
  exact seg_bind_wrap (wpAny_pure (seg_bind_wrap (wpAny_standAt (seg_bind_wrap (wpAny_holding (wpAny_mono h1 (fun itv s2 h2 => seg_call h2) fun _ _ q => q))))))
end
section
variable {prog : Program} {w : World} {A : Around} {R : GenEnd} {Y : Protocol} {n : Nat} {s₀ s : Shared} {fs : List Frame} {env : Env}
theorem segForLoop {tg : Expr} {itv : Value} {body : List Stmt} {Ex : Value → Shared → Prop}
    (he : ∀ x s', Ex x s' → Seg (model prog w) A R Y n s₀ (.forLoop tg itv body [] env) ((do noteFrame x env; theTreesLotGoes x : Sem Unit).wrap (fun _ => .raise x) .raise id id) fs s')
    (h : wpAny (model prog w) (A.over (.forLoop tg itv body [] env) fs) (pyNext itv) (fun r s1 => match r with
      | none => Seg (model prog w) A R Y n s₀ (.block [] env) (.pure (.done .next)) fs s1
      | some v => wpAny (model prog w) (A.over (.forLoop tg itv body [] env) fs) (letOwnedTupleGo tg itv v) (fun _ s2 => wpAny (model prog w) (A.over (.forLoop tg itv body [] env) fs) (assign tg env v) (fun _ s3 =>
          Seg (model prog w) A R Y n s₀ (.forLoop tg itv body [] env) ((execs body env).wrap (fun f => match f with
            | .next | .cont => .pure (.again (.forLoop tg itv body [] env))
            | .brk => .pure (.done .next)
            | .ret v => .pure (.done (.ret v))) (fun e => (do noteFrame e env; theTreesLotGoes e : Sem Unit).wrap (fun _ => .raise e) .raise id id) id id) fs s3) Ex s2) Ex s1) Ex s) :
    Seg (model prog w) A R Y n s₀ (.forLoop tg itv body [] env) ((model prog w).den (.forLoop tg itv body [] env)) fs s := by
  have eH : ∀ e : Value, (do noteFrame e env; theTreesLotGoes e : Sem Unit).bind (fun _ => (Sem.raise e : Sem PySem.Fin)) = (do noteFrame e env; theTreesLotGoes e : Sem Unit).wrap (fun _ => .raise e) .raise id id := fun e => Sem.bind_eq_wrap _ _
  show Seg _ A R Y n s₀ _ ((forTurn tg itv body [] env).onRaise (fun x => do noteFrame x env; theTreesLotGoes x)) fs s
  unfold forTurn
  rw [Sem.onRaise_eq_wrap]
  have out : ∀ x s', Ex x s' → Seg (model prog w) A R Y n s₀ (.forLoop tg itv body [] env) ((do noteFrame x env; theTreesLotGoes x : Sem Unit).bind (fun _ => (Sem.raise x : Sem PySem.Fin))) fs s' := fun x s' q => by
    rw [eH]
    exact he x s' q
  refine seg_bind_wrap (wpAny_standAt (seg_bind_wrap (wpAny_onRaise (wpAny_mono h (fun r s1 h1 => ?_) fun x s' q => wpAny_standAt (out x s' q)))))
  cases r with
  | none =>
    refine seg_again rfl ?_
    show Seg _ A R Y n s₀ _ (do return Fin.done (← (execs [] env).onRaise (fun x => do noteFrame x env; theTreesLotGoes x))) fs s1
    exact h1
  | some v =>
    refine seg_bind_wrap (wpAny_mono h1 (fun _ s2 h2 => seg_bind_wrap (wpAny_mono h2 (fun _ s3 h3 => ?_) out)) out)
    rw [Sem.bind_eq_wrap', Sem.wrap_wrap]
    rw [Sem.wrap_congr (execs body env) _ _ (K' := fun f => match f with
            | .next | .cont => .pure (.again (.forLoop tg itv body [] env))
            | .brk => .pure (.done .next)
            | .ret v => .pure (.done (.ret v))) (H' := fun e => (do noteFrame e env; theTreesLotGoes e : Sem Unit).wrap (fun _ => .raise e) .raise id id) (fun f => by cases f <;> rfl) (fun e => by exact eH e)]
    exact h3
end
/-! ### the statement -/
def tGFor (wi : TI) (g : TG) (tb : TGn) : TGn := fun D ys σ H => wi σ H fun J H1 => ∃ W : Nat → Nat → List V → L2.St → Hp → Prop, (∃ m, W 0 m ys σ H1) ∧ ∀ i m ys σ H, W i m ys σ H →
  (J.stop i H ∧ D.nx ys σ H) ∨ (J.go i H ∧ ∃ N : List V → L2.St → Hp → Prop, (∀ ys' σ' H', N ys' σ' H' → ∃ m', m' < m ∧ W (i + 1) m' ys' σ' H') ∧ ∀ x H', J.yld i H x H' → g x σ H' fun σ2 H2 => tb { D with nx := N, ct := N, bk := D.nx } ys σ2 H2)
theorem gs_for {X : Cx} {tg iter : Expr} {body : List Stmt} {pos : Pos} {wi : TI} {g : TG} {tb : TGn} (hp : PassesOwn (model X.prog X.w) X.A X.env X.xe) (hc : X.calm = true) (hi : PI X tg iter wi) (hg : PG X tg g) (hb : GSs X body tb)
    (hs : ∀ x, foldedSetIterable iter X.env x = pure x := by intro _; rfl) : GS X (.For tg iter body [] pos) (tGFor wi g tb) := by
  refine ⟨fun A S ip R n ys s₀ c fs K J gd lv s σ H D G hn k hI ht => segFor hs ?_⟩
  rw [G.over]
  obtain ⟨acc0, c0, r0, I0⟩ := hI
  refine wpAny_mono (hi.run _ s σ H _ I0 ht) (fun v s1 h1 => wpAny_mono h1 (fun itv s2 h2 => ?_) fun x s' hx => k.exc n s₀ x s' hx) fun x s' hx => k.exc n s₀ x s' hx
  obtain ⟨it, fp, tn, J', H2, e, I2, T, st2, f2, W, ⟨m0, w0⟩, turn⟩ := h2
  subst e
  intro p
  have gl := fun (kk : Result → Sem PySem.Fin) => gc_loop (k := kk) (c' := .forLoop tg (.ref it) body [] X.env) (l := lv []) (kp := []) (p := p) G rfl rfl
  have fS : ∀ b ∈ fp, b ≠ S := fun b hb => Ne.symm ((f2 b hb).2.2.2.2.2 (S, lstObj acc0 c0) (List.mem_append_right _ List.mem_cons_self))
  have stat : ∀ {H' : Hp} {acc : Array Value} {cc : Nat}, (∀ b ∈ fp, H' b = none) → ∀ b ∈ fp, FpOk X ((S, lstObj acc cc) :: ip) H' b := fun {H' acc cc} hn b hb => by
    obtain ⟨_, q2, q3, q4, q5, q6⟩ := f2 b hb
    refine ⟨hn b hb, q2, q3, q4, q5, fun p hp => ?_⟩
    rcases List.mem_append.mp hp with z | z
    · exact q6 p (List.mem_append_left _ z)
    · rcases List.mem_cons.mp z with z | z
      · rw [z]
        exact Ne.symm (fS b hb)
      · exact q6 p (List.mem_append_right _ (List.mem_cons_of_mem _ z))
  have loop : ∀ (m i n : Nat) (ys : List V) (s₀ s : Shared) (σ : L2.St) (H : Hp), n + ys.length = sizeLine → GI X S ip ys σ H s → tn i s.heap → (∀ b ∈ fp, H b = none) → W i m ys σ H →
      Seg (model X.prog X.w) A R (GY X S) n s₀ (.forLoop tg (.ref it) body [] X.env) ((model X.prog X.w).den (.forLoop tg (.ref it) body [] X.env))
        (.ret (fun r => ((match r with | .ok f => (.pure f : Sem Flow) | .error e => .raise e).onRaise (L2.cameBack X.env)).wrap K J gd lv) none (gd false) (lv []) c p [] :: fs) s := by
    intro m
    induction m using Nat.strongRecOn with
    | ind m ih =>
      intro i n ys s₀ s σ H hn hI st fr w
      have ee : ∀ (n : Nat) (s₀ : Shared) (x : Value) (s' : Shared), X.xe x s' → Seg (model X.prog X.w) A R (GY X S) n s₀ (.forLoop tg (.ref it) body [] X.env) ((do noteFrame x X.env; theTreesLotGoes x : Sem Unit).wrap (fun _ => .raise x) .raise id id)
          (.ret (fun r => ((match r with | .ok f => (.pure f : Sem Flow) | .error e => .raise e).onRaise (L2.cameBack X.env)).wrap K J gd lv) none (gd false) (lv []) c p [] :: fs) s' := fun n s₀ x s' hx => by
        refine seg_wrap ?_
        rw [(gl _).over]
        exact wpAny_bind (wpAny_mono (hp x s' hx) (fun _ s'' q => wpAny_theTreesLotGoes (seg_leaf (.error x) (seg_cameBack G k q))) fun y s'' q => seg_leaf (.error y) (seg_cameBack G k q))
      obtain ⟨acc, cc, r, I⟩ := hI
      refine segForLoop (Ex := X.xe) (ee n s₀) ?_
      rw [(gl _).over]
      rcases turn i m ys σ H w with ⟨stop, qn⟩ | ⟨go, N, hN, step⟩
      · refine wpAny_mono (T.done X rfl rfl rfl hc i _ s σ H X.xe I (stat fr) st stop) (fun r4 s4 ⟨hr, I4⟩ => ?_) fun _ _ q => q
        subst hr
        exact seg_leaf (.ok .next) (k.ok n ys s₀ s4 .next hn ⟨σ, H, ⟨acc, cc, r, I4⟩, qn⟩)
      · refine wpAny_mono (T.item X rfl rfl rfl hc i _ s σ H X.xe I (stat fr) st go) (fun r4 s4 ⟨u, hr, h4⟩ => ?_) fun _ _ q => q
        subst hr
        refine wpAny_mono h4 (fun _ s5 ⟨x, H5, I5, r5, y5, st5, fr5⟩ => ?_) fun _ _ q => q
        have I5' := I5.pinned (stat fr5) (T.obj _ _ st5)
        refine wpAny_mono (hg.run _ s5 σ H5 x u _ I5' r5 (step x H5 y5)) (fun _ s6 ⟨σ6, H6, I6, q6⟩ => ?_) fun _ _ q => q
        have ipS : ∀ q ∈ ip ++ pinsAt fp s5.heap, q.1 ≠ S := fun q hq => by
          rcases List.mem_append.mp hq with z | z
          · exact G.ip q z
          · exact fS q.1 (of_pinsAt z).1
        have Gn : ∀ kk, GC X S (ip ++ pinsAt fp s5.heap) A (.forLoop tg (.ref it) body [] X.env) (.ret kk none (gd false) (lv []) c p [] :: fs) id := fun kk => ⟨(gl kk).pn, ipS, (gl kk).apart, (gl kk).over, (gl kk).split, (gl kk).guard, rfl⟩
        refine hb.run A S (ip ++ pinsAt fp s5.heap) R n ys s₀ _ _ _ _ id id s6 σ6 H6 { D with nx := N, ct := N, bk := D.nx } (Gn _) hn ⟨fun n' ys' s₀' s7 f hn' hs => ?_, fun n' s₀' x s7 hx => ee n' s₀' x s7 hx⟩ ⟨acc, cc, r, I6⟩ q6
        have again : ∀ {σ7 : L2.St} {H7 : Hp}, GI X S (ip ++ pinsAt fp s5.heap) ys' σ7 H7 s7 → N ys' σ7 H7 → Seg (model X.prog X.w) A R (GY X S) n' s₀' (.forLoop tg (.ref it) body [] X.env) (.pure (.again (.forLoop tg (.ref it) body [] X.env)))
            (.ret (fun r => ((match r with | .ok f => (.pure f : Sem Flow) | .error e => .raise e).onRaise (L2.cameBack X.env)).wrap K J gd lv) none (gd false) (lv []) c p [] :: fs) s7 := fun {σ7 H7} I7 n7 => by
          obtain ⟨m', hm, w7⟩ := hN ys' σ7 H7 n7
          obtain ⟨acc7, c7, r7, J7⟩ := I7
          have at7 : ∀ q ∈ pinsAt fp s5.heap, s7.heap.get? q.1 = some q.2 ∧ H7 q.1 = none := fun q hq => by
            have z := J7.pin q (List.mem_append_right _ (List.mem_cons_of_mem _ (List.mem_append_right _ hq)))
            exact ⟨z.1, z.2.1⟩
          refine seg_again rfl (ih m' hm (i + 1) n' ys' s₀' s7 σ7 H7 hn' ⟨acc7, c7, r7, J7.pins_of fun q hq => J7.pin q (List.mem_append_right _ ?_)⟩ (T.keep _ _ _ st5 fun b hb o e => (at7 (b, o) (mem_pinsAt hb e)).1) (fun b hb => ?_) w7)
          · rcases List.mem_cons.mp hq with z | z
            · rw [z]
              exact List.mem_cons_self
            · exact List.mem_cons_of_mem _ (List.mem_append_left _ z)
          · obtain ⟨o, e, d⟩ := T.obj _ _ st5 b hb
            exact (at7 (b, o) (mem_pinsAt hb e)).2
        have back : ∀ {zs : List V} {σ7 : L2.St} {H7 : Hp}, GI X S (ip ++ pinsAt fp s5.heap) zs σ7 H7 s7 → GI X S ip zs σ7 H7 s7 := fun {zs σ7 H7} ⟨acc7, c7, r7, J7⟩ => ⟨acc7, c7, r7, J7.pins_of fun q hq => J7.pin q (List.mem_append_right _ (by
          rcases List.mem_cons.mp hq with z | z
          · rw [z]
            exact List.mem_cons_self
          · exact List.mem_cons_of_mem _ (List.mem_append_left _ z)))⟩
        cases f with
        | next => obtain ⟨σ7, H7, I7, n7⟩ := hs; exact again I7 n7
        | cont => obtain ⟨σ7, H7, I7, n7⟩ := hs; exact again I7 n7
        | brk => obtain ⟨σ7, H7, I7, q7⟩ := hs; exact seg_leaf (.ok .next) (k.ok n' ys' s₀' s7 .next hn' ⟨σ7, H7, back I7, q7⟩)
        | ret v => obtain ⟨x7, σ7, H7, I7, r7, q7⟩ := hs; exact seg_leaf (.ok (.ret v)) (k.ok n' ys' s₀' s7 (.ret v) hn' ⟨x7, σ7, H7, back I7, r7, q7⟩)
  exact loop m0 0 n ys s₀ s2 σ H2 hn ⟨acc0, c0, r0, I2⟩ st2 (fun b hb => (f2 b hb).1) w0
end Cm
end
section
set_option linter.all false
set_option maxRecDepth 100000
set_option maxHeartbeats 2000000
/-! R1: an own exception over ValueError whose __init__ says super().__init__(text), then self.path = path -/
namespace Cm
open PySem PySem.Spec PyProof.Rows L2
/-- the argument of super().__init__ comes to a text and changes nothing -/
def ToText (X : Cx) (e : Expr) (σ : L2.St) (H : Hp) : Prop := ∃ te : TE, PE X e te ∧ ∀ Q : VK, (∀ m : Str, Q (.str m) H) → te σ H Q
section
variable {X : Cx} {pins : List (Addr × Obj)} {σ : L2.St} {H : Hp} {s : Shared} {a C D cc f cda : Addr}
/-- the bound built-in __init__ is called -/
theorem call_mw {u : Addr} {us : List Value} {Q : Value → Shared → Prop} {A : Around} {E : Value → Shared → Prop} (T : OexC X.K C) (I : Inv X pins σ H s) (e : H a = some (exo a C none)) (hu : s.heap.get? u = some (PySem.W.kxs_mw "ValueError.__init__" a)) (hl : us.length ≤ sizeLine)
    (h : ∀ s', Inv X pins σ H s' → Q .none s') : wpAny (model X.prog X.w) A (call (.ref u) us) Q E s := by
  obtain ⟨nm, q, N, bs, bm, sn, sub, ab, col, dd, k0, k1, k2, k3, k5, hC, hbm⟩ := T.cls
  obtain ⟨t1, ho⟩ := exo_at I.hok e
  have hCs := I.kIn _ _ hC
  obtain ⟨hp, g, d, t, os⟩ := s
  have FB : ExcBaseFacts "ValueError" "ValueError.__new__" "ValueError.__init__" _ := PySem.F.excBase_ValueError
  refine wpAny_call (codeAny_of_tree (show wpAny _ A.in1 (callAny (.ref u) ⟨us, []⟩) _ _ _ from ?_))
  simp only [callAny]
  refine wpAny_bind (wpAny_load hu ?_)
  have eT : (Value.type "method-wrapper" == Value.type "method" || Value.type "method-wrapper" == Value.type "builtin_function_or_method" || Value.type "method-wrapper" == Value.type "method-wrapper") = true := by decide
  simp only [PySem.W.kxs_mw, eT, if_true]
  refine PySem.W.KFB.if_so (by decide) (wpAny_bind (PySem.W.check_bound_init FB.toExcCallFacts hCs ho rfl ?_))
  refine wpAny_bind (wpAny_pure (wpAny_pure ⟨plainId_quiet FB.init.plain _, codeAny_builtin FB.initEntry ?_⟩))
  refine PySem.W.exc_init_tree (cls := .ref C) (t0 := t1) (dv := none) (c2 := .none) (c3 := .none) (b4 := .bool false) ho hl fun h' k hx _ => ?_
  have J := I.write (t' := t) (x := a) (e := a) (o := exo a C none) (by rw [e]; exact True.intro) (.inl rfl) k ⟨_, hx⟩ (exo_ok hx)
  have eu : upd H a (exo a C none) = H := by
    funext b
    by_cases hb : b = a
    · rw [hb, upd_same, e]
    · rw [upd_ne hb]
  rw [eu] at J
  exact h _ J
/-- what stands in the module about such a class and its def -/
structure SupC (prog : Program) (K : PySem.W.Frag) (mg : Str → Option Value) (C cc cda : Addr) : Prop where
  T : OexC K C
  cd : ∃ cdD, PySem.W.clsIn K C = some cdD
  op : PySem.W.nsIn K cStatics "thirdparty.any" = some none
  hm : PySem.W.ks_superIn K C C "__init__" = some (some (.builtin "ValueError.__init__"))
  hB : PySem.W.subIn K (.ref C) (.type "ValueError") = some true
  hs : PySem.W.mroIn K C (.ref C) = some true
  cell : ∃ cl cld csl, K.lookup cc = some ⟨cl, cld, .cell (some (.ref C)), csl⟩
  code : ∃ ccl cdd vs ccs file tf, K.lookup cda = some ⟨ccl, cdd, .fields vs, ccs⟩ ∧ vs[2]? = some (.str file tf) ∧ ((prog.main.file : Str) == file) = true
  top : (prog.main.scope.names.lookup ("super" : Str)).isSome = false
  g : mg "super" = none
/-- the statement super().__init__(e), first in the def's body -/
theorem run_super {L : Addr} {q : Str} {scope : Scope} {body rest : List Stmt} {e : Expr} {p0 p1 p2 p3 p4 : Pos} {Q : Flow → Shared → Prop} {oc : Value} {od : Option Addr} {osl : Array (Option Value)} {fd : FuncData} {ar : Arg} {A : Around} {E : Value → Shared → Prop}
    (SC : SupC X.prog X.K X.mg C cc cda) (hA : X.A = A) (hxe : X.xe = E) (hX : X.env = PySem.W.envX q scope L f (.ref cda) [("__class__", cc)]) (hf : X.K.lookup f = some ⟨oc, od, .func fd, osl⟩) (hp : (fd.params.posonlyargs ++ fd.params.args).head? = some ar) (har : ar.arg = ("self" : Str))
    (hN : X.N[0]? = some ("self" : Str)) (hk : scope.kind = .function) (hks : scope.names.lookup ("super" : Str) = some .globalImplicit) (hkc : scope.names.lookup ("__class__" : Str) = some .free) (hka : scope.names.lookup ("self" : Str) = some .local)
    (I : Inv X pins σ H s) (hσ : σ[0]? = some (some (.ref a))) (ea : H a = some (exo a C none)) (ht : ToText X e σ H)
    (he1 : starEach [e] X.env = (false, eval e X.env) :: starEach [] X.env) (hi : interactive X.env = false) (hsw : swapsWith (.Call (.Attribute (.Call (.Name "super" p0) [] [] p1) "__init__" p2) [e] [] p3) none p4.line X.env = pure false)
    (hev : ∃ pl, eval (.Call (.Attribute (.Call (.Name "super" p0) [] [] p1) "__init__" p2) [e] [] p3) X.env = (do
      let ov ← attributeBase (.Call (.Name "super" p0) [] [] p1) "__init__" X.env (eval (.Call (.Name "super" p0) [] [] p1) X.env)
      standAt p2.atName
      let (f, first) ← holding [ov] (getMethod ov "__init__" pl)
      callWith p3 f first (backTo p3 (starEach [e] X.env)) []))
    (h : ∀ s', Inv X pins σ H s' → PySem.wpAt (model X.prog X.w) A (.func body X.env) (execs rest X.env) Q E s') :
    PySem.wpAt (model X.prog X.w) A (.func body X.env) (execs (.Expr (.Call (.Attribute (.Call (.Name "super" p0) [] [] p1) "__init__" p2) [e] [] p3) p4 :: rest) X.env) Q E s := by
  subst hA hxe
  obtain ⟨pl, hev⟩ := hev
  obtain ⟨te, pt, kt⟩ := ht
  obtain ⟨t1, ho⟩ := exo_at I.hok ea
  obtain ⟨cdD, hcd⟩ := SC.cd
  obtain ⟨cl, cld, csl, hcell⟩ := SC.cell
  obtain ⟨ccl, cdd, vs, ccs, file, tf, hcode, hvs, hfile⟩ := SC.code
  have KX := I.kIn
  obtain ⟨mf, fr⟩ := I.fr
  have IA : PySem.W.InstAt s.heap a _ C none := ⟨ho, rfl, rfl, trivial⟩
  obtain ⟨oD, hD1, hD2⟩ : ∃ oD, s.heap.get? C = some oD ∧ oD.data = .cls cdD := by
    unfold PySem.W.clsIn at hcd
    split at hcd
    · rename_i c d cd' sl ho'
      cases hcd
      exact ⟨_, KX _ _ ho', rfl⟩
    · cases hcd
  refine PySem.ks_wpAt_execs_cons (PySem.ks_wpAt_Expr_any (PySem.ks_wpAt_MethodCall ?_ hev) hi hsw)
  refine PySem.ks_wpAt_super_base (by rw [hX]; exact hks) (by rw [hX]; exact hkc) (by decide) (by rw [hX]) (KX _ _ hf) rfl hp (by rw [hX]) (KX _ _ hcode) rfl hvs hfile SC.top ?_
  have kin : X.env.scope.kind = .function := I.ok.kind
  obtain ⟨mb, hb1, hb2⟩ := I.mod.blt
  refine PySem.W.ks_loadName_global kin (by rw [hX]; exact hks) (PySem.Calls.loadGlobal_builtin (by rw [I.ok.glob]; exact I.mod.glob.keeps I.bk) SC.g (by rw [I.ok.blt]; exact hb1.keeps I.bk) ((hb2 "super" (by decide)).trans PyProof.Rows.Boot.«super») ⟨rfl, ?_⟩)
  refine wpAny_loadName_free kin (by rw [hX]; exact hkc) (by rw [hX]; rfl) ⟨_, KX _ _ hcell, rfl⟩ ?_
  obtain ⟨m, hn, hl⟩ := I.loc
  obtain ⟨u, r, lk⟩ := hl 0 "self" _ hN hσ (by rw [hX]; exact .inl hka)
  cases (show u = Value.ref a from r)
  rw [har]
  have hloc : m "self" = some (.ref a) := by
    rcases lk with ⟨_, z⟩ | ⟨z, _⟩
    · exact z
    · rw [hX] at z
      rcases z with z | z
      · exact absurd (hka.symm.trans z) (by decide)
      · exact absurd (hka.symm.trans z) (by decide)
  refine wpAny_loadName_local kin (by rw [hX]; exact hka) hn hloc ?_
  obtain ⟨hp', g, d, t, os⟩ := s
  refine PySem.ks_wpAny_isType_cls hD1 hD2 ⟨rfl, ?_⟩
  refine PySem.ks_wpAny_call_super hD1 hD2 ho rfl (fun c z => by cases z) (PySem.W.looks_mroIn KX SC.hs) fun h1 e1 k1 => ?_
  have I1 : Inv X pins σ H ⟨h1, g, d, t, os⟩ := I.kept k1
  have KX1 := I1.kIn
  have IA1 : PySem.W.InstAt h1 a _ C none := ⟨k1 _ _ ho, rfl, rfl, trivial⟩
  have hm := SC.hm
  unfold PySem.W.ks_superIn at hm
  rw [hcd] at hm
  refine PySem.W.kxs_getMethod PySem.W.kxs_ValueError e1 (PySem.W.looks_opaque KX1 SC.op) (l₀ := cdD.mro) (fun A Q E s k q => wpAny_bind ((PySem.W.looks_clsIn KX1 hcd) A _ E s k (wpAny_pure q))) rfl KX1 hm (IA1.type.andThen (PySem.W.looks_subIn KX1 SC.hB)) (PySem.W.ks_ne KX1 IA1 hcd) (by decide) ?_
  have hmw : (h1.push (PySem.W.kxs_mw "ValueError.__init__" a)).get? h1.objs.size = some (PySem.W.kxs_mw "ValueError.__init__" a) := Heap.get?_push_at rfl rfl
  have I2 := ClX.pin_new (t' := t + 1) I1 (h' := h1.push (PySem.W.kxs_mw "ValueError.__init__" a)) (fun b o z => Heap.get?_push_of_some _ z) (Nat.le_refl _) hmw (fun v z => by cases z)
  have key : ∀ R : Value → Shared → Prop, (∀ s', Inv X pins σ H s' → R .none s') → wpAny (model X.prog X.w) X.A (spliced (backTo p3 (starEach [e] X.env))) (fun us s3 => PySem.W.KxsAt "ValueError.__init__" h1.objs.size a s3.heap ∧ wpAny (model X.prog X.w) X.A (call (.ref h1.objs.size) us) R X.xe s3) X.xe ⟨h1.push (PySem.W.kxs_mw "ValueError.__init__" a), g, d, t + 1, os⟩ := fun R hR => by
    refine thn ((pa_cons pt pa_nil he1).run p3 _ _ _ _ (fun vs H' => H' = H ∧ ∃ m : Str, vs = [.str m]) I2 (kt _ fun m => ⟨rfl, m, rfl⟩)) fun us s3 ⟨vs', H3, I3, r3, eH, m, ev⟩ => ?_
    subst eH ev
    refine ⟨ClX.pin_at I3, ?_⟩
    have hlen : us.length ≤ sizeLine := by
      rw [← r3.length, sizeLine_eq]
      show 1 ≤ _
      omega
    exact call_mw SC.T I3 ea (ClX.pin_at I3) hlen fun s4 I4 => hR s4 (ClX.unpin I4)
  have key := key (fun _ s5 => PySem.wpAt (model X.prog X.w) X.A (.func body X.env) (execs rest X.env) Q X.xe s5) h
  show wpAny _ _ (callWith p3 (.ref h1.objs.size) [] (backTo p3 (starEach [e] X.env)) []) _ _ _
  rw [he1] at key ⊢
  exact PySem.W.kxs_callWith (i := "ValueError.__init__") (x := a) rfl (PySem.Calls.evalArgs_plain key)
end
end Cm
end
section
set_option linter.all false
set_option maxRecDepth 100000
set_option maxHeartbeats 2000000
/-! R2: InvalidBlock.__init__, NoStatement.__init__; what raise leaves -/
namespace Cm
open PySem PySem.Spec PyProof.Rows L2
/-! ### a tuple of ints in an f-string -/
theorem repr_ints {prog : Program} {w : World} : ∀ {l : List Int} {its : List Value}, Vals (l.map V.int) its → (∀ y ∈ l, y.natAbs.log2 < 1920) → ReprAll prog w its (l.map fun y => (toString y : Str))
  | [], _, r, _ => by
    cases r
    exact .nil
  | y :: l, _, r, h => by
    cases r with
    | cons r1 r2 =>
      obtain ⟨t, rfl⟩ := r1
      exact .cons (ReprIs.int t (h y List.mem_cons_self)) (repr_ints r2 fun z hz => h z (List.mem_cons_of_mem _ hz))
theorem piled_ints : ∀ l : List Int, (∀ y ∈ l, y.natAbs.log2 < 1920) → piled (l.map fun y => (toString y : Str)) ≤ 1923 * l.length
  | [], _ => Nat.zero_le _
  | y :: l, h => by
    have h1 := PyProof.Rows.int_text_len_1921 (h y List.mem_cons_self)
    have h2 := piled_ints l fun z hz => h z (List.mem_cons_of_mem _ hz)
    rw [List.map_cons, piled_cons, List.length_cons]
    have h1' : ((toString y : Str)).length ≤ 1921 := h1
    omega
def tFmtI (K : PySem.W.Frag) (te : TE) : TE := fun σ H Q => te σ H fun x H1 => ∃ (a : Addr) (l : List Int), x = .ref a ∧ SqT K H1 a (l.map V.int) ∧ (∀ y ∈ l, y.natAbs.log2 < 1920) ∧ l.length ≤ 1000 ∧ ∀ m : Str, m.length ≤ 2000000 → Q (.str m) H1
theorem pe_fmtI {X : Cx} {e : Expr} {te : TE} {pos : Pos} {k : Nat} (hr : Room k X.A) (he : PE X e te) : PE X (.FormattedValue e (-1) none pos) (tFmtI X.K te) := by
  refine ⟨fun pins s σ H Q I h => wpAny_FormattedValue_plain (thn (he.run pins s σ H _ I h) fun v s1 ⟨x, H1, I1, r1, a, l, ex, ht, hc, hz, q⟩ => ?_)⟩
  subst ex
  cases r1
  obtain ⟨its, rv, ⟨o, ho, hcl, n, hd⟩, _⟩ := I1.tuple ht
  have hp := piled_ints l hc
  have htx := fmt_text (l.map fun y => (toString y : Str))
  have hu := hr.units
  have hs := sizeLine_eq
  exact fmt_tuple (ts := l.map fun y => (toString y : Str)) (by omega) ho hcl hd (repr_ints rv hc) (by omega) fun m u tk hm => ⟨.str m, H1, I1.tok _, ⟨u, rfl⟩, q m (by omega)⟩

/-! ### the def -/
/-- an exception's __init__ of the text, as it stands behind the top: it holds its class in the cell cc -/
structure FunX (K : PySem.W.Frag) (qual : Str) (st : Stmt) (cc cda f : Addr) (fd : FuncData) : Prop where
  ex : ∃ (oc : Value) (od : Option Addr) (kV doc pm : Value) (an : Option Addr) (ct : Value) (osl : Array (Option Value)),
    fd = PySem.W.fnX "__init__" qual (defArgs st) (defBody st) (defScope st) [("__class__", cc)] .none kV doc pm an (.ref cda) ct ∧ K.lookup f = some ⟨oc, od, .func fd, osl⟩ ∧ PySem.W.codeIn K (.ref cda) qual = true
/-- its words -/
structure InitIs (st : Stmt) (e : Expr) (p0 p1 p2 p3 p4 p5 p6 p7 p8 : Pos) : Prop where
  b : defBody st = [.Expr (.Call (.Attribute (.Call (.Name "super" p0) [] [] p1) "__init__" p2) [e] [] p3) p4, .Assign [.Attribute (.Name "self" p5) "path" p6] (.Name "path" p7) p8]
  s : NdefX.NScope ["self", "path", "__class__"] ["self", "path"] ["__class__"] (defScope st)
  k : (defScope st).names.lookup ("super" : Str) = some .globalImplicit
  a : ∃ ar, ((defArgs st).posonlyargs ++ (defArgs st).args).head? = some ar ∧ ar.arg = ("self" : Str)
  l : ∀ us : List Value, us.length = 2 → ∀ qual bd sc cl kV doc pm an cd ct, bindArgs (PySem.W.fnX "__init__" qual (defArgs st) bd sc cl .none kV doc pm an cd ct) ⟨us, []⟩ = pure ((["self", "path"] : List Str).zip us)
def spXI (C : Addr) (ok : Hp → V → Prop) : Sp := fun vs H Q _ => ∃ (a : Addr) (v : V), vs = [.ref a, v] ∧ H a = some (exo a C none) ∧ ok H v ∧ ∀ d, H d = none → d ≠ a → Q .non (upd (upd H d (exd d [("path", v)])) a (exo a C (some d)))
/-- the context of its body -/
abbrev cxI (P : Program) (w : World) (K : PySem.W.Frag) (mg : Str → Option Value) (base : Heap) (st : Stmt) (qual : Str) (cc cda f : Addr) (A : Around) (outer : List Env) (s : Shared) (H : Hp) (E : XK) : Cx :=
  NdefX.ncx CX0 P w K mg base ["self", "path", "__class__"] ⟨"__init__", qual, defArgs st, defBody st, defScope st, [("__class__", cc)], cda⟩ f A outer s H E
/-- how the machine reads super().__init__(e) there -/
structure Says (env : Env) (e : Expr) (p0 p1 p2 p3 p4 : Pos) : Prop where
  s : starEach [e] env = (false, eval e env) :: starEach [] env
  i : interactive env = false
  w : swapsWith (.Call (.Attribute (.Call (.Name "super" p0) [] [] p1) "__init__" p2) [e] [] p3) none p4.line env = pure false
  c : ∃ pl, eval (.Call (.Attribute (.Call (.Name "super" p0) [] [] p1) "__init__" p2) [e] [] p3) env = (do
        let ov ← attributeBase (.Call (.Name "super" p0) [] [] p1) "__init__" env (eval (.Call (.Name "super" p0) [] [] p1) env)
        standAt p2.atName
        let (f, first) ← holding [ov] (getMethod ov "__init__" pl)
        callWith p3 f first (backTo p3 (starEach [e] env)) [])
theorem ok_xinit {P : Program} {w : World} {K : PySem.W.Frag} {mg : Str → Option Value} {base : Heap} {k : Nat} {qual : Str} {st : Stmt} {e : Expr} {C cc cda f : Addr} {fd : FuncData} {ok : Hp → V → Prop} {p0 p1 p2 p3 p4 p5 p6 p7 p8 : Pos}
    (F : FunX K qual st cc cda f fd) (W : InitIs st e p0 p1 p2 p3 p4 p5 p6 p7 p8) (SC : SupC P K mg C cc cda) (hno : PySem.W.findIn K (.ref C) "path" = some none)
    (hev : ∀ A outer s H E, Says (cxI P w K mg base st qual cc cda f A outer s H E).env e p0 p1 p2 p3 p4)
    (ht : ∀ A outer s H E a v, Room k (cxI P w K mg base st qual cc cda f A outer s H E).A → ok H v → ToText (cxI P w K mg base st qual cc cda f A outer s H E) e [some (.ref a), some v, none] H) :
    FnOk P w K mg base CX0 (k + 1) f fd ["self", "path"] (spXI C ok) := by
  obtain ⟨oc, od, kV, doc, pm, an, ct, osl, rfl, lk, hcd⟩ := F.ex
  refine ⟨fun vs H Q E h => ?_, fun A outer s H args us vs Q E hr e0 hb r h => ?_⟩
  · obtain ⟨a, v, rfl, _⟩ := h
    rfl
  obtain ⟨a, v, rfl, ea, hv, kq⟩ := h
  have KX : K.In s.heap := e0.mod.kin.keeps fun b o e => (e0.bs b o e).1
  have lim : s.heap.NoLimit := e0.mod.nolimit.keeps fun b o e => (e0.bs b o e).1
  obtain ⟨cl, cld, csl, hcell⟩ := SC.cell
  have hbs : ∀ {b o}, K.lookup b = some o → H b = none := fun {b o} z => (e0.bs b o (e0.mod.kin b o z)).2
  refine PySem.ks_codeAny_call_defAt (binds := (["self", "path"] : List Str).zip us) hr.depth (KX _ _ lk) rfl lim (PySem.W.codeRec_of KX hcd) rfl hb W.s.nocell (fun y hy => W.s.par y.1 (List.of_mem_zip hy).1) (fun h₁ hns kp => ?_) W.s.co W.s.gen W.s.kind
  have CA : NdefX.CellsAt [("__class__", cc)] ["__class__"] [none] s.heap H := by
    refine ⟨rfl, fun y c z => ?_, fun x y c z1 z2 => ?_, fun i y z => ?_⟩
    · rw [List.lookup] at z
      split at z
      · cases z
        exact ⟨hbs hcell, _, _, KX _ _ hcell, rfl⟩
      · cases z
    · rw [List.lookup] at z1 z2
      split at z1
      · split at z2
        · rename_i h1 _ h2
          exact (beq_iff_eq.mp h1).trans (beq_iff_eq.mp h2).symm
        · cases z2
      · cases z1
    · match i, z with
      | 0, z =>
        cases z
        exact ⟨cc, rfl, fun v z => by cases z⟩
  have I : Inv (cxI P w K mg base st qual cc cda f A outer s H E) [] (NdefX.startF ["self", "path", "__class__"] [.ref a, v] [none]) H { s with heap := h₁, toks := s.toks + ((["self", "path"] : List Str).zip us).length } :=
    NdefX.inv_startN (F := ⟨"__init__", qual, defArgs st, defBody st, defScope st, [("__class__", cc)], cda⟩) W.s hr.hd e0 rfl r CA hns kp
  have hr' : Room k (cxI P w K mg base st qual cc cda f A outer s H E).A := hr.deeper _
  obtain ⟨ar, ha1, ha2⟩ := W.a
  obtain ⟨he1, hin, hsw, hcall⟩ := hev A outer s H E
  show PySem.wpAt _ _ (.func (defBody st) (cxI P w K mg base st qual cc cda f A outer s H E).env) (execs (defBody st) (cxI P w K mg base st qual cc cda f A outer s H E).env) _ _ _
  rw [W.b]
  refine PySem.ks_wpAt_mono (run_super (X := cxI P w K mg base st qual cc cda f A outer s H E) (Q := SP (cxI P w K mg base st qual cc cda f A outer s H E) [] { nx := fun _ H' => Q .non H', rt := Q }) SC rfl rfl rfl lk ha1 ha2 rfl W.s.kind W.k (W.s.frk _ (by simp)) (W.s.par _ (by simp)) I rfl ea (ht A outer s H E a v hr' hv) he1 hin hsw hcall fun s2 I2 => wpAt_of_wpAny ?_) (fun fl s' hs => ?_) fun e s' hs => hs
  · refine (pss_one (ps_ost (pe_var (i := 0) rfl (.inl (W.s.par _ (by simp)))) (pe_var (i := 1) rfl (.inl (W.s.par _ (by simp)))))).run [] s2 _ H _ I2 ?_
    exact ⟨v, rfl, .ref a, rfl, a, C, rfl, SC.T, hno, .inl ⟨ea, fun dx n ne => kq dx n ne⟩⟩
  · cases fl with
    | ret u =>
      obtain ⟨v, σ', H', J, rv, q⟩ := hs
      exact ⟨v, H', J.os, J.bare, J.base, J.hok, rv, q⟩
    | next =>
      obtain ⟨σ', H', J, q⟩ := hs
      exact ⟨.non, H', J.os, J.bare, J.base, J.hok, rfl, q⟩
    | brk =>
      obtain ⟨_, _, _, q⟩ := hs
      exact q.elim
    | cont =>
      obtain ⟨_, _, _, q⟩ := hs
      exact q.elim
theorem FunX.binds {K : PySem.W.Frag} {qual : Str} {st : Stmt} {e : Expr} {cc cda f : Addr} {fd : FuncData} {p0 p1 p2 p3 p4 p5 p6 p7 p8 : Pos} (F : FunX K qual st cc cda f fd) (W : InitIs st e p0 p1 p2 p3 p4 p5 p6 p7 p8) : Binds K fd ["self", "path"] [] := by
  obtain ⟨oc, od, kV, doc, pm, an, ct, osl, rfl, lk, hcd⟩ := F.ex
  exact .all fun us hl => W.l us hl _ _ _ _ _ _ _ _ _ _
end Cm
end
section
set_option maxRecDepth 100000
set_option maxHeartbeats 4000000
namespace W1
open PySem L2 Cm
def top (i : Nat) : Stmt := PySem.Challenge.pw_answerparts_k20_mends_made.main.body.getD i (.Pass ⟨0, 0, 0, 0⟩)
abbrev s_InvalidBlock_init : Stmt := inClass (top 3) 0
-- generator InvalidBlock_init: N ["self", "path", "__class__"] ps ["self", "path"]
abbrev s_NoStatement_init : Stmt := inClass (top 4) 0
-- generator NoStatement_init: N ["self", "path", "__class__"] ps ["self", "path"]
abbrev s_is_number : Stmt := top 6
theorem sc_is_number : FnScope ["value", "most"] ["value", "most"] (defScope s_is_number) := ⟨rfl, rfl, rfl, by decide +kernel, rfl, by decide +kernel, by decide +kernel⟩
abbrev s_is_name : Stmt := top 17
theorem sc_is_name : FnScope ["value", "sign"] ["value"] (defScope s_is_name) := ⟨rfl, rfl, rfl, by decide +kernel, rfl, by decide +kernel, by decide +kernel⟩
abbrev s_are_lists : Stmt := top 18
theorem sc_are_lists : FnScope ["lists", "kept", "name"] ["lists", "kept"] (defScope s_are_lists) := ⟨rfl, rfl, rfl, by decide +kernel, rfl, by decide +kernel, by decide +kernel⟩
abbrev s_blocks_of : Stmt := top 19
theorem sc_blocks_of : FnScope ["statement", "at"] ["statement"] (defScope s_blocks_of) := ⟨rfl, rfl, rfl, by decide +kernel, rfl, by decide +kernel, by decide +kernel⟩
abbrev s_walk : Stmt := top 20
-- generator walk: N ["block", "around", "index", "statement", "path", "number", "inner", "within"] ps ["block", "around"]
abbrev s_is_faulty : Stmt := top 21
theorem sc_is_faulty : FnScope ["lists", "path", "statement", "word", "at"] ["lists", "path", "statement"] (defScope s_is_faulty) := ⟨rfl, rfl, rfl, by decide +kernel, rfl, by decide +kernel, by decide +kernel⟩
abbrev s_checked_rows : Stmt := top 22
theorem sc_checked_rows : FnScope ["lists", "block", "rows", "path", "statement"] ["lists", "block"] (defScope s_checked_rows) := ⟨rfl, rfl, rfl, by decide +kernel, rfl, by decide +kernel, by decide +kernel⟩
abbrev s_found_at : Stmt := top 23
theorem sc_found_at : FnScope ["block", "path", "numbers", "blocks", "statement", "at", "number", "index"] ["block", "path"] (defScope s_found_at) := ⟨rfl, rfl, rfl, by decide +kernel, rfl, by decide +kernel, by decide +kernel⟩
abbrev s_with_item : Stmt := top 24
theorem sc_with_item : FnScope ["row", "at", "value"] ["row", "at", "value"] (defScope s_with_item) := ⟨rfl, rfl, rfl, by decide +kernel, rfl, by decide +kernel, by decide +kernel⟩
abbrev s_with_statement_at : Stmt := top 25
theorem sc_with_statement_at : FnScope ["block", "path", "statement", "index", "around", "at", "inner"] ["block", "path", "statement"] (defScope s_with_statement_at) := ⟨rfl, rfl, rfl, by decide +kernel, rfl, by decide +kernel, by decide +kernel⟩
abbrev s_Program_init : Stmt := inClass (top 26) 0
theorem sc_Program_init : FnScope ["self", "lists", "block", "kept", "name"] ["self", "lists", "block", "kept"] (defScope s_Program_init) := ⟨rfl, rfl, rfl, by decide +kernel, rfl, by decide +kernel, by decide +kernel⟩
abbrev s_Program_lists : Stmt := inClass (top 26) 1
theorem sc_Program_lists : FnScope ["self"] ["self"] (defScope s_Program_lists) := ⟨rfl, rfl, rfl, by decide +kernel, rfl, by decide +kernel, by decide +kernel⟩
abbrev s_Program_block : Stmt := inClass (top 26) 2
theorem sc_Program_block : FnScope ["self"] ["self"] (defScope s_Program_block) := ⟨rfl, rfl, rfl, by decide +kernel, rfl, by decide +kernel, by decide +kernel⟩
abbrev s_Program_kept : Stmt := inClass (top 26) 3
theorem sc_Program_kept : FnScope ["self"] ["self"] (defScope s_Program_kept) := ⟨rfl, rfl, rfl, by decide +kernel, rfl, by decide +kernel, by decide +kernel⟩
abbrev s_Program_len : Stmt := inClass (top 26) 4
theorem sc_Program_len : FnScope ["self"] ["self"] (defScope s_Program_len) := ⟨rfl, rfl, rfl, by decide +kernel, rfl, by decide +kernel, by decide +kernel⟩
abbrev s_Program_eq : Stmt := inClass (top 26) 5
theorem sc_Program_eq : FnScope ["self", "other"] ["self", "other"] (defScope s_Program_eq) := ⟨rfl, rfl, rfl, by decide +kernel, rfl, by decide +kernel, by decide +kernel⟩
abbrev s_Program_getitem : Stmt := inClass (top 26) 6
theorem sc_Program_getitem : FnScope ["self", "path", "statement"] ["self", "path"] (defScope s_Program_getitem) := ⟨rfl, rfl, rfl, by decide +kernel, rfl, by decide +kernel, by decide +kernel⟩
abbrev s_Program_iter : Stmt := inClass (top 26) 7
theorem sc_Program_iter : FnScope ["self"] ["self"] (defScope s_Program_iter) := ⟨rfl, rfl, rfl, by decide +kernel, rfl, by decide +kernel, by decide +kernel⟩
abbrev s_Program_paths : Stmt := inClass (top 26) 8
-- generator Program_paths: N ["self", "word", "path", "statement"] ps ["self", "word"]
abbrev s_Program_with_statement : Stmt := inClass (top 26) 9
theorem sc_Program_with_statement : FnScope ["self", "path", "statement", "block"] ["self", "path", "statement"] (defScope s_Program_with_statement) := ⟨rfl, rfl, rfl, by decide +kernel, rfl, by decide +kernel, by decide +kernel⟩
abbrev s_is_send : Stmt := top 28
theorem sc_is_send : FnScope ["program", "path", "statement"] ["program", "path"] (defScope s_is_send) := ⟨rfl, rfl, rfl, by decide +kernel, rfl, by decide +kernel, by decide +kernel⟩
abbrev s_mended : Stmt := top 29
theorem sc_mended : FnScope ["program", "paths", "lists", "path", "changed", "kept", "name"] ["program", "paths", "lists"] (defScope s_mended) := ⟨rfl, rfl, rfl, by decide +kernel, rfl, by decide +kernel, by decide +kernel⟩
abbrev s_law_mix : Stmt := top 31
theorem sc_law_mix : FnScope ["_law_script", "_law_seed", "_law_state", "_law_cell"] ["_law_script", "_law_seed"] (defScope s_law_mix) := ⟨rfl, rfl, rfl, by decide +kernel, rfl, by decide +kernel, by decide +kernel⟩
abbrev s_law_next : Stmt := top 32
theorem sc_law_next : FnScope ["_law_h", "_law_cap", "_law_cell"] ["_law_h", "_law_cap"] (defScope s_law_next) := ⟨rfl, rfl, rfl, by decide +kernel, rfl, by decide +kernel, by decide +kernel⟩
abbrev s_law_turned : Stmt := top 33
theorem sc_law_turned : FnScope ["_law_h", "_law_menu", "_law_many", "_law_at"] ["_law_h", "_law_menu", "_law_many"] (defScope s_law_turned) := ⟨rfl, rfl, rfl, by decide +kernel, rfl, by decide +kernel, by decide +kernel⟩
abbrev s_law_lists : Stmt := top 34
theorem sc_law_lists : FnScope ["_law_h"] ["_law_h"] (defScope s_law_lists) := ⟨rfl, rfl, rfl, by decide +kernel, rfl, by decide +kernel, by decide +kernel⟩
abbrev s_law_list : Stmt := top 35
theorem sc_law_list : FnScope ["_law_h", "_law_lists_here"] ["_law_h", "_law_lists_here"] (defScope s_law_list) := ⟨rfl, rfl, rfl, by decide +kernel, rfl, by decide +kernel, by decide +kernel⟩
abbrev s_law_statement : Stmt := top 36
theorem sc_law_statement : FnScope ["_law_h", "_law_lists_here", "_law_deep", "_law_room", "_law_kind", "_law_a", "_law_b", "_law_word", "_law_block_here"] ["_law_h", "_law_lists_here", "_law_deep", "_law_room"] (defScope s_law_statement) := ⟨rfl, rfl, rfl, by decide +kernel, rfl, by decide +kernel, by decide +kernel⟩
abbrev s_law_block : Stmt := top 37
theorem sc_law_block : FnScope ["_law_h", "_law_lists_here", "_law_deep", "_law_room", "_law_found", "_law_k"] ["_law_h", "_law_lists_here", "_law_deep", "_law_room"] (defScope s_law_block) := ⟨rfl, rfl, rfl, by decide +kernel, rfl, by decide +kernel, by decide +kernel⟩
abbrev s_law_program : Stmt := top 38
theorem sc_law_program : FnScope ["_law_h", "_law_most", "_law_lists_here", "_law_kept", "_law_name"] ["_law_h", "_law_most"] (defScope s_law_program) := ⟨rfl, rfl, rfl, by decide +kernel, rfl, by decide +kernel, by decide +kernel⟩
abbrev s_law_blocks : Stmt := top 39
theorem sc_law_blocks : FnScope ["_law_statement_here"] ["_law_statement_here"] (defScope s_law_blocks) := ⟨rfl, rfl, rfl, by decide +kernel, rfl, by decide +kernel, by decide +kernel⟩
abbrev s_law_rows : Stmt := top 40
theorem sc_law_rows : FnScope ["_law_block_here", "_law_path", "_law_found", "_law_k", "_law_some", "_law_number"] ["_law_block_here", "_law_path"] (defScope s_law_rows) := ⟨rfl, rfl, rfl, by decide +kernel, rfl, by decide +kernel, by decide +kernel⟩
abbrev s_law_keyed : Stmt := top 41
theorem sc_law_keyed : FnScope ["_law_block_here", "_law_path", "_law_paths", "_law_found", "_law_k", "_law_statement_here", "_law_here", "_law_some", "_law_inner", "_law_word", "_law_number"] ["_law_block_here", "_law_path", "_law_paths"] (defScope s_law_keyed) := ⟨rfl, rfl, rfl, by decide +kernel, rfl, by decide +kernel, by decide +kernel⟩
abbrev s_law_told : Stmt := top 42
theorem sc_law_told : FnScope ["_law_program_here", "_law_paths", "_law_lists_here", "_law_shown", "error"] ["_law_program_here", "_law_paths", "_law_lists_here"] (defScope s_law_told) := ⟨rfl, rfl, rfl, by decide +kernel, rfl, by decide +kernel, by decide +kernel⟩
abbrev s_law : Stmt := top 43
theorem sc_law : FnScope ["_law_script", "_law_h", "_law_turn", "_law_made", "_law_program_here", "_law_rows_here", "_law_sends", "_law_paths", "_law_lists_here", "_law_found", "_law_kept", "_law_others", "_law_wrong", "_law_path", "_law_name"] ["_law_script"] (defScope s_law) := ⟨rfl, rfl, rfl, by decide +kernel, rfl, by decide +kernel, by decide +kernel⟩
end W1
end
section
set_option maxRecDepth 100000
set_option maxHeartbeats 4000000
namespace W1
open PySem L2 Cm
section
variable {P : Program} {w : World} {K : PySem.W.Frag} {mg : Str → Option Value} {base : Heap}
def spMix (K : PySem.W.Frag) : Sp := fun vs H Q _ => ∃ (a : Addr) (ns : List Int) (c : Int), vs = [.ref a, .int c] ∧ SqL K H a (ns.map V.int) ∧ ns.length ≤ 63 ∧ 0 ≤ c ∧ c < 2147483647 ∧
  ∀ (p q : Addr) (H' : Hp), HS H' p q → Same H H' → Q (.ref p) H'
theorem ok_mix {f : Addr} {fd : FuncData} (F : Fun K "_law_mix" "_law_mix" s_law_mix f fd) (T : Bi mg) : FnOk P w K mg base CX0 1 f fd ["_law_script", "_law_seed"] (spMix K) := by
  refine F.ok sc_law_mix (fun vs H Q E h => ?_) (fun cdv A outer s H vs Q E hr h => ?_)
  · obtain ⟨a, ns, c, rfl, _⟩ := h
    rfl
  · obtain ⟨a, ns, c, rfl, hS, hl, c0, c1, k⟩ := h
    refine ⟨_, pss_cons (ps_set (i := 2) sc_law_mix.nd rfl (Or.inl rfl) (pv 1))
      (pss_cons (ps_for PassesOwn.never rfl (pi_list (pv 0)) (pg_name (i := 3) sc_law_mix.nd rfl (Or.inl rfl))
        (pss_one (ps_set (i := 2) sc_law_mix.nd rfl (Or.inl rfl) (pe_op op_mod (pe_callTy call_int1 (by rfl) T.int (by decide +kernel) (pa_cons
          (pe_op op_add (pe_op op_add (pe_op op_mul (pv 2) pe_int) (pe_op op_mod (pe_callTy call_int1 (by rfl) T.int (by decide +kernel) (pa_cons (pv 3) pa_nil)) pe_int)) pe_int) pa_nil)) pe_int))))
      (pss_one (ps_ret (pe_lst (pa_cons (pv 2) (pa_cons (pe_callTy call_list_of (by rfl) T.list (by decide +kernel) (pa_cons (pv 0) pa_nil)) (pa_cons pe_int pa_nil))))))), ?_⟩
    refine ⟨_, rfl, ?_⟩
    refine ⟨_, rfl, a, rfl, ⟨_, hS⟩, for_list (K := K) (a := a) (xs := ns.map V.int) (fun i σ H2 => ∃ (z : Int) (v : Option V), σ = [some (.ref a), some (.int c), some (.int z), v] ∧ 0 ≤ z ∧ z < 2147483647 ∧ H2 = H)
      ⟨c, none, rfl, c0, c1, rfl⟩ (fun i σ H2 _ ⟨_, _, _, _, _, e⟩ => by rw [e]; exact hS) ?_ ?_⟩
    · rintro i y σ H2 hi ⟨z, v, rfl, z0, z1, rfl⟩
      obtain ⟨u, rfl⟩ : ∃ u, y = V.int u := by
        rw [List.getElem?_map] at hi
        cases e : ns[i]? with
        | none => rw [e] at hi; cases hi
        | some u => rw [e] at hi; exact ⟨u, (Option.some.inj hi).symm⟩
      refine ⟨_, rfl, _, _, rfl, rfl, .inl ⟨by omega, by omega⟩, _, rfl, .inl ⟨_, rfl, _, _, rfl, rfl, (by show (0 : Int) < 2147483629; decide), _, _, rfl, rfl, _, _, rfl, rfl, .inl ⟨_, rfl, _, _, rfl, rfl, (by show (0 : Int) < 2147483647; decide), ?_⟩⟩⟩
      exact ⟨_, _, rfl, Int.emod_nonneg _ (by omega), Int.emod_lt_of_pos _ (by omega), rfl⟩
    · rintro σ H2 ⟨z, v, rfl, z0, z1, rfl⟩
      refine ⟨_, rfl, _, rfl, a, _, rfl, .inl hS, fun l nl => ⟨(by show 3 ≤ sizeLine; decide), fun p np => ?_⟩⟩
      have n0 : H2 p = none := (same_upd (o := .lst (ns.map V.int)) nl).free np
      have nlp : l ≠ p := fun e => by
        subst e
        rw [upd_same] at np
        cases np
      exact k p l _ ⟨z, 0, ns, upd_same, by rw [upd_ne nlp, upd_same], hl, z0, z1, Int.le_refl _⟩ fun b o e => by
        rw [upd_ne (ne_of_none e n0), upd_ne (ne_of_none e nl)]
        exact e
def spNext : Sp := fun vs H Q _ => ∃ (p q : Addr) (cap : Int), vs = [.ref p, .int cap] ∧ 0 < cap ∧ cap < 1073741824 ∧ HS H p q ∧
  ∀ (v : Int) (H' : Hp), 0 ≤ v → v < cap → HS H' p q → Keep p q H H' → Q (.int v) H'
theorem ok_next {f : Addr} {fd : FuncData} (F : Fun K "_law_next" "_law_next" s_law_next f fd) (T : Bi mg) : FnOk P w K mg base CX0 1 f fd ["_law_h", "_law_cap"] spNext := by
  refine F.ok sc_law_next (fun vs H Q E h => ?_) (fun cdv A outer s H vs Q E hr h => ?_)
  · obtain ⟨p, q, c, rfl, _⟩ := h
    rfl
  · obtain ⟨p, q, c, rfl, c0, c1, hH, k⟩ := h
    have npq := hH.ne
    obtain ⟨a, i, ns, hp, hq, hl, a0, a1, i0⟩ := id hH
    refine ⟨_, pss_cons (ps_set (i := 2) sc_law_next.nd rfl (Or.inl rfl) (pe_ix ix_list (pe_op op_cat (pe_ix ix_list (pv 0) pe_int (fun _ _ => rfl)) (pe_lst (pa_cons pe_int pa_nil)))
        (pe_op op_modN (pe_callTy call_int1 (by rfl) T.int (by decide +kernel) (pa_cons (pe_ix ix_list (pv 0) pe_int (fun _ _ => rfl)) pa_nil))
          (pe_callB (call_max2 rfl) (by rfl) T.max (by decide +kernel) (pa_cons pe_int (pa_cons (pe_callB call_len_seq (by rfl) T.len PySem.boot_len (pa_cons (pe_ix ix_list (pv 0) pe_int (fun _ _ => rfl)) pa_nil)) pa_nil)))) (fun _ _ => rfl)))
      (pss_cons (ps_if (pt_cmpR op_ge (pv 2) (pe_op op_pow pe_int pe_int) (nomark _))
        (pss_cons (ps_asg (pe_op op_fdivN (pv 2) (pv 1)) (pg_sub (pe_ix ix_list (pv 0) pe_int (fun _ _ => rfl))
            (pe_op op_modN (pe_callTy call_int1 (by rfl) T.int (by decide +kernel) (pa_cons (pe_ix ix_list (pv 0) pe_int (fun _ _ => rfl)) pa_nil)) (pe_callB call_len_seq (by rfl) T.len PySem.boot_len (pa_cons (pe_ix ix_list (pv 0) pe_int (fun _ _ => rfl)) pa_nil))) set_list))
          (pss_one (ps_ret (pe_op op_modN (pe_callTy call_int1 (by rfl) T.int (by decide +kernel) (pa_cons (pv 2) pa_nil)) (pv 1))))) pss_nil)
      (pss_cons (ps_asg (pe_op op_mod (pe_callTy call_int1 (by rfl) T.int (by decide +kernel) (pa_cons (pe_op op_add (pe_op op_add (pe_op op_mul (pe_ix ix_list (pv 0) pe_int (fun _ _ => rfl)) pe_int) (pe_op op_mul (pv 2) pe_int)) pe_int) pa_nil)) pe_int) (pg_sub (pv 0) pe_int set_list))
      (pss_cons (ps_asg (pe_op op_add (pe_ix ix_list (pv 0) pe_int (fun _ _ => rfl)) pe_int) (pg_sub (pv 0) pe_int set_list))
      (pss_one (ps_ret (pe_op op_modN (pe_callTy call_int1 (by rfl) T.int (by decide +kernel) (pa_cons (pe_op op_fdiv (pe_ix ix_list (pv 0) pe_int (fun _ _ => rfl)) pe_int) pa_nil)) (pv 1))))))), ?_⟩
    obtain ⟨z, hz, hz0⟩ := pick ns i
    -- the cell
    refine ⟨_, rfl, p, _, 1, _, rfl, rfl, SqL.of hp, rfl, (by show 1 ≤ sizeLine; decide), fun t1 n1 => ?_⟩
    have s1 : Same H (upd H t1 (.lst [.int 0])) := same_upd n1
    refine ⟨q, t1, _, _, rfl, rfl, s1 _ _ hq, upd_same, (by rw [List.length_map]; show ns.length + 1 ≤ sizeLine; exact Nat.le_of_lt (small1000 (by omega))), fun t2 n2 => ?_⟩
    have s2 : Same H (upd (upd H t1 (.lst [.int 0])) t2 (.lst (ns.map V.int ++ [.int 0]))) := s1.trans (same_upd n2)
    refine ⟨_, rfl, p, _, 2, _, rfl, rfl, SqL.of (s2 _ _ hp), rfl, .inl ⟨_, rfl, _, rfl, p, _, 1, _, rfl, rfl, SqL.of (s2 _ _ hp), rfl, q, _, rfl, .inl (SqL.of (s2 _ _ hq)), _, _, rfl, ?_⟩⟩
    rw [List.length_map]
    have hm : (if (ns.length : Int) > 1 then (ns.length : Int) else 1) ≠ 0 := by split <;> omega
    refine ⟨_, _, rfl, rfl, hm, t2, _, _, _, rfl, rfl, SqL.of upd_same, hz, ?_⟩
    generalize (upd (upd H t1 (.lst [.int 0])) t2 (.lst (ns.map V.int ++ [.int 0]))) = H2 at s2
    have hp := s2 _ _ hp
    have hq := s2 _ _ hq
    refine ⟨_, rfl, _, _, rfl, rfl, ⟨by decide, by decide, by decide⟩, _, _, rfl, rfl, _, rfl, ite2 (fun c2 => ?_) (fun c2 => ?_)⟩
    · have hge := of_decide_eq_true c2
      have hne : ns ≠ [] := fun e => by
        rw [hz0 e] at hge
        exact absurd hge (by decide)
      have hlp : 0 < ns.length := List.length_pos_iff.mpr hne
      have hb := fmod_in i (ns.length : Int) (by omega)
      refine ⟨_, rfl, _, rfl, _, _, rfl, rfl, ⟨by omega, by omega⟩, ?_⟩
      refine ⟨_, rfl, p, _, 1, _, rfl, rfl, SqL.of hp, rfl, _, rfl, p, _, 2, _, rfl, rfl, SqL.of hp, rfl, .inl ⟨_, rfl, _, rfl, p, _, 1, _, rfl, rfl, SqL.of hp, rfl, q, _, rfl, .inl (SqL.of hq), _, _, rfl, rfl, ?_⟩⟩
      rw [List.length_map]
      refine ⟨by omega, q, _, _, _, rfl, rfl, hq, (by rw [List.length_map]; exact ixN_in hb.1 hb.2), ?_⟩
      refine ⟨_, rfl, .inl ⟨_, rfl, _, rfl, _, _, rfl, rfl, by omega, ?_⟩⟩
      have hv := fmod_in z c c0
      refine k _ _ hv.1 hv.2 ⟨a, i, ns.set (i.fmod (ns.length : Int)).toNat (z.fdiv c), by rw [upd_ne npq]; exact hp, by rw [upd_same, List.map_set], by rw [List.length_set]; exact hl, a0, a1, i0⟩ fun b o e h1 h2 => ?_
      rw [upd_ne h2]
      exact s2 b o e
    · refine ⟨_, rfl, p, _, 0, _, rfl, rfl, SqL.of hp, rfl, _, _, rfl, rfl, .inl ⟨by omega, by omega⟩, _, rfl, _, _, rfl, rfl, .inr ⟨by decide, by decide⟩, _, _, rfl, rfl, _, _, rfl, rfl, .inl ⟨_, rfl, _, _, rfl, rfl, (by show (0 : Int) < 2147483647; decide), ?_⟩⟩
      refine ⟨_, rfl, p, _, 0, 0, rfl, rfl, hp, rfl, ?_⟩
      have hA0 : 0 ≤ (a * 48271 + z * 69621 + 11) % 2147483647 := Int.emod_nonneg _ (by decide)
      have hA1 : (a * 48271 + z * 69621 + 11) % 2147483647 < 2147483647 := Int.emod_lt_of_pos _ (by decide)
      refine ⟨_, rfl, p, _, 2, _, rfl, rfl, SqL.of upd_same, rfl, _, _, rfl, rfl, _, rfl, p, _, 2, 2, rfl, rfl, upd_same, rfl, ?_⟩
      refine ⟨_, rfl, p, _, 0, _, rfl, rfl, SqL.of upd_same, rfl, _, _, rfl, rfl, ⟨by decide, by decide⟩, .inl ⟨_, rfl, _, rfl, _, _, rfl, rfl, by omega, ?_⟩⟩
      have hv := fmod_in ((a * 48271 + z * 69621 + 11) % 2147483647 / 7) c c0
      refine k _ _ hv.1 hv.2 ⟨_, i + 1, ns, upd_same, by rw [upd_ne npq.symm, upd_ne npq.symm]; exact hq, hl, hA0, hA1, by omega⟩ fun b o e h1 h2 => ?_
      rw [upd_ne h1, upd_ne h1]
      exact s2 b o e
end
end W1
end
section
set_option maxRecDepth 100000
set_option maxHeartbeats 4000000
/-! data of tuples: what stands at a value, kept as long as tuples stay -/
namespace Cm
open PySem L2
mutual
inductive Td (H : Hp) : V → PyData → Prop
  | non : Td H .non .none
  | bl (b : Bool) : Td H (.bl b) (.bool b)
  | int (i : Int) : Td H (.int i) (.int i)
  | str (x : Str) : Td H (.str x) (.str x)
  | tup {a : Addr} {xs : List V} {ds : List PyData} : H a = some (.tup xs) → TdAll H xs ds → Td H (.ref a) (.tuple ds)
inductive TdAll (H : Hp) : List V → List PyData → Prop
  | nil : TdAll H [] []
  | cons {v : V} {vs : List V} {d : PyData} {ds : List PyData} : Td H v d → TdAll H vs ds → TdAll H (v :: vs) (d :: ds)
end
/-- tuples stay as they are -/
def TK (H H' : Hp) : Prop := ∀ b xs, H b = some (.tup xs) → H' b = some (.tup xs)
theorem TK.refl (H : Hp) : TK H H := fun _ _ e => e
theorem TK.trans {H H1 H2 : Hp} (a : TK H H1) (b : TK H1 H2) : TK H H2 := fun c xs e => b c xs (a c xs e)
theorem TK.same {H H' : Hp} (s : Same H H') : TK H H' := fun b xs e => s b _ e
theorem TK.keep {H H' : Hp} {p q : Addr} (hH : HS H p q) (k : Keep p q H H') : TK H H' := fun b xs e => k b _ e (hH.nt e).1 (hH.nt e).2
mutual
theorem Td.mono {H H' : Hp} (t : TK H H') : ∀ {v : V} {d : PyData}, Td H v d → Td H' v d
  | _, _, .non => .non
  | _, _, .bl b => .bl b
  | _, _, .int i => .int i
  | _, _, .str x => .str x
  | _, _, .tup e r => .tup (t _ _ e) (TdAll.mono t r)
theorem TdAll.mono {H H' : Hp} (t : TK H H') : ∀ {v : List V} {d : List PyData}, TdAll H v d → TdAll H' v d
  | _, _, .nil => .nil
  | _, _, .cons a b => .cons (Td.mono t a) (TdAll.mono t b)
end
mutual
theorem Td.dp {K : PySem.W.Frag} {H : Hp} : ∀ {v : V} {d : PyData}, Td H v d → Dp K H v d
  | _, _, .non => .non
  | _, _, .bl b => .bl b
  | _, _, .int i => .int i
  | _, _, .str x => .str x
  | _, _, .tup e r => .tup (SqT.of e) (TdAll.dp r)
theorem TdAll.dp {K : PySem.W.Frag} {H : Hp} : ∀ {v : List V} {d : List PyData}, TdAll H v d → DpAll K H v d
  | _, _, .nil => .nil
  | _, _, .cons a b => .cons (Td.dp a) (TdAll.dp b)
end
theorem TdAll.length {H : Hp} : ∀ {vs : List V} {ds : List PyData}, TdAll H vs ds → vs.length = ds.length
  | _, _, .nil => rfl
  | _, _, .cons _ b => congrArg Nat.succ (TdAll.length b)
theorem TdAll.append {H : Hp} : ∀ {vs ws : List V} {ds es : List PyData}, TdAll H vs ds → TdAll H ws es → TdAll H (vs ++ ws) (ds ++ es)
  | _, _, _, _, .nil, r => r
  | _, _, _, _, .cons a b, r => .cons a (TdAll.append b r)
theorem TdAll.get {H : Hp} : ∀ {vs : List V} {ds : List PyData} {i : Nat} {d : PyData}, TdAll H vs ds → ds[i]? = some d → ∃ v, vs[i]? = some v ∧ Td H v d
  | _, _, _, _, .nil, e => by simp at e
  | _, _, 0, _, .cons a _, e => ⟨_, rfl, by
      have e' := Option.some.inj (by simpa using e)
      subst e'
      exact a⟩
  | _, _, i + 1, _, .cons _ b, e => by
      obtain ⟨v, h1, h2⟩ := TdAll.get (i := i) b (by simpa using e)
      exact ⟨v, by simpa using h1, h2⟩
theorem TdAll.getV {H : Hp} : ∀ {vs : List V} {ds : List PyData} {i : Nat} {v : V}, TdAll H vs ds → vs[i]? = some v → ∃ d, ds[i]? = some d ∧ Td H v d
  | _, _, _, _, .nil, e => by simp at e
  | _, _, 0, _, .cons a _, e => ⟨_, rfl, by
      have e' := Option.some.inj (by simpa using e)
      subst e'
      exact a⟩
  | _, _, i + 1, _, .cons _ b, e => by
      obtain ⟨v, h1, h2⟩ := TdAll.getV (i := i) b (by simpa using e)
      exact ⟨v, by simpa using h1, h2⟩
theorem TdAll.strs {H : Hp} : ∀ (xs : List Str), TdAll H (xs.map V.str) (xs.map PyData.str)
  | [] => .nil
  | x :: xs => .cons (.str x) (TdAll.strs xs)
theorem TdAll.take {H : Hp} : ∀ {vs : List V} {ds : List PyData} (n : Nat), TdAll H vs ds → TdAll H (vs.take n) (ds.take n)
  | _, _, 0, _ => .nil
  | _, _, _ + 1, .nil => .nil
  | _, _, n + 1, .cons a b => .cons a (TdAll.take n b)
theorem TdAll.drop {H : Hp} : ∀ {vs : List V} {ds : List PyData} (n : Nat), TdAll H vs ds → TdAll H (vs.drop n) (ds.drop n)
  | _, _, 0, r => r
  | _, _, _ + 1, .nil => .nil
  | _, _, n + 1, .cons _ b => TdAll.drop n b
/-! statements as data -/
inductive Stm where
  | ask (k : Nat) (a b c : Str) (x : List Stm)
  | move (a b : Str)
  | part (a b : Str)
  | tell (a w : Str)
  | iff (a : Str) (x y : List Stm)
  | whl (a : Str) (x : List Stm)
  | tms (n : PyData) (x : List Stm)
  | fin
def askW : Nat → Str
  | 0 => "send"
  | 1 => "keyed"
  | _ => "look"
mutual
def Stm.toD : Stm → PyData
  | .ask k a b c x => .tuple [.str (askW k), .str a, .str b, .str c, .tuple (toDs x)]
  | .move a b => .tuple [.str "move", .str a, .str b]
  | .part a b => .tuple [.str "part", .str a, .str b]
  | .tell a w => .tuple [.str "tell", .str a, .str w]
  | .iff a x y => .tuple [.str "if", .str a, .tuple (toDs x), .tuple (toDs y)]
  | .whl a x => .tuple [.str "while", .str a, .tuple (toDs x)]
  | .tms n x => .tuple [.str "times", n, .tuple (toDs x)]
  | .fin => .tuple [.str "end"]
def toDs : List Stm → List PyData
  | [] => []
  | s :: r => s.toD :: toDs r
end
mutual
/-- how many statements -/
def Stm.size : Stm → Nat
  | .ask _ _ _ _ x => 1 + sizes x
  | .iff _ x y => 1 + (sizes x + sizes y)
  | .whl _ x => 1 + sizes x
  | .tms _ x => 1 + sizes x
  | _ => 1
def sizes : List Stm → Nat
  | [] => 0
  | s :: r => s.size + sizes r
end
mutual
/-- drawn well: lists among those, right words and numbers, at most so many statements around what is inside -/
def Stm.wf (ls : List Str) : Nat → Stm → Prop
  | n, .ask k a b c x => k < 3 ∧ a ∈ ls ∧ b ∈ ls ∧ c ∈ ls ∧ wfs ls n x
  | _, .move a b => a ∈ ls ∧ b ∈ ls
  | _, .part a b => a ∈ ls ∧ b ∈ ls
  | _, .tell a w => a ∈ ls ∧ (w = "done" ∨ w = "failed")
  | n, .iff a x y => a ∈ ls ∧ wfs ls n x ∧ wfs ls n y
  | n, .whl a x => a ∈ ls ∧ wfs ls n x
  | n, .tms m x => (∃ i : Int, m = .int i ∧ 0 ≤ i ∧ i ≤ 3) ∧ wfs ls n x
  | _, .fin => True
/-- the block stands within others: n more may follow inside it -/
def wfs (ls : List Str) : Nat → List Stm → Prop
  | _, [] => True
  | 0, _ :: _ => False
  | n + 1, s :: r => s.wf ls n ∧ wfs ls (n + 1) r
end
theorem toDs_length : ∀ x : List Stm, (toDs x).length = x.length
  | [] => rfl
  | _ :: r => congrArg Nat.succ (toDs_length r)
theorem toDs_append : ∀ x y : List Stm, toDs (x ++ y) = toDs x ++ toDs y
  | [], _ => rfl
  | s :: r, y => congrArg (s.toD :: ·) (toDs_append r y)
theorem sizes_append : ∀ x y : List Stm, sizes (x ++ y) = sizes x + sizes y
  | [], y => by simp [sizes]
  | s :: r, y => by
    show s.size + sizes (r ++ y) = s.size + sizes r + sizes y
    rw [sizes_append r y]
    omega
theorem wfs_append {ls : List Str} {n : Nat} : ∀ {x y : List Stm}, wfs ls n x → wfs ls n y → wfs ls n (x ++ y)
  | [], _, _, h => h
  | s :: r, y, h, h' => by
    cases n with
    | zero => simp [wfs] at h
    | succ n =>
      simp only [List.cons_append, wfs] at h ⊢
      exact ⟨h.1, wfs_append h.2 h'⟩
end Cm
end
section
set_option maxRecDepth 100000
set_option maxHeartbeats 4000000
namespace Cm
open PySem L2
theorem cut_from {xs : List V} {i : Nat} (h : i ≤ xs.length) : cutV xs (some (i : Int)) none = xs.drop i := by
  unfold cutV
  rw [HT.sIx_nat, HT.sIx_none, Nat.min_eq_left h, List.take_of_length_le (Nat.le_of_eq List.length_drop)]
theorem cut_to {xs : List V} {i : Nat} (h : i ≤ xs.length) : cutV xs none (some (i : Int)) = xs.take i := by
  unfold cutV
  rw [HT.sIx_nat, HT.sIx_none, Nat.min_eq_left h, Nat.sub_zero, List.drop_zero]
theorem cut_any {xs : List V} {m : Nat} : cutV xs none (some (m : Int)) = xs.take m := by
  unfold cutV
  rw [HT.sIx_nat, HT.sIx_none, Nat.sub_zero, List.drop_zero]
  by_cases h : m ≤ xs.length
  · rw [Nat.min_eq_left h]
  · rw [Nat.min_eq_right (by omega), List.take_of_length_le (Nat.le_refl _), List.take_of_length_le (by omega)]
def Keep3 (p q r : Addr) (H H' : Hp) : Prop := ∀ b o, H b = some o → b ≠ p → b ≠ q → b ≠ r → H' b = some o
theorem Keep3.of {p q r : Addr} {H H' : Hp} (k : Keep p q H H') : Keep3 p q r H H' := fun b o e h1 h2 _ => k b o e h1 h2
theorem Keep3.trans {p q r : Addr} {H H1 H2 : Hp} (a : Keep3 p q r H H1) (b : Keep3 p q r H1 H2) : Keep3 p q r H H2 := fun c o e h1 h2 h3 => b c o (a c o e h1 h2 h3) h1 h2 h3
theorem Keep3.upd {p q r : Addr} {H : Hp} {o : HO} : Keep3 p q r H (upd H r o) := fun b u e _ _ h3 => by
  rw [upd_ne h3]
  exact e
theorem TK.keep3 {p q r : Addr} {H H' : Hp} {xs : List V} (hH : HS H p q) (hr : H r = some (.lst xs)) (k : Keep3 p q r H H') : TK H H' := fun b ys e =>
  k b _ e (hH.nt e).1 (hH.nt e).2 (ne_of e hr (by intro z; cases z))
def menuN : List Str := ["todo", "ok", "bad", "send", "lists", "kept", "a", "pass", "end"]
def turn (i m : Nat) : List Str := (menuN.drop i ++ menuN.take i).take m
theorem turn_ok (i m : Nat) (hi : i < 9) (hm : m = 2 ∨ m = 3) : (turn i m).Nodup ∧ (turn i m).length = m ∧ ∀ x ∈ turn i m, x ∈ menuN := by
  have h : ∀ i : Fin 9, (turn i 2).Nodup ∧ (turn i 2).length = 2 ∧ (∀ x ∈ turn i 2, x ∈ menuN) ∧ (turn i 3).Nodup ∧ (turn i 3).length = 3 ∧ ∀ x ∈ turn i 3, x ∈ menuN := by decide +kernel
  obtain ⟨a, b, c, d, e, f⟩ := h ⟨i, hi⟩
  rcases hm with rfl | rfl
  · exact ⟨a, b, c⟩
  · exact ⟨d, e, f⟩
def wordsA : List Str := ["send", "send", "send", "keyed", "look"]
theorem wordsA_at {i : Nat} (h : i < 5) : ∃ j, j < 3 ∧ atI (wordsA.map V.str) (i : Int) = some (.str (askW j)) := by
  match i, h with
  | 0, _ => exact ⟨0, by omega, rfl⟩
  | 1, _ => exact ⟨0, by omega, rfl⟩
  | 2, _ => exact ⟨0, by omega, rfl⟩
  | 3, _ => exact ⟨1, by omega, rfl⟩
  | 4, _ => exact ⟨2, by omega, rfl⟩
end Cm
end
section
set_option linter.all false
set_option maxRecDepth 100000
/-! G1: suspended generators stay as they are under a promise that holds for all tables of generators. -/
namespace Gp
open PySem PyProof.Rows
open Sem (wp)

/-- the same to look at; never to be woken -/
def poison : GenState → GenState
  | .suspended _ l c p fs cl => .suspended (fun _ => .unsupported "") l c p fs cl
  | x => x
abbrev Held := Nat → Option GenState
def restA (F : Held) (G : Array GenState) : Array GenState := G.mapIdx fun i x => (F i).getD x
def rest (F : Held) (s : Shared) : Shared := { s with gens := restA F s.gens }
def Frame.isG : Frame → Bool
  | .gen .. => true
  | .ret .. => false
/-- no frame of another generator's resumption -/
def ng (fs : List Frame) : Prop := ∀ f ∈ fs, Frame.isG f = false
def ngS : GenState → Prop
  | .suspended _ _ _ _ fs _ => ng fs
  | _ => True
/-- x: to look at as st is, never to be woken -/
def Pz (st x : GenState) : Prop := x.seen = st.seen ∧ ∃ l c p fs cl, x = .suspended (fun _ => .unsupported "") l c p fs cl
structure On (F : Held) (G : Array GenState) : Prop where
  at_ : ∀ i st, F i = some st → ∃ x, G[i]? = some x ∧ Pz st x
  susp : ∀ i st, F i = some st → ∃ k l c p fs cl, st = .suspended k l c p fs cl
  ng : ∀ i x, G[i]? = some x → F i = none → ngS x
theorem ng_nil : ng [] := fun _ h => by cases h
theorem ng_append {a b : List Frame} (x : ng a) (y : ng b) : ng (a ++ b) := fun f h => (List.mem_append.mp h).elim (x f) (y f)
theorem ng_ret {k h g l c p kp} {fs : List Frame} (y : ng fs) : ng (.ret k h g l c p kp :: fs) := fun f h => by
  rcases List.mem_cons.mp h with e | e
  · rw [e]; rfl
  · exact y f e
theorem ng_tail {F : Frame} {fs : List Frame} (y : ng (F :: fs)) : ng fs := fun f h => y f (List.mem_cons_of_mem _ h)
theorem ng_split : ∀ {fs : List Frame}, splitAtGen fs = none → ng fs
  | [], _ => ng_nil
  | .ret k h g l c p kp :: fs, e => by
    refine ng_ret (ng_split ?_)
    have e' : (splitAtGen fs).map (fun x => (Frame.ret k h g l c p kp :: x.1, x.2.1, x.2.2)) = none := by
      first
        | exact e
        | (simp only [splitAtGen] at e; revert e; cases splitAtGen fs <;> simp)
    cases q : splitAtGen fs with
    | none => rfl
    | some x => rw [q] at e'; cases e'
  | .gen .. :: fs, e => by cases e
theorem split_ng : ∀ {fs : List Frame}, ng fs → splitAtGen fs = none
  | [], _ => rfl
  | .ret k h g l c p kp :: fs, y => by
    simp only [splitAtGen, split_ng (ng_tail y), Option.map_none]
  | .gen .. :: fs, y => by
    have := y _ List.mem_cons_self
    cases this
/-- what a run leaves behind asleep has no such frames -/
theorem runs_ng {M : Model} {Γ : Ctx} {p : Pos} {t : Sem PySem.Fin} {fs : List Frame} {s s' : Shared} {e : End} (h : Runs M Γ p t fs s e s') : ngS e.genState := by
  induction h with
  | done => exact trivial
  | raise => exact trivial
  | callSusp _ ih => exact ng_append ih (ng_ret ng_nil)
  | yield => exact ng_nil
  | segSuspOut hs _ ih => exact ng_append ih (ng_split hs)
  | _ => assumption

theorem restA_get {F : Held} {G : Array GenState} {i : Nat} : (restA F G)[i]? = G[i]?.map fun x => (F i).getD x := by
  unfold restA
  rw [Array.getElem?_mapIdx]
theorem restA_size {F : Held} {G : Array GenState} : (restA F G).size = G.size := by
  unfold restA
  rw [Array.size_mapIdx]
theorem restA_set {F : Held} {G : Array GenState} {g : Nat} {x : GenState} (h : F g = none) : restA F (G.setIfInBounds g x) = (restA F G).setIfInBounds g x := by
  apply Array.ext_getElem?
  intro i
  rw [restA_get, Array.getElem?_setIfInBounds, Array.getElem?_setIfInBounds, restA_get, restA_size]
  by_cases e : g = i
  · subst e
    rw [if_pos rfl, if_pos rfl]
    split
    · rw [Option.map_some, h]; rfl
    · rfl
  · rw [if_neg e, if_neg e]
theorem restA_push {F : Held} {G : Array GenState} {x : GenState} (h : On F G) : restA F (G.push x) = (restA F G).push x := by
  apply Array.ext_getElem?
  intro i
  rw [restA_get, Array.getElem?_push, Array.getElem?_push, restA_get, restA_size]
  by_cases e : i = G.size
  · subst e
    rw [if_pos rfl, if_pos rfl, Option.map_some]
    cases hF : F G.size with
    | none => rfl
    | some st =>
      obtain ⟨x, this, _⟩ := h.at_ _ _ hF
      rw [Array.getElem?_eq_none (Nat.le_refl _)] at this
      cases this
  · rw [if_neg e, if_neg e]
theorem On.set {F : Held} {G : Array GenState} {g : Nat} {x : GenState} (h : On F G) (hg : F g = none) (hx : ngS x) : On F (G.setIfInBounds g x) := by
  refine ⟨fun i st e => ?_, h.susp, fun i y e hi => ?_⟩
  · rw [Array.getElem?_setIfInBounds, if_neg fun z => by rw [z, e] at hg; cases hg]
    exact h.at_ i st e
  · rw [Array.getElem?_setIfInBounds] at e
    split at e
    · split at e
      · cases e; exact hx
      · cases e
    · exact h.ng i y e hi
theorem On.push {F : Held} {G : Array GenState} {x : GenState} (h : On F G) (hx : ngS x) : On F (G.push x) := by
  refine ⟨fun i st e => ?_, h.susp, fun i y e hi => ?_⟩
  · obtain ⟨x', q, q2⟩ := h.at_ i st e
    refine ⟨x', ?_, q2⟩
    rw [Array.getElem?_push, if_neg fun z => by rw [z, Array.getElem?_eq_none (Nat.le_refl _)] at q; cases q]
    exact q
  · rw [Array.getElem?_push] at e
    split at e
    · cases e; exact hx
    · exact h.ng i y e hi
theorem seen_poison (st : GenState) : (poison st).seen = st.seen := by cases st <;> rfl
theorem rest_get {F : Held} {s : Shared} {g : Nat} {st : GenState} (h : s.gens[g]? = some st) : (rest F s).gens[g]? = some ((F g).getD st) := by
  show (restA F s.gens)[g]? = _
  rw [restA_get, h]; rfl
theorem rest_seen {F : Held} {s : Shared} {g : Nat} {st : GenState} (o : On F s.gens) (h : s.gens[g]? = some st) : ∃ st', (rest F s).gens[g]? = some st' ∧ st'.seen = st.seen := by
  refine ⟨_, rest_get h, ?_⟩
  cases hF : F g with
  | none => rfl
  | some y =>
    obtain ⟨x, this, q, _⟩ := o.at_ g y hF
    rw [h] at this
    cases this
    exact q.symm
theorem rest_setGen {F : Held} {s : Shared} {g : Nat} {x : GenState} (h : F g = none) : rest F (s.setGen g x) = (rest F s).setGen g x := by
  unfold rest Shared.setGen
  dsimp only
  rw [restA_set h]

theorem no_unsupported {M : Model} {Γ : Ctx} {p : Pos} {fs : List Frame} {s s' : Shared} {e : End} {w : String} (h : Runs M Γ p (.unsupported w) fs s e s') : False := by
  cases h with
  | segRet h _ => cases h
  | segGen h _ => cases h
  | segSuspOut _ h => cases h
  | segSuspGen _ h _ _ => cases h
theorem held_not {F : Held} {G : Array GenState} {g : Nat} {st : GenState} (o : On F G) (h : G[g]? = some st) (hs : ∀ k l c p fs cl, st ≠ .suspended k l c p fs cl) : F g = none := by
  cases hF : F g with
  | none => rfl
  | some y =>
    obtain ⟨x, q, _, l, c, p, fs, cl, e⟩ := o.at_ g y hF
    rw [h] at q
    subst e
    injection q with q
    exact absurd q (hs _ _ _ _ _ _)
theorem held_wakes {M : Model} {F : Held} {G : Array GenState} {g : Nat} {k l c p fs cl} {Γ : Ctx} {r : Resume} {s s' : Shared} {p' : Pos} {e : End} (o : On F G) (h : G[g]? = some (.suspended k l c p fs cl)) (hr : Runs M Γ p' (k r) fs s e s') : F g = none := by
  cases hF : F g with
  | none => rfl
  | some y =>
    obtain ⟨x, q, _, l', c', p', fs', cl', e⟩ := o.at_ g y hF
    rw [h] at q
    subst e
    injection q with q
    injection q with q1
    subst q1
    exact (no_unsupported hr).elim
theorem rest_get_none {F : Held} {s : Shared} {g : Nat} {st : GenState} (hF : F g = none) (h : s.gens[g]? = some st) : (rest F s).gens[g]? = some st := by
  rw [rest_get h, hF]; rfl

theorem runs_rest {M : Model} {F : Held} {Γ : Ctx} {p : Pos} {t : Sem PySem.Fin} {fs : List Frame} {s s' : Shared} {e : End} (h : Runs M Γ p t fs s e s') :
    On F s.gens → ng fs → On F s'.gens ∧ Runs M Γ p t fs (rest F s) e (rest F s') := by
  induction h with
  | done => exact fun o n => ⟨o, .done⟩
  | raise => exact fun o n => ⟨o, .raise⟩
  | again hq _ ih => exact fun o n => ⟨(ih o n).1, .again hq (ih o n).2⟩
  | rule _ ih => exact fun o n => ⟨(ih o n).1, .rule (ih o n).2⟩
  | «at» _ ih => exact fun o n => ⟨(ih o n).1, .at (ih o n).2⟩
  | load ho _ ih => exact fun o n => ⟨(ih o n).1, .load ho (ih o n).2⟩
  | update ho _ ih => exact fun o n => ⟨(ih o n).1, .update ho (ih o n).2⟩
  | loadIfAlive _ ih => exact fun o n => ⟨(ih o n).1, .loadIfAlive (ih o n).2⟩
  | point _ ih => exact fun o n => ⟨(ih o n).1, .point (ih o n).2⟩
  | alloc _ ih => exact fun o n => ⟨(ih o n).1, .alloc (ih o n).2⟩
  | fresh _ ih => exact fun o n => ⟨(ih o n).1, .fresh (ih o n).2⟩
  | ask _ ih => exact fun o n => ⟨(ih o n).1, .ask (ih o n).2⟩
  | choose hn _ ih => exact fun o n => ⟨(ih o n).1, .choose hn (ih o n).2⟩
  | os _ ih => exact fun o n => ⟨(ih o n).1, .os (ih o n).2⟩
  | handled _ ih => exact fun o n => ⟨(ih o n).1, .handled (ih o n).2⟩
  | genState hg _ ih =>
    intro o n
    obtain ⟨st', h1, h2⟩ := rest_seen o hg
    exact ⟨(ih o n).1, .genState h1 (by rw [h2]; exact (ih o n).2)⟩
  | stack _ ih => exact fun o n => ⟨(ih o n).1, .stack (ih o n).2⟩
  | thread _ ih => exact fun o n => ⟨(ih o n).1, .thread (ih o n).2⟩
  | newGen _ ih =>
    intro o n
    obtain ⟨o2, r2⟩ := ih (o.push trivial) n
    refine ⟨o2, .newGen ?_⟩
    have e1 := restA_push (x := .fresh ‹Code›) o
    have e2 : ∀ s : Shared, (rest F s).gens.size = s.gens.size := fun s => restA_size
    rw [e2]
    have e3 := r2
    unfold rest at e3 ⊢
    dsimp only at e3 ⊢
    rw [e1] at e3
    exact e3
  | call _ _ ih1 ih2 =>
    intro o n
    obtain ⟨o1, r1⟩ := ih1 o n
    obtain ⟨o2, r2⟩ := ih2 o1 n
    exact ⟨o2, .call r1 r2⟩
  | callSusp _ ih => exact fun o n => ⟨(ih o n).1, .callSusp (ih o n).2⟩
  | yield => exact fun o n => ⟨o, .yield⟩
  | resumeFresh hg hr hq _ ih1 ih2 =>
    intro o n
    have hF := held_not o hg fun _ _ _ _ _ _ => nofun
    obtain ⟨o1, r1⟩ := ih1 (o.set hF trivial) ng_nil
    obtain ⟨o2, r2⟩ := ih2 (o1.set hF (runs_ng hr)) n
    rw [rest_setGen hF] at r1 r2
    exact ⟨o2, .resumeFresh (rest_get_none hF hg) r1 hq r2⟩
  | resumeSuspended hg hr hq _ ih1 ih2 =>
    intro o n
    have hF := held_wakes o hg hr
    obtain ⟨o1, r1⟩ := ih1 (o.set hF trivial) (o.ng _ _ hg hF)
    obtain ⟨o2, r2⟩ := ih2 (o1.set hF (runs_ng hr)) n
    rw [rest_setGen hF] at r1 r2
    exact ⟨o2, .resumeSuspended (rest_get_none hF hg) r1 hq r2⟩
  | resumeJustStarted hg hv _ ih =>
    intro o n
    have hF := held_not o hg fun _ _ _ _ _ _ => nofun
    exact ⟨(ih o n).1, .resumeJustStarted (rest_get_none hF hg) hv (ih o n).2⟩
  | resumeThrowFresh hg _ ih =>
    intro o n
    have hF := held_not o hg fun _ _ _ _ _ _ => nofun
    obtain ⟨o1, r1⟩ := ih (o.set hF trivial) n
    rw [rest_setGen hF] at r1
    exact ⟨o1, .resumeThrowFresh (rest_get_none hF hg) r1⟩
  | resumeRunning hg _ ih =>
    intro o n
    have hF := held_not o hg fun _ _ _ _ _ _ => nofun
    exact ⟨(ih o n).1, .resumeRunning (rest_get_none hF hg) (ih o n).2⟩
  | resumeFinished hg _ ih =>
    intro o n
    have hF := held_not o hg fun _ _ _ _ _ _ => nofun
    exact ⟨(ih o n).1, .resumeFinished (rest_get_none hF hg) (ih o n).2⟩
  | segRet _ _ ih1 ih2 =>
    intro o n
    obtain ⟨o1, r1⟩ := ih1 o ng_nil
    obtain ⟨o2, r2⟩ := ih2 o1 (ng_tail n)
    exact ⟨o2, .segRet r1 r2⟩
  | segGen _ _ ih1 ih2 =>
    intro o n
    have := n _ List.mem_cons_self
    cases this
  | segSuspOut hs _ ih => exact fun o n => ⟨(ih o ng_nil).1, .segSuspOut hs (ih o ng_nil).2⟩
  | segSuspGen hs _ hq _ ih1 ih2 =>
    intro o n
    rw [split_ng n] at hs
    cases hs

theorem wakes_rest {M : Model} {F : Held} {Γ : Ctx} {p : Pos} {g : Nat} {r : Resume} {s s' : Shared} {res : GenResult} (o : On F s.gens) (h : Wakes M Γ p g r s res s') : On F s'.gens ∧ Wakes M Γ p g r (rest F s) res (rest F s') := by
  unfold Wakes at h
  split at h
  · exact h.elim
  · rename_i c hg
    have hF := held_not o hg fun _ _ _ _ _ _ => nofun
    have hg' := rest_get_none hF hg
    split at h
    · obtain ⟨e₁, s₁, hr, hq, e1, e2⟩ := h
      obtain ⟨o1, r1⟩ := runs_rest hr (o.set hF trivial) ng_nil
      rw [rest_setGen hF] at r1
      refine ⟨by rw [e2]; exact o1.set hF (runs_ng hr), ?_⟩
      unfold Wakes
      rw [hg']
      exact ⟨e₁, _, r1, hq, e1, by rw [e2, rest_setGen hF]⟩
    · rename_i v hv
      refine ⟨by rw [h.2]; exact o, ?_⟩
      unfold Wakes
      rw [hg', h.1, h.2]
      cases v <;> first | exact ⟨rfl, rfl⟩ | exact absurd rfl hv
    · refine ⟨by rw [h.2]; exact o.set hF trivial, ?_⟩
      unfold Wakes
      rw [hg', h.1, h.2, rest_setGen hF]
      exact ⟨rfl, rfl⟩
  · rename_i k₀ l₀ c₀ p₀ fs cl hg
    obtain ⟨e₁, s₁, hr, hq, e1, e2⟩ := h
    have hF := held_wakes o hg hr
    obtain ⟨o1, r1⟩ := runs_rest hr (o.set hF trivial) (o.ng _ _ hg hF)
    rw [rest_setGen hF] at r1
    refine ⟨by rw [e2]; exact o1.set hF (runs_ng hr), ?_⟩
    unfold Wakes
    rw [rest_get_none hF hg]
    exact ⟨e₁, _, r1, hq, e1, by rw [e2, rest_setGen hF]⟩
  · rename_i hg
    have hF := held_not o hg fun _ _ _ _ _ _ => nofun
    refine ⟨by rw [h.2]; exact o, ?_⟩
    unfold Wakes
    rw [rest_get_none hF hg]
    exact ⟨h.1, by rw [h.2]⟩
  · rename_i hg
    have hF := held_not o hg fun _ _ _ _ _ _ => nofun
    refine ⟨by rw [h.2]; exact o, ?_⟩
    unfold Wakes
    rw [rest_get_none hF hg]
    exact ⟨h.1, by rw [h.2]⟩

theorem wp_rest {α : Type} (M : Model) (F : Held) (Γ : Ctx) (t : Sem α) : ∀ (Q : α → Pos → Shared → Prop) (E : Value → Pos → Shared → Prop) (p : Pos) (s : Shared), On F s.gens → wp M Γ t Q E p s →
    wp M Γ t (fun a p' s' => ∃ u, s' = rest F u ∧ On F u.gens ∧ Q a p' u) (fun e p' s' => ∃ u, s' = rest F u ∧ On F u.gens ∧ E e p' u) p (rest F s) := by
  induction t with
  | pure a => intro Q E p s o h; exact ⟨s, rfl, o, h⟩
  | raise e => intro Q E p s o h; exact ⟨s, rfl, o, h⟩
  | unsupported _ => intro Q E p s _ h; exact h
  | finish _ => intro Q E p s _ h; exact h
  | rule _ k ih => intro Q E p s o h; exact ih () Q E p s o h
  | «at» p' k ih => intro Q E p s o h; exact ih () Q E p' s o h
  | load a _ k ih => intro Q E p s o h; obtain ⟨ob, ho, h⟩ := h; exact ⟨ob, ho, ih ob Q E p s o h⟩
  | update a _ f k ih => intro Q E p s o h; exact ⟨h.1, ih () Q E p { s with heap := s.heap.update a f } o h.2⟩
  | loadIfAlive a k ih => intro Q E p s o h; exact ih _ Q E p s o h
  | point _ k ih => intro Q E p s o h; exact ih () Q E p s o h
  | register _ _ => intro Q E p s _ h; exact h
  | alloc ob k ih => intro Q E p s o h; exact ih _ Q E p { s with heap := s.heap.push ob } o h
  | fresh k ih => intro Q E p s o h; exact ih _ Q E p { s with toks := s.toks + 1 } o h
  | ask k ih => intro Q E p s o h; exact ih _ Q E p s o h
  | choose src m k ih => intro Q E p s o h; exact ⟨h.1, ih _ Q E p { s with drawn := s.drawn.bump src } o h.2⟩
  | os q _ k ih => intro Q E p s o h; exact ih _ Q E p { s with os := (Os.step s.os q).1 } o h
  | call c hd _ _ k ih =>
    intro Q E p s o h
    obtain ⟨r, s', hr, h⟩ := h
    obtain ⟨o1, r1⟩ := runs_rest hr o ng_nil
    exact ⟨r, rest F s', r1, ih r Q E p s' o1 h⟩
  | handled own k ih => intro Q E p s o h; exact ih _ Q E p s o h
  | genState g k ih =>
    intro Q E p s o h
    obtain ⟨st, hs, h⟩ := h
    obtain ⟨st', h1, h2⟩ := rest_seen o hs
    exact ⟨st', h1, by rw [h2]; exact ih _ Q E p s o h⟩
  | newGen c k ih =>
    intro Q E p s o h
    have e1 := restA_push (x := .fresh c) o
    have e2 : (rest F s).gens.size = s.gens.size := restA_size
    have h3 := ih s.gens.size Q E p { s with gens := s.gens.push (.fresh c) } (o.push trivial) h
    show wp M Γ (k (rest F s).gens.size) _ _ p { rest F s with gens := (rest F s).gens.push (.fresh c) }
    rw [e2]
    unfold rest at h3 ⊢
    dsimp only at h3 ⊢
    rw [e1] at h3
    exact h3
  | resume g r _ k ih =>
    intro Q E p s o h
    obtain ⟨res, s', hw, h⟩ := h
    obtain ⟨o1, w1⟩ := wakes_rest o hw
    exact ⟨res, rest F s', w1, ih res Q E p s' o1 h⟩
  | yield _ _ _ _ => intro Q E p s _ h; exact h
  | stack k ih => intro Q E p s o h; exact ih _ Q E p s o h
  | fork _ _ => intro Q E p s _ h; exact h
  | thread k ih => intro Q E p s o h; exact ih _ Q E p s o h
  | await _ _ _ _ _ => intro Q E p s _ h; exact h

/-- the generators asleep in s -/
def asleep (G : Array GenState) : Held := fun i => match G[i]? with
  | some (.suspended k l c p fs cl) => some (.suspended k l c p fs cl)
  | _ => none
def quietA (G : Array GenState) : Array GenState := G.map poison
theorem on_quiet (G : Array GenState) : On (asleep G) (quietA G) := by
  have e0 : ∀ i, (quietA G)[i]? = G[i]?.map poison := fun i => by unfold quietA; rw [Array.getElem?_map]
  refine ⟨fun i st h => ?_, fun i st h => ?_, fun i x h hi => ?_⟩
  · unfold asleep at h
    split at h
    · rename_i q; cases h; exact ⟨poison (.suspended _ _ _ _ _ _), by rw [e0, q]; rfl, seen_poison _, _, _, _, _, _, rfl⟩
    · cases h
  · unfold asleep at h
    split at h
    · cases h; exact ⟨_, _, _, _, _, _, rfl⟩
    · cases h
  · rw [e0] at h
    unfold asleep at hi
    cases q : G[i]? with
    | none => rw [q] at h; cases h
    | some y =>
      rw [q] at h hi
      cases y <;> first | (cases hi; done) | (injection h with h; subst h; exact trivial)
theorem rest_quiet (s : Shared) : rest (asleep s.gens) { s with gens := quietA s.gens } = s := by
  have : restA (asleep s.gens) (quietA s.gens) = s.gens := by
    apply Array.ext_getElem?
    intro i
    rw [restA_get]
    unfold quietA
    rw [Array.getElem?_map]
    unfold asleep
    cases q : s.gens[i]? with
    | none => rfl
    | some y => cases y <;> rfl
  unfold rest
  dsimp only
  rw [this]
theorem bare_poison (x : GenState) : (poison x).bare = x.bare := by cases x <;> rfl
theorem quiet_bare {G : Array GenState} (h : AllBare G) : AllBare (quietA G) := by
  intro y hy
  unfold quietA at hy
  rw [Array.mem_map] at hy
  obtain ⟨x, hx, e⟩ := hy
  rw [← e, bare_poison]
  exact h x hx
/-- all that slept in G sleeps so in G' -/
def Sleeps (G G' : Array GenState) : Prop := ∀ (i : Nat) k l c p fs cl, G[i]? = some (GenState.suspended k l c p fs cl) → G'[i]? = some (GenState.suspended k l c p fs cl)
theorem Sleeps.trans {A B C : Array GenState} (x : Sleeps A B) (y : Sleeps B C) : Sleeps A C := fun i k l c p fs cl h => y _ _ _ _ _ _ _ (x _ _ _ _ _ _ _ h)
theorem Sleeps.refl {A : Array GenState} : Sleeps A A := fun _ _ _ _ _ _ _ h => h
theorem on_sleeps {G : Array GenState} {u : Shared} (o : On (asleep G) u.gens) : Sleeps G (rest (asleep G) u).gens := by
  intro i k l c p fs cl h
  have hF : asleep G i = some (.suspended k l c p fs cl) := by unfold asleep; rw [h]
  obtain ⟨x, hx, _⟩ := o.at_ i _ hF
  rw [rest_get hx, hF]; rfl
theorem on_bare {F : Held} {u : Shared} (hF : ∀ i st, F i = some st → st.bare = true) (h : AllBare u.gens) : AllBare (rest F u).gens := by
  intro y hy
  obtain ⟨i, hi, e⟩ := Array.mem_iff_getElem.mp hy
  have e2 : (rest F u).gens[i]? = some y := by rw [Array.getElem?_eq_getElem hi, e]
  have hs : (rest F u).gens.size = u.gens.size := restA_size
  have hi2 : i < u.gens.size := by rw [← hs]; exact hi
  have e3 := rest_get (F := F) (Array.getElem?_eq_getElem hi2)
  rw [e2] at e3
  injection e3 with e3
  have hb := h _ (Array.getElem_mem hi2)
  cases q : F i with
  | none => rw [q] at e3; rw [e3]; exact hb
  | some z => rw [q] at e3; rw [e3]; exact hF i z q
theorem asleep_bare {G : Array GenState} (h : AllBare G) : ∀ i st, asleep G i = some st → st.bare = true := fun i st e => by
  unfold asleep at e
  split at e
  · rename_i q
    cases e
    exact h _ (Array.mem_of_getElem? q)
  · cases e
theorem wpAny_rest {α : Type} {M : Model} {A : Around} {F : Held} {t : Sem α} {Q : α → Shared → Prop} {E : Value → Shared → Prop} {s : Shared} (o : On F s.gens) (h : wpAny M A t Q E s) :
    wpAny M A t (fun a s' => ∃ u, s' = rest F u ∧ On F u.gens ∧ Q a u) (fun e s' => ∃ u, s' = rest F u ∧ On F u.gens ∧ E e u) (rest F s) := fun Γ p hΓ =>
  wp_rest M F Γ t (fun a _ s' => Q a s') (fun e _ s' => E e s') p s o (h Γ p hΓ)
/-- THE RULE: what holds for every table of generators leaves those that sleep as they are -/
theorem wpAny_sleeps {α : Type} {M : Model} {A : Around} {t : Sem α} {Q : α → Shared → Prop} {E : Value → Shared → Prop} {s : Shared} (hb : AllBare s.gens)
    (h : wpAny M A t Q E { s with gens := quietA s.gens }) :
    wpAny M A t (fun a s' => ∃ u, s' = rest (asleep s.gens) u ∧ On (asleep s.gens) u.gens ∧ Q a u ∧ Sleeps s.gens s'.gens ∧ (AllBare u.gens → AllBare s'.gens)) (fun e s' => ∃ u, s' = rest (asleep s.gens) u ∧ On (asleep s.gens) u.gens ∧ E e u) s := by
  have h1 := wpAny_rest (on_quiet s.gens) h
  rw [rest_quiet] at h1
  exact wpAny_mono h1 (fun a s' ⟨u, e, o, q⟩ => ⟨u, e, o, q, by rw [e]; exact on_sleeps o, fun h2 => by rw [e]; exact on_bare (asleep_bare hb) h2⟩) fun _ _ q => q
end Gp
end
section
set_option linter.all false
set_option maxRecDepth 100000
/-! E1: the same trees, a yield with cleanup being a plain one where its code delegates to a generator; what a promise says of the one it says of the other. -/
namespace Er
open PySem PyProof.Rows
open Sem (wp)

/-- a generator's object -/
def isG (o : Obj) : Bool := o.genNumber?.isSome
/-- the running code's delegate -/
def deleg : List (Code × Pos) → Option Addr
  | (.builtin "proto.yield_from" ⟨.ref it :: _, _⟩, _) :: _ => some it
  | _ => none
def chkO {α : Type} (v : Value) (l : List Value) (k : Resume → Sem α) : Bool → Sem α
  | true => .yield v false l k
  | false => .unsupported ""
def chkD {α : Type} (v : Value) (l : List Value) (k : Resume → Sem α) : Option Addr → Sem α
  | some it => .load it none fun o => chkO v l k (isG o)
  | none => .unsupported ""
/-- a yield with cleanup: only where the code delegates to a generator -/
def chk {α : Type} (v : Value) (l : List Value) (k : Resume → Sem α) : Sem α := .stack fun st => chkD v l k (deleg st)
/-- the mark of a sleeper with cleanup: what it holds is looked at by the collector alone -/
def mkd : List Value := [.none]
def er {α : Type} : Sem α → Sem α
  | .pure a => .pure a
  | .raise e => .raise e
  | .unsupported w => .unsupported w
  | .finish e => .finish e
  | .rule t k => .rule t fun x => er (k x)
  | .at p k => .at p fun x => er (k x)
  | .load a p k => .load a p fun x => er (k x)
  | .update a p g k => .update a p g fun x => er (k x)
  | .alloc o k => .alloc o fun x => er (k x)
  | .register a k => .register a fun x => er (k x)
  | .loadIfAlive a k => .loadIfAlive a fun x => er (k x)
  | .point l k => .point l fun x => er (k x)
  | .fresh k => .fresh fun x => er (k x)
  | .ask k => .ask fun x => er (k x)
  | .choose s n k => .choose s n fun x => er (k x)
  | .os q l k => .os q l fun x => er (k x)
  | .call c m g l k => .call c m g l fun x => er (k x)
  | .handled o k => .handled o fun x => er (k x)
  | .genState g k => .genState g fun x => er (k x)
  | .newGen c k => .newGen c fun x => er (k x)
  | .resume g r l k => .resume g r l fun x => er (k x)
  | .yield v g l k => if g = true then chk v mkd fun x => er (k x) else .yield v false [] fun x => er (k x)
  | .stack k => .stack fun x => er (k x)
  | .fork c k => .fork c fun x => er (k x)
  | .thread k => .thread fun x => er (k x)
  | .await a t d l k => .await a t d l fun x => er (k x)
def erF : Frame → Frame
  | .ret k h g l c p kp => .ret (fun r => er (k r)) h g l c p kp
  | .gen g k l c p => .gen g (fun r => er (k r)) l c p
def erG : GenState → GenState
  | .suspended k _ c p fs cl => .suspended (fun r => er (k r)) [] c p (fs.map erF) cl
  | x => x
def erS (s : Shared) : Shared := { s with gens := s.gens.map erG }
def erE : End → End
  | .ret r => .ret r
  | .susp v g _ k c p fs => .susp v g [] (fun r => er (k r)) c p (fs.map erF)
def M2 (M : Model) : Model := { M with den := fun c => er (M.den c) }

theorem erF_where (F : Frame) : (erF F).where_ = F.where_ := by cases F <;> rfl
theorem erF_guarded (F : Frame) : (erF F).guarded = F.guarded := by cases F <;> rfl
theorem map_where (fs : List Frame) : (fs.map erF).map Frame.where_ = fs.map Frame.where_ := by
  rw [List.map_map]
  exact List.map_congr_left fun F _ => erF_where F
theorem any_guarded (fs : List Frame) : (fs.map erF).any Frame.guarded = fs.any Frame.guarded := by
  induction fs with
  | nil => rfl
  | cons F fs ih => rw [List.map_cons, List.any_cons, List.any_cons, ih, erF_guarded]
theorem marks_er (F : Frame) (x : Option Value × Option Value) : (erF F).marks x = F.marks x := by cases F <;> rfl
theorem marksOver_er (fs : List Frame) (x : Option Value × Option Value) : marksOver (fs.map erF) x = marksOver fs x := by
  induction fs with
  | nil => rfl
  | cons F fs ih =>
    show (erF F).marks (marksOver (fs.map erF) x) = F.marks (marksOver fs x)
    rw [ih, marks_er]
theorem split_er : ∀ (fs : List Frame), splitAtGen (fs.map erF) = (splitAtGen fs).map fun (a, (g, k, c, p), b) => (a.map erF, (g, (fun r => er (k r)), c, p), b.map erF)
  | [] => rfl
  | .gen g k l c p :: fs => rfl
  | .ret k h g l c p kp :: fs => by
    show (splitAtGen (fs.map erF)).map _ = Option.map _ ((splitAtGen fs).map _)
    rw [split_er fs]
    cases splitAtGen fs with
    | none => rfl
    | some x => rfl
theorem go_er : ∀ (fs : List Frame) (b : Bool), topHandled.go b (fs.map erF) = topHandled.go b fs := by
  intro fs
  induction fs with
  | nil => intro b; cases b <;> rfl
  | cons F fs ih =>
    intro b
    cases F with
    | gen g k l c p => cases b <;> exact ih false
    | ret k h g l c p kp =>
      cases b with
      | true => exact ih true
      | false =>
        cases h with
        | none => exact ih false
        | some e =>
          show (if e == byPass then topHandled.go true (fs.map erF) else some e) = if e == byPass then topHandled.go true fs else some e
          rw [ih true]
theorem topHandled_er (fs : List Frame) : topHandled (fs.map erF) = topHandled fs := go_er fs false
theorem over_er (Γ : PySem.Ctx) (fs : List Frame) : Γ.over (fs.map erF) = Γ.over fs := by
  unfold Ctx.over
  rw [marksOver_er, map_where, split_er]
  cases h : splitAtGen fs with
  | none =>
    show (⟨_, _, (marksOver (fs.map erF) (Γ.own, none)).1, _, _⟩ : PySem.Ctx) = ⟨_, _, (marksOver fs (Γ.own, none)).1, _, _⟩
    rw [marksOver_er]
  | some x =>
    obtain ⟨pre, b, r⟩ := x
    show (⟨_, _, topHandled (pre.map erF), _, _⟩ : PySem.Ctx) = ⟨_, _, topHandled pre, _, _⟩
    rw [topHandled_er]
theorem quiet_er (e : End) : (erE e).quiet = e.quiet := by
  cases e with
  | ret => rfl
  | susp v g l k c p fs => show (!(g || (fs.map erF).any Frame.guarded)) = _; rw [any_guarded]; rfl
theorem result_er (e : End) : (erE e).result = e.result := by cases e with
  | ret r => rfl
  | susp => rfl
theorem genState_er (e : End) : (erE e).genState = erG e.genState := by
  cases e with
  | ret r => rfl
  | susp v g l k c p fs =>
    show GenState.suspended _ [] c p (fs.map erF) (g || (fs.map erF).any Frame.guarded) = _
    rw [any_guarded]; rfl
theorem seen_er (x : GenState) : (erG x).seen = x.seen := by
  cases x with
  | suspended k l c p fs cl => show (GenStatus.suspended, some ((c, p) :: (fs.map erF).map Frame.where_)) = _; rw [map_where]; rfl
  | _ => rfl
theorem erS_get {s : Shared} {g : Nat} {x : GenState} (h : s.gens[g]? = some x) : (erS s).gens[g]? = some (erG x) := by
  show (s.gens.map erG)[g]? = _
  rw [Array.getElem?_map, h]; rfl
theorem erS_set {s : Shared} {g : Nat} {x : GenState} : erS (s.setGen g x) = (erS s).setGen g (erG x) := by
  unfold erS Shared.setGen
  dsimp only
  congr 1
  apply Array.ext_getElem?
  intro i
  rw [Array.getElem?_map, Array.getElem?_setIfInBounds, Array.getElem?_setIfInBounds, Array.getElem?_map, Array.size_map]
  by_cases e : g = i
  · rw [if_pos e, if_pos e]
    split <;> rfl
  · rw [if_neg e, if_neg e]
theorem er_leaf (r : Result) : er (leafOf r) = leafOf r := by cases r <;> rfl
theorem susp_quiet {v : Value} {g : Bool} {l : List Value} {k : Resume → Sem PySem.Fin} {c : Code} {p : Pos} {fs gs : List Frame} (h : (End.susp v g l k c p (fs ++ gs)).quiet = true) : (End.susp v g l k c p fs).quiet = true := by
  have h' : (!(g || (fs ++ gs).any Frame.guarded)) = true := h
  show (!(g || fs.any Frame.guarded)) = true
  rw [List.any_append] at h'
  cases g <;> cases q : fs.any Frame.guarded <;> simp_all

theorem runs_er {M : Model} {Γ : PySem.Ctx} {p : Pos} {t : Sem PySem.Fin} {fs : List Frame} {s s' : Shared} {e : End} (h : Runs M Γ p t fs s e s') :
    e.quiet = true → Runs (M2 M) Γ p (er t) (fs.map erF) (erS s) (erE e) (erS s') := by
  induction h with
  | done => exact fun _ => .done
  | raise => exact fun _ => .raise
  | again hq _ ih => exact fun q => .again hq (ih q)
  | rule _ ih => exact fun q => .rule (ih q)
  | «at» _ ih => exact fun q => .at (ih q)
  | load ho _ ih => exact fun q => .load ho (ih q)
  | update ho _ ih => exact fun q => .update ho (ih q)
  | loadIfAlive _ ih => exact fun q => .loadIfAlive (ih q)
  | point _ ih => exact fun q => .point (ih q)
  | alloc _ ih => exact fun q => .alloc (ih q)
  | fresh _ ih => exact fun q => .fresh (ih q)
  | ask _ ih => exact fun q => .ask (ih q)
  | choose hn _ ih => exact fun q => .choose hn (ih q)
  | os _ ih => exact fun q => .os (ih q)
  | handled _ ih => exact fun q => .handled (ih q)
  | genState hg _ ih => exact fun q => .genState (erS_get hg) (by rw [seen_er]; exact ih q)
  | stack _ ih => exact fun q => .stack (ih q)
  | thread _ ih => exact fun q => .thread (ih q)
  | @newGen Γ p k s e s' c _ ih =>
    intro q
    refine .newGen ?_
    have e2 : (erS s).gens.size = s.gens.size := Array.size_map ..
    have e1 : (erS s).gens.push (.fresh c) = (s.gens.push (.fresh c)).map erG := by
      rw [Array.map_push]; rfl
    rw [e2, e1]
    exact ih q
  | call _ _ ih1 ih2 => exact fun q => .call (ih1 rfl) (ih2 q)
  | callSusp _ ih =>
    intro q
    have r := ih (susp_quiet q)
    show Runs _ _ _ _ _ _ (.susp _ _ _ _ _ _ ((_ ++ [_]).map erF)) _
    rw [List.map_append]
    exact .callSusp r
  | @yield Γ p v g l k s =>
    intro q
    have hg : g = false := by
      have q' : (!(g || ([] : List Frame).any Frame.guarded)) = true := q
      cases g
      · rfl
      · simp at q'
    subst hg
    exact .yield
  | resumeFresh hg _ hq _ ih1 ih2 =>
    intro q
    have r1 := ih1 hq
    have r2 := ih2 q
    rw [erS_set] at r1 r2
    rw [← genState_er] at r2
    refine .resumeFresh (erS_get hg) r1 (by rw [quiet_er]; exact hq) ?_
    rw [result_er]
    exact r2
  | resumeSuspended hg _ hq _ ih1 ih2 =>
    intro q
    have r1 := ih1 hq
    have r2 := ih2 q
    rw [erS_set] at r1 r2
    rw [← genState_er] at r2
    refine .resumeSuspended (erS_get hg) r1 (by rw [quiet_er]; exact hq) ?_
    rw [result_er]
    exact r2
  | resumeJustStarted hg hv _ ih => exact fun q => .resumeJustStarted (erS_get hg) hv (ih q)
  | resumeThrowFresh hg _ ih =>
    intro q
    have r := ih q
    rw [erS_set] at r
    exact .resumeThrowFresh (erS_get hg) r
  | resumeRunning hg _ ih => exact fun q => .resumeRunning (erS_get hg) (ih q)
  | resumeFinished hg _ ih => exact fun q => .resumeFinished (erS_get hg) (ih q)
  | segRet _ _ ih1 ih2 =>
    intro q
    have r1 := ih1 rfl
    have r2 := ih2 q
    refine .segRet ?_ r2
    rw [← over_er] at r1
    exact r1
  | segGen _ _ ih1 ih2 =>
    intro q
    have r1 := ih1 rfl
    have r2 := ih2 q
    rw [erS_set] at r2
    refine .segGen ?_ r2
    rw [← over_er] at r1
    exact r1
  | segSuspOut hs _ ih =>
    intro q
    have r := ih (susp_quiet q)
    rw [← over_er] at r
    show Runs _ _ _ _ _ _ (.susp _ _ _ _ _ _ ((_ ++ _ :: _).map erF)) _
    rw [List.map_append]
    refine .segSuspOut ?_ r
    have := split_er (_ :: _) |>.trans (by rw [hs])
    exact this
  | segSuspGen hs _ hq _ ih1 ih2 =>
    intro q
    have r1 := ih1 (susp_quiet hq)
    have r2 := ih2 q
    rw [erS_set, ← genState_er] at r2
    rw [← over_er] at r1
    have e3 := (split_er (_ :: _)).trans (by rw [hs])
    have hq2 := hq
    rw [← quiet_er] at hq2
    have e4 : ∀ (a b : List Frame), (a ++ b).map erF = a.map erF ++ b.map erF := fun a b => List.map_append
    simp only [erE, e4] at r1 r2 hq2
    exact .segSuspGen e3 r1 hq2 r2
end Er
end
section
set_option linter.all false
set_option maxRecDepth 100000
/-! E2: a promise lifts to the erased model, at any table of generators that sleep. -/
namespace Er
open PySem PyProof.Rows
open Sem (wp)

theorem wakes_er {M : Model} {Γ : PySem.Ctx} {p : Pos} {g : Nat} {r : Resume} {s s' : Shared} {res : GenResult} (h : Wakes M Γ p g r s res s') : Wakes (M2 M) Γ p g r (erS s) res (erS s') := by
  unfold Wakes at h
  split at h
  · exact h.elim
  · rename_i c hg
    have hg' := erS_get hg
    split at h
    · obtain ⟨e₁, s₁, hr, hq, e1, e2⟩ := h
      have r1 := runs_er hr hq
      rw [erS_set] at r1
      unfold Wakes
      rw [hg']
      exact ⟨erE e₁, _, r1, by rw [quiet_er]; exact hq, by rw [result_er]; exact e1, by rw [e2, erS_set, genState_er]⟩
    · rename_i v hv
      unfold Wakes
      rw [hg', h.1, h.2]
      cases v <;> first | exact ⟨rfl, rfl⟩ | exact absurd rfl hv
    · unfold Wakes
      rw [hg', h.1, h.2, erS_set]
      exact ⟨rfl, rfl⟩
  · rename_i k₀ l₀ c₀ p₀ fs cl hg
    obtain ⟨e₁, s₁, hr, hq, e1, e2⟩ := h
    have r1 := runs_er hr hq
    rw [erS_set] at r1
    unfold Wakes
    rw [erS_get hg]
    exact ⟨erE e₁, _, r1, by rw [quiet_er]; exact hq, by rw [result_er]; exact e1, by rw [e2, erS_set, genState_er]⟩
  · rename_i hg
    unfold Wakes
    rw [erS_get hg]
    exact ⟨h.1, by rw [h.2]⟩
  · rename_i hg
    unfold Wakes
    rw [erS_get hg]
    exact ⟨h.1, by rw [h.2]⟩
theorem wp_er {α : Type} (M : Model) (Γ : PySem.Ctx) (t : Sem α) : ∀ (Q : α → Pos → Shared → Prop) (E : Value → Pos → Shared → Prop) (p : Pos) (s : Shared), wp M Γ t Q E p s →
    wp (M2 M) Γ (er t) (fun a p' s' => ∃ u, s' = erS u ∧ Q a p' u) (fun e p' s' => ∃ u, s' = erS u ∧ E e p' u) p (erS s) := by
  induction t with
  | pure a => intro Q E p s h; exact ⟨s, rfl, h⟩
  | raise e => intro Q E p s h; exact ⟨s, rfl, h⟩
  | unsupported _ => intro Q E p s h; exact h
  | finish _ => intro Q E p s h; exact h
  | rule _ k ih => intro Q E p s h; exact ih () Q E p s h
  | «at» p' k ih => intro Q E p s h; exact ih () Q E p' s h
  | load a _ k ih => intro Q E p s h; obtain ⟨ob, ho, h⟩ := h; exact ⟨ob, ho, ih ob Q E p s h⟩
  | update a _ f k ih => intro Q E p s h; exact ⟨h.1, ih () Q E p { s with heap := s.heap.update a f } h.2⟩
  | loadIfAlive a k ih => intro Q E p s h; exact ih _ Q E p s h
  | point _ k ih => intro Q E p s h; exact ih () Q E p s h
  | register _ _ => intro Q E p s h; exact h
  | alloc ob k ih => intro Q E p s h; exact ih _ Q E p { s with heap := s.heap.push ob } h
  | fresh k ih => intro Q E p s h; exact ih _ Q E p { s with toks := s.toks + 1 } h
  | ask k ih => intro Q E p s h; exact ih _ Q E p s h
  | choose src m k ih => intro Q E p s h; exact ⟨h.1, ih _ Q E p { s with drawn := s.drawn.bump src } h.2⟩
  | os q _ k ih => intro Q E p s h; exact ih _ Q E p { s with os := (Os.step s.os q).1 } h
  | call c hd _ _ k ih =>
    intro Q E p s h
    obtain ⟨r, s', hr, h⟩ := h
    exact ⟨r, erS s', runs_er hr rfl, ih r Q E p s' h⟩
  | handled own k ih => intro Q E p s h; exact ih _ Q E p s h
  | genState g k ih =>
    intro Q E p s h
    obtain ⟨st, hs, h⟩ := h
    exact ⟨erG st, erS_get hs, by rw [seen_er]; exact ih _ Q E p s h⟩
  | newGen c k ih =>
    intro Q E p s h
    have e2 : (erS s).gens.size = s.gens.size := Array.size_map ..
    have e1 : (erS s).gens.push (.fresh c) = (s.gens.push (.fresh c)).map erG := by
      rw [Array.map_push]; rfl
    have h3 := ih s.gens.size Q E p { s with gens := s.gens.push (.fresh c) } h
    show wp (M2 M) Γ (er (k (erS s).gens.size)) _ _ p { erS s with gens := (erS s).gens.push (.fresh c) }
    rw [e2, e1]
    exact h3
  | resume g r _ k ih =>
    intro Q E p s h
    obtain ⟨res, s', hw, h⟩ := h
    exact ⟨res, erS s', wakes_er hw, ih res Q E p s' h⟩
  | yield _ _ _ _ => intro Q E p s h; exact h.elim
  | stack k ih => intro Q E p s h; exact ih _ Q E p s h
  | fork _ _ => intro Q E p s h; exact h
  | thread k ih => intro Q E p s h; exact ih _ Q E p s h
  | await _ _ _ _ _ => intro Q E p s h; exact h

/-- to look at as x is: no tree, no flag -/
def blankF : Frame → Frame
  | .ret _ _ _ _ c p _ => .ret (fun _ => .unsupported "") none false [] c p []
  | .gen g _ _ c p => .gen g (fun _ => .unsupported "") [] c p
def blank : GenState → GenState
  | .suspended _ _ c p fs _ => .suspended (fun _ => .unsupported "") [] c p (fs.map blankF) false
  | x => x
theorem blank_er (x : GenState) : erG (blank x) = blank x := by
  cases x with
  | suspended k l c p fs cl =>
    show GenState.suspended _ [] c p ((fs.map blankF).map erF) false = _
    rw [List.map_map]
    congr 1
    exact List.map_congr_left fun F _ => by cases F <;> rfl
  | _ => rfl
theorem blank_seen (x : GenState) : (blank x).seen = x.seen := by
  cases x with
  | suspended k l c p fs cl =>
    show (GenStatus.suspended, some ((c, p) :: (fs.map blankF).map Frame.where_)) = (GenStatus.suspended, some ((c, p) :: fs.map Frame.where_))
    rw [List.map_map]
    congr 3
    exact List.map_congr_left fun F _ => by cases F <;> rfl
  | _ => rfl
def blankA (G : Array GenState) : Array GenState := G.map blank
theorem blankA_bare (G : Array GenState) : AllBare (blankA G) := by
  intro y hy
  unfold blankA at hy
  rw [Array.mem_map] at hy
  obtain ⟨x, _, e⟩ := hy
  rw [← e]
  cases x <;> rfl
theorem blankA_on (G : Array GenState) : Gp.On (Gp.asleep G) (blankA G) := by
  have e0 : ∀ i, (blankA G)[i]? = G[i]?.map blank := fun i => by unfold blankA; rw [Array.getElem?_map]
  refine ⟨fun i st h => ?_, fun i st h => ?_, fun i x h hi => ?_⟩
  · unfold Gp.asleep at h
    split at h
    · rename_i q; cases h; exact ⟨blank (.suspended _ _ _ _ _ _), by rw [e0, q]; rfl, blank_seen _, _, _, _, _, _, rfl⟩
    · cases h
  · unfold Gp.asleep at h
    split at h
    · cases h; exact ⟨_, _, _, _, _, _, rfl⟩
    · cases h
  · rw [e0] at h
    unfold Gp.asleep at hi
    cases q : G[i]? with
    | none => rw [q] at h; cases h
    | some y =>
      rw [q] at h hi
      cases y <;> first | (cases hi; done) | (injection h with h; subst h; exact trivial)
theorem rest_blank (s : Shared) : Gp.rest (Gp.asleep s.gens) (erS { s with gens := blankA s.gens }) = s := by
  have : Gp.restA (Gp.asleep s.gens) ((blankA s.gens).map erG) = s.gens := by
    apply Array.ext_getElem?
    intro i
    rw [Gp.restA_get, Array.getElem?_map]
    unfold blankA
    rw [Array.getElem?_map]
    unfold Gp.asleep
    cases q : s.gens[i]? with
    | none => rfl
    | some y => cases y <;> rfl
  unfold Gp.rest erS
  dsimp only
  rw [this]
theorem erS_bare {s : Shared} (h : AllBare s.gens) : AllBare (erS s).gens := by
  intro y hy
  have hy' : y ∈ s.gens.map erG := hy
  rw [Array.mem_map] at hy'
  obtain ⟨x, hx, e⟩ := hy'
  have := h x hx
  rw [← e]
  cases x <;> exact this

/-- the state u, but for trees of generators; those that slept in G sleep so -/
structure Like (G : Array GenState) (u s' : Shared) : Prop where
  heap : s'.heap = u.heap
  os : s'.os = u.os
  drawn : s'.drawn = u.drawn
  toks : s'.toks = u.toks
  sleeps : Gp.Sleeps G s'.gens
  bare : AllBare G → AllBare u.gens → AllBare s'.gens
  eq : s' = Gp.rest (Gp.asleep G) (erS u)
  on : Gp.On (Gp.asleep G) (erS u).gens
theorem like_of {G : Array GenState} {u : Shared} (o : Gp.On (Gp.asleep G) (erS u).gens) : Like G u (Gp.rest (Gp.asleep G) (erS u)) :=
  ⟨rfl, rfl, rfl, rfl, Gp.on_sleeps o, fun hb hw => Gp.on_bare (Gp.asleep_bare hb) (erS_bare hw), rfl, o⟩
/-- THE LIFT -/
theorem lift {α : Type} {M : Model} {A : Around} {t : Sem α} {Q : α → Shared → Prop} {E : Value → Shared → Prop} {s : Shared} (h : wpAny M A t Q E { s with gens := blankA s.gens }) :
    wpAny (M2 M) A (er t) (fun a s' => ∃ u, Like s.gens u s' ∧ Q a u) (fun e s' => ∃ u, Like s.gens u s' ∧ E e u) s := by
  have h1 : wpAny (M2 M) A (er t) (fun a s' => ∃ u, s' = erS u ∧ Q a u) (fun e s' => ∃ u, s' = erS u ∧ E e u) (erS { s with gens := blankA s.gens }) := fun Γ p hΓ =>
    wp_er M Γ t (fun a _ s' => Q a s') (fun e _ s' => E e s') p _ (h Γ p hΓ)
  have on : Gp.On (Gp.asleep s.gens) (erS { s with gens := blankA s.gens }).gens := by
    have e : (erS { s with gens := blankA s.gens }).gens = blankA s.gens := by
      show (blankA s.gens).map erG = blankA s.gens
      unfold blankA
      rw [Array.map_map]
      exact Array.map_congr_left fun x _ => blank_er x
    rw [e]
    exact blankA_on s.gens
  have h2 := Gp.wpAny_rest on h1
  rw [rest_blank] at h2
  exact wpAny_mono h2 (fun a s' ⟨u, e, o, w, e2, q⟩ => ⟨w, by rw [e, e2]; exact like_of (by rw [← e2]; exact o), q⟩) fun a s' ⟨u, e, o, w, e2, q⟩ => ⟨w, by rw [e, e2]; exact like_of (by rw [← e2]; exact o), q⟩
/-- .. behind a lift -/
theorem lift2 {α : Type} {M : Model} {A : Around} {G : Array GenState} {t : Sem α} {Q : α → Shared → Prop} {E : Value → Shared → Prop} {u s : Shared} (l : Like G u s) (h : wpAny M A t Q E u) :
    wpAny (M2 M) A (er t) (fun a s' => ∃ u, Like G u s' ∧ Q a u) (fun e s' => ∃ u, Like G u s' ∧ E e u) s := by
  have h1 : wpAny (M2 M) A (er t) (fun a s' => ∃ u, s' = erS u ∧ Q a u) (fun e s' => ∃ u, s' = erS u ∧ E e u) (erS u) := fun Γ p hΓ =>
    wp_er M Γ t (fun a _ s' => Q a s') (fun e _ s' => E e s') p _ (h Γ p hΓ)
  have h2 := Gp.wpAny_rest l.on h1
  rw [← l.eq] at h2
  exact wpAny_mono h2 (fun a s' ⟨u, e, o, w, e2, q⟩ => ⟨w, by rw [e, e2]; exact like_of (by rw [← e2]; exact o), q⟩) fun a s' ⟨u, e, o, w, e2, q⟩ => ⟨w, by rw [e, e2]; exact like_of (by rw [← e2]; exact o), q⟩
end Er
end
section
set_option linter.all false
set_option maxRecDepth 100000
/-! G2: one waking of a generator: to its end, or to its next yield. -/
namespace Gp
open PySem PyProof.Rows
open Sem (wp)

def One (M : Model) (A : Around) (fin : Result → Shared → Prop) (yl : Value → Shared → GenState → Prop) (c : Code) (t : Sem PySem.Fin) (fs : List Frame) (s : Shared) : Prop :=
  ∀ Γ p, Γ.code = c → Γ.Woken A → ∃ e s', Runs M Γ p t fs s e s' ∧ e.quiet = true ∧ match e with
    | .ret r => fin r s'
    | .susp v g l k c p fs => yl v s' (End.genState (.susp v g l k c p fs))
section
variable {M : Model} {A : Around} {fin : Result → Shared → Prop} {yl : Value → Shared → GenState → Prop} {c : Code} {fs : List Frame} {s : Shared}
theorem one_mono {fin' : Result → Shared → Prop} {yl' : Value → Shared → GenState → Prop} {t : Sem PySem.Fin} (h : One M A fin yl c t fs s) (hf : ∀ r s, fin r s → fin' r s) (hy : ∀ v s g, yl v s g → yl' v s g) : One M A fin' yl' c t fs s := by
  intro Γ p hc hΓ
  obtain ⟨e, s', hr, hq, he⟩ := h Γ p hc hΓ
  refine ⟨e, s', hr, hq, ?_⟩
  cases e with
  | ret r => exact hf _ _ he
  | susp => exact hy _ _ _ he
theorem one_wrap {α : Type} {m : Sem α} {K : α → Sem PySem.Fin} {H : Value → Sem PySem.Fin} {gd lv} (h : wpAny M (A.over c fs) m (fun a s' => One M A fin yl c (K a) fs s') (fun x s' => One M A fin yl c (H x) fs s') s) :
    One M A fin yl c (m.wrap K H gd lv) fs s := by
  rintro Γ p rfl hΓ
  obtain ⟨e, s', hr, hq⟩ := runs_wrap_of_wp (Φ := fun e s' => e.quiet = true ∧ match e with
    | .ret r => fin r s'
    | .susp v g l k c p fs => yl v s' (End.genState (.susp v g l k c p fs))) K H gd lv m (h (Γ.over fs) p (hΓ.over fs)) (fun a p' s' h' => h' Γ p' rfl hΓ) fun x p' s' h' => h' Γ p' rfl hΓ
  exact ⟨e, s', hr, hq⟩
theorem one_bind {α : Type} {m : Sem α} {K : α → Sem PySem.Fin} (h : wpAny M (A.over c fs) m (fun a s' => One M A fin yl c (K a) fs s') (fun x s' => One M A fin yl c (.raise x) fs s') s) : One M A fin yl c (m >>= K) fs s := by
  rw [Sem.bind_eq_wrap']
  exact one_wrap h
theorem one_at {p' : Pos} {k : Unit → Sem PySem.Fin} (h : One M A fin yl c (k ()) fs s) : One M A fin yl c (.at p' k) fs s := one_wrap (m := standAt p') (K := k) (H := .raise) (gd := id) (lv := id) (wpAny_standAt h)
theorem one_point {l : List Value} {k : Unit → Sem PySem.Fin} (h : One M A fin yl c (k ()) fs s) : One M A fin yl c (.point l k) fs s := one_wrap (m := point) (K := k) (H := .raise) (gd := id) (lv := fun _ => l) (wpAny_point h)
theorem one_rule {tag : String} {k : Unit → Sem PySem.Fin} (h : One M A fin yl c (k ()) fs s) : One M A fin yl c (.rule tag k) fs s := one_wrap (m := rule tag) (K := k) (H := .raise) (gd := id) (lv := id) (wpAny_rule h)
theorem one_call {c' : Code} {h g l} {k : Result → Sem PySem.Fin} (hc : ∀ p, One M A fin yl c' (M.den c') (.ret k h g l c p [] :: fs) s) : One M A fin yl c (.call c' h g l k) fs s := by
  rintro Γ p rfl hΓ
  obtain ⟨e, s', hr, he⟩ := hc p (Γ.goto c') p rfl (hΓ.goto c')
  exact ⟨e, s', runs_call_seg hr, he⟩
theorem one_leaf {k h g l c₁ p₁ kp} (r : Result) (hk : One M A fin yl c₁ (k r) fs s) : One M A fin yl c (leafOf r) (.ret k h g l c₁ p₁ kp :: fs) s := by
  rintro Γ p rfl hΓ
  obtain ⟨e, s', hr, he⟩ := hk (Γ.goto c₁) p₁ rfl (hΓ.goto c₁)
  exact ⟨e, s', Runs.pop r hr, he⟩
theorem one_again {c' : Code} (hq : c'.quiet = true) (hc : One M A fin yl c' (M.den c') fs s) : One M A fin yl c (.pure (.again c')) fs s := by
  rintro Γ p rfl hΓ
  obtain ⟨e, s', hr, he⟩ := hc (Γ.goto c') p rfl (hΓ.goto c')
  exact ⟨e, s', Runs.head (c₁ := c') (fun _ _ x => .again hq x) hr, he⟩
theorem one_end (r : Result) (h : fin r s) : One M A fin yl c (leafOf r) [] s := by
  rintro Γ p rfl _
  exact ⟨.ret r, s, Runs.leaf r, rfl, h⟩
theorem one_yield {v : Value} {g : Bool} {l : List Value} {k : Resume → Sem PySem.Fin} (hfs : splitAtGen fs = none) (hg : g = false) (hfg : fs.any Frame.guarded = false) (h : ∀ p, yl v s (.suspended k l c p fs false)) : One M A fin yl c (.yield v g l k) fs s := by
  rintro Γ p rfl _
  refine ⟨_, s, Runs.yield' fs hfs, ?_, ?_⟩
  · simp [End.quiet, hg, hfg]
  · have e : End.genState (.susp v g l k Γ.code p fs) = .suspended k l Γ.code p fs false := by simp [End.genState, hg, hfg]
    show yl v s (End.genState (.susp v g l k Γ.code p fs))
    rw [e]
    exact h p
theorem one_execs_nil {env : Env} {K : Flow → Sem PySem.Fin} {H : Value → Sem PySem.Fin} {gd lv} (h : One M A fin yl c (K .next) fs s) : One M A fin yl c ((execs [] env).wrap K H gd lv) fs s := h
theorem one_execs_cons {st : Stmt} {rest : List Stmt} {env : Env} {K : Flow → Sem PySem.Fin} {H : Value → Sem PySem.Fin} {gd lv}
    (h : One M A fin yl c ((exec st env).wrap (fun f => match f with | .next => (execs rest env).wrap K H gd lv | f => K f) H gd lv) fs s) : One M A fin yl c ((execs (st :: rest) env).wrap K H gd lv) fs s := by
  rw [execs_cons_wrap]; exact h
end

/-- woken with r, one waking -/
def Goes (M : Model) (A : Around) (fin : Result → Shared → Prop) (yl : Value → Shared → GenState → Prop) (gs : GenState) (s : Shared) : Prop :=
  match gs with
  | .fresh c => One M A fin yl c (M.den c) [] s
  | .suspended k _ c _ fs _ => One M A fin yl c (k (.send .none)) fs s
  | _ => False
theorem runs_gens {M : Model} {Γ : Ctx} {p : Pos} {t : Sem PySem.Fin} {fs : List Frame} {s s' : Shared} {e : End} (h : Runs M Γ p t fs s e s') : s.gens.size ≤ s'.gens.size := GenW.runs_gsz h
theorem wpAny_wake {M : Model} {A : Around} {fin : Result → Shared → Prop} {yl : Value → Shared → GenState → Prop} {E : Value → Shared → Prop} {s : Shared} {g : Nat} {gs : GenState} {l : List Value} {α : Type} {k : GenResult → Sem α} {Q : α → Shared → Prop} (hg : s.gens[g]? = some gs)
    (hgo : Goes M A fin yl gs (s.setGen g .running))
    (hR : ∀ x s₁, fin x s₁ → s.gens.size ≤ s₁.gens.size → wpAny M A (k (End.ret x).result) Q E (s₁.setGen g .finished))
    (hY : ∀ v s₁ gs', gs'.bare = true → (∃ k l c p fs cl, gs' = GenState.suspended k l c p fs cl) → yl v s₁ gs' → s.gens.size ≤ s₁.gens.size → wpAny M A (k (.yielded v)) Q E (s₁.setGen g gs')) :
    wpAny M A (.resume g (.send .none) l k) Q E s := by
  intro Γ p hΓ
  rw [Sem.wp_resume]
  have sz : (s.setGen g .running).gens.size = s.gens.size := GenW.setGen_size _ _ _
  have fin' : ∀ (e₁ : End) (s₁ : Shared), s.gens.size ≤ s₁.gens.size → e₁.quiet = true → (match e₁ with
      | .ret r => fin r s₁
      | .susp v g l k c p fs => yl v s₁ (End.genState (.susp v g l k c p fs))) → wp M Γ (k e₁.result) (fun a _ s' => Q a s') (fun e _ s' => E e s') p (s₁.setGen g e₁.genState) := by
    intro e₁ s₁ hs hq he
    cases e₁ with
    | ret x => exact hR x s₁ he hs Γ p hΓ
    | susp v g₀ l₀ k₀ c₀ p₀ fs₀ => exact hY v s₁ _ (End.bare_of_quiet hq) ⟨_, _, _, _, _, _, rfl⟩ he hs Γ p hΓ
  cases gs with
  | fresh c =>
    obtain ⟨e₁, s₁, hr, hq, he⟩ := hgo (Γ.wake c p) p rfl (hΓ.wake c p)
    exact ⟨_, _, by unfold Wakes; rw [hg]; exact ⟨e₁, s₁, hr, hq, rfl, rfl⟩, fin' e₁ s₁ (by rw [← sz]; exact runs_gens hr) hq he⟩
  | suspended k₀ l₀ c₀ p₀ fs₀ cl =>
    obtain ⟨e₁, s₁, hr, hq, he⟩ := hgo (Γ.wake c₀ p) p₀ rfl (hΓ.wake c₀ p)
    exact ⟨_, _, by unfold Wakes; rw [hg]; exact ⟨e₁, s₁, hr, hq, rfl, rfl⟩, fin' e₁ s₁ (by rw [← sz]; exact runs_gens hr) hq he⟩
  | running => exact hgo.elim
  | finished => exact hgo.elim

/-- the next of a generator: it raises nothing -/
theorem next_one {P : Program} {w : World} {A : Around} {E : Value → Shared → Prop} {s : Shared} {a : Addr} {g : Nat} {gs : GenState} {fin : Result → Shared → Prop} {yl : Value → Shared → GenState → Prop} {Q : Option Value → Shared → Prop} (hh : A.handled = none)
    (hl : s.heap.NoLimit) (hroom : A.depth < recursionLimit) (hg : s.heap.IsGen a g) (hgs : s.gens[g]? = some gs)
    (hgo : Goes (model P w) A.in1 fin yl gs (s.setGen g .running))
    (hF : ∀ r s₁, fin r s₁ → r = .ok (.ret .none) ∨ r = .ok .next)
    (hY : ∀ v s₁ gs', gs'.bare = true → (∃ k l c p fs cl, gs' = GenState.suspended k l c p fs cl) → yl v s₁ gs' → s.gens.size ≤ s₁.gens.size → Q (some v) (s₁.setGen g gs'))
    (hP : ∀ r s₁, fin r s₁ → s.gens.size ≤ s₁.gens.size → ∀ h', (∀ b o, s₁.heap.get? b = some o → h'.get? b = some o) → Q none { s₁.setGen g .finished with heap := h' }) :
    wpAny (model P w) A (pyNext (.ref a)) Q E s := by
  unfold pyNext
  refine wpAny_bind (wpAny_attempt (wpAny_callSpecial?_slot (name := Str.ofString "__next__") hg.typeIs slot_gen_next
    (wpAny_call_entry slot_gen_next hg.typeIs entry_gen_next ?_ (args_gen_next _))))
  show wpAny _ A.in1 (Builtin.Generator.genWake (.ref a) (.send .none)) _ _ s
  unfold Builtin.Generator.genWake
  refine wpAny_bind (wpAny_holding (wpAny_genNumber hg (wpAny_bind (wpAny_genState hgs ?_))))
  cases gs with
  | running => exact hgo.elim
  | finished => exact hgo.elim
  | _ =>
    refine wpAny_bind (wpAny_roomToWake hl hroom ?_)
    refine wpAny_wake hgs hgo (fun x s₁ hx hs => ?_) (fun v s₁ gs' hb hsu hv hs => ?_)
    · have hres : End.result (.ret x) = .returned .none := by
        rcases hF x s₁ hx with hr | hr <;> rw [hr] <;> rfl
      first | rw [hres] | simp only [hres]
      show wpAny _ A.in1 (newExc (.type "StopIteration") [] >>= _) _ _ _
      refine wpAny_bind ?_
      simp only [newExc, newTuple]
      refine wpAny_bind (wpAny_newObj_type ?_ (by size_fits))
      refine wpAny_bind (m := firstArgMember _ _) (wpAny_of_eq (a := Value.none) (by first | rfl | (simp only [firstArgMember]; rfl)) ?_)
      refine wpAny_newObj_type ?_ (by size_fits)
      simp only [raiseNew]
      refine wpAny_bind (wpAny_bind (wpAny_handled ?_))
      rw [show A.in1.handled = none from hh]
      refine wpAny_throw ?_
      refine wpAny_bind (wpAny_isInstance (T := "StopIteration") (b := true) ⟨_, Heap.get?_push_size _ rfl, rfl⟩ isSubtype_stop ?_)
      exact wpAny_pure (hP x s₁ hx hs _ fun b o hb => Heap.get?_push_of_some _ (Heap.get?_push_of_some _ hb))
    · first
        | exact wpAny_pure (wpAny_pure (hY v s₁ gs' hb hsu hv hs))
        | exact wpAny_pure ⟨_, rfl, wpAny_pure (hY v s₁ gs' hb hsu hv hs)⟩
        | exact wpAny_pure (hY v s₁ gs' hb hsu hv hs)
end Gp
end
section
set_option linter.all false
set_option maxRecDepth 100000
/-! G3: a generator's frame, asleep and woken: the world's objects are known to the object and stay. -/
namespace Gp
open PySem PySem.Spec PyProof.Rows L2

/-- the objects below n -/
def trunc (n : Nat) (h : Heap) : Heap := { h with objs := h.objs.take n }
theorem trunc_size {n : Nat} {h : Heap} : (trunc n h).objs.size ≤ n := by
  unfold trunc
  simp
  omega
theorem trunc_lt {n b : Nat} {h : Heap} (hb : b < n) : (trunc n h).get? b = h.get? b := by
  obtain ⟨objs, l⟩ := h
  unfold trunc Heap.get?
  dsimp only
  have e : (objs.take n)[b]? = objs[b]? := by
    have e1 : objs.take n = objs.extract 0 n := by simp
    rw [e1, Array.getElem?_extract]
    by_cases h2 : b < objs.size
    · rw [if_pos (by omega), Nat.zero_add]
    · rw [if_neg (by omega), Array.getElem?_eq_none (by omega)]
  rw [e]
theorem trunc_ge {n b : Nat} {h : Heap} (hb : n ≤ b) : (trunc n h).get? b = none := by
  refine Heap.get?_none_of_le ?_
  exact Nat.le_trans trunc_size hb
theorem trunc_some {n b : Nat} {h : Heap} {o : Obj} (e : (trunc n h).get? b = some o) : b < n ∧ h.get? b = some o := by
  by_cases hb : b < n
  · rw [trunc_lt hb] at e
    exact ⟨hb, e⟩
  · rw [trunc_ge (Nat.le_of_not_lt hb)] at e
    cases e
theorem trunc_size_ge {n : Nat} {h : Heap} (hn : n ≤ h.objs.size) : (trunc n h).objs.size = n := by
  unfold trunc
  simp
  omega

/-- the tuples of H -/
def tupsOf (H : Hp) : Hp := fun b => match H b with
  | some (.tup xs) => some (.tup xs)
  | _ => none
def Tups (H : Hp) : Prop := ∀ b o, H b = some o → ∃ xs, o = .tup xs
theorem tupsOf_tups {H : Hp} : Tups (tupsOf H) := fun b o h => by
  unfold tupsOf at h
  split at h
  · cases h; exact ⟨_, rfl⟩
  · cases h
theorem tupsOf_at {H : Hp} {b : Addr} {xs : List V} : tupsOf H b = some (.tup xs) ↔ H b = some (.tup xs) := by
  unfold tupsOf
  constructor
  · intro h
    split at h
    · rename_i e; cases h; exact e
    · cases h
  · intro h
    rw [h]
theorem tupsOf_none {H : Hp} {b : Addr} (h : H b = none) : tupsOf H b = none := by unfold tupsOf; rw [h]
theorem tupsOf_frz {H : Hp} {b : Addr} {o : Obj} {u : HO} (h : H b = some (.frz o u)) : tupsOf H b = none := by unfold tupsOf; rw [h]
theorem hok_tups {P : Program} {w : World} {H : Hp} {h : Heap} (k : HOk P w H h) : HOk P w (tupsOf H) h := fun b o e => by
  obtain ⟨xs, rfl⟩ := tupsOf_tups b o e
  exact k b _ (tupsOf_at.mp e)
/-- what a generator takes the heap to be when it wakes: its tuples, and the young objects of others, each as it is -/
def frzW (n : Nat) (P0 : List Addr) (Hg : Hp) (h : Heap) : Hp := fun b => match Hg b with
  | some o => some o
  | none => if n ≤ b ∧ b ∉ P0 then (h.get? b).map fun o => .frz o (.ext fun _ => True) else none
theorem frzW_tup {n : Nat} {P0 : List Addr} {Hg : Hp} {h : Heap} {b : Addr} {o : HO} (e : Hg b = some o) : frzW n P0 Hg h b = some o := by unfold frzW; rw [e]
theorem frzW_old {n : Nat} {P0 : List Addr} {Hg : Hp} {h : Heap} {b : Addr} (e : Hg b = none) (hb : b < n) : frzW n P0 Hg h b = none := by
  unfold frzW
  rw [e]
  dsimp only
  rw [if_neg fun z => absurd (Nat.lt_of_lt_of_le hb z.1) (Nat.lt_irrefl _)]
theorem frzW_own {n : Nat} {P0 : List Addr} {Hg : Hp} {h : Heap} {b : Addr} (e : Hg b = none) (hb : b ∈ P0) : frzW n P0 Hg h b = none := by
  unfold frzW
  rw [e]
  dsimp only
  rw [if_neg fun z => z.2 hb]
theorem frzW_frz {n : Nat} {P0 : List Addr} {Hg : Hp} {h : Heap} {b : Addr} {o : Obj} (e : Hg b = none) (h1 : n ≤ b) (h2 : b ∉ P0) (h3 : h.get? b = some o) : frzW n P0 Hg h b = some (.frz o (.ext fun _ => True)) := by
  unfold frzW
  rw [e]
  dsimp only
  rw [if_pos ⟨h1, h2⟩, h3]
  rfl
theorem frzW_hok {P : Program} {w : World} {n : Nat} {P0 : List Addr} {Hg : Hp} {h : Heap} (ht : Tups Hg) (k : HOk P w Hg h) : HOk P w (frzW n P0 Hg h) h := fun b o e => by
  unfold frzW at e
  split at e
  · rename_i u hu
    cases e
    obtain ⟨xs, rfl⟩ := ht b _ hu
    exact k b _ hu
  · split at e
    · cases q : h.get? b with
      | none => rw [q] at e; cases e
      | some ob =>
        rw [q] at e
        cases e
        exact ⟨q, trivial, ⟨ob, q⟩, fun _ _ _ _ => trivial⟩
    · cases e

/-- a generator frame's context, whatever it is woken in: no cells, no exception leaves it -/
structure GCx (X : Cx) (n : Nat) : Prop where
  mod : Mod X.K X.mg X.base
  kind : X.env.scope.kind = .function
  glob : X.env.globals = mainGlobals
  blt : X.env.builtins = builtinsNs
  loc : X.env.locals = n
  cells : X.env.cells = []
  nocell : ∀ x, X.env.kindOf x ≠ some .cell ∧ X.env.kindOf x ≠ some .free
  hd : X.A.handled = none
  frames : X.A.frames = some X.stack
  stk : X.stack = X.env :: X.outer
  frame : X.env.frame = some X.env.locals
  ex : X.ex = []
  pn : X.pn = []
def at_ (X : Cx) (n : Nat) (s : Shared) (H : Hp) : Cx := { X with s_0 := { s with heap := trunc n s.heap }, H_0 := H, xe := fun _ _ => False }

theorem funs_trunc {h base : Heap} {n : Nat} : ∀ {l : List Env}, (∀ b ∈ frs l, b < n) → h.FunFrames base l → (trunc n h).FunFrames base l := by
  intro l
  induction l with
  | nil => intro _ _; trivial
  | cons env r ih =>
    intro hs hl
    obtain ⟨hk, ⟨L, o, hf, hn, ho, hd⟩, hr⟩ := hl
    have hL : L < n := hs L (by unfold frs; rw [List.filterMap_cons, hf]; exact List.mem_cons_self)
    exact ⟨hk, ⟨L, o, hf, hn, by rw [trunc_lt hL]; exact ho, hd⟩, ih (fun b hb => hs b (by unfold frs; rw [List.filterMap_cons, hf]; exact List.mem_cons_of_mem _ hb)) hr⟩

theorem at_ok {X : Cx} {n : Nat} {s : Shared} {Hg : Hp} {P0 : List Addr} {A : Around} (G : GCx X n) (e0 : Env0 X.prog X.w X.K X.mg X.base A X.outer s Hg) (hn : n ≤ s.heap.objs.size) (hb : X.base.objs.size ≤ n) (hfs : ∀ b ∈ frs X.outer, b < n) :
    (at_ X n s (frzW n P0 Hg s.heap)).Ok where
  mod := G.mod
  kind := G.kind
  glob := G.glob
  blt := G.blt
  above := by
    show (trunc n s.heap).objs.size ≤ X.env.locals
    rw [G.loc]
    exact trunc_size
  inj := fun x y c h => by
    have : X.env.cells.lookup x = some c := h
    rw [G.cells] at this; cases this
  has := fun x h => by
    rcases h with h | h
    · exact absurd h (G.nocell x).1
    · exact absurd h (G.nocell x).2
  cab := fun x c _ h => by
    have : X.env.cells.lookup x = some c := h
    rw [G.cells] at this; cases this
  hd := fun _ => G.hd
  frames := G.frames
  stk := .inr ⟨G.stk, G.frame⟩
  exf := fun b h => by
    have : b ∈ X.ex := h
    rw [G.ex] at this; cases this
  bs := fun b o h => by
    obtain ⟨h1, h2⟩ := e0.bs b o h
    have hlt : b < n := Nat.lt_of_lt_of_le (Heap.lt_size h) hb
    refine ⟨?_, frzW_old h2 hlt⟩
    show (trunc n s.heap).get? b = some o
    rw [trunc_lt hlt]
    exact h1
  bsz := by
    show X.base.objs.size ≤ (trunc n s.heap).objs.size
    rw [trunc_size_ge hn]
    exact hb
  noex := fun b o _ h => by
    have : b ∈ X.ex := h
    rw [G.ex] at this; cases this
  exfs := fun b h => by
    have : b ∈ X.ex := h
    rw [G.ex] at this; cases this
  funs := funs_trunc hfs e0.funs
  frf := fun b h => frzW_old (e0.frf b h) (hfs b h)

/-- woken: all that was private is as it was -/
theorem woke0 {X : Cx} {n : Nat} {s s' : Shared} {H : Hp} {ip : List (Addr × Obj)} {σ : L2.St} {A : Around} {oL : Obj} {P1 : List Addr} (G : GCx X n)
    (loc : ∃ m, s.heap.Ns X.env.locals m ∧ ∀ (i : Nat) (x : Str) (v : V), X.N[i]? = some x → σ[i]? = some (some v) → Vis X.env.scope x → ∃ u, RelV v u ∧ Look X.env s.heap m x u) (free : H X.env.locals = none)
    (pin : ∀ p ∈ ip, H p.1 = none ∧ p.1 ≠ X.env.locals ∧ p.1 ∉ X.fs ∧ ∀ v, p.2.data ≠ .cell v) (len : σ.length = X.N.length) (e0 : Env0 X.prog X.w X.K X.mg X.base A X.outer s' (tupsOf H)) (hn : n ≤ s'.heap.objs.size) (hb : X.base.objs.size ≤ n)
    (hfs : ∀ b ∈ frs X.outer, b < n) (hL : s.heap.get? X.env.locals = some oL) (hL' : s'.heap.get? X.env.locals = some oL) (hip : ∀ p ∈ ip, s'.heap.get? p.1 = some p.2) (h1 : X.env.locals ∈ P1) (h2 : ∀ p ∈ ip, p.1 ∈ P1) :
    Inv (at_ X n s' (frzW n P1 (tupsOf H) s'.heap)) ip σ (frzW n P1 (tupsOf H) s'.heap) s' where
  ok := at_ok G e0 hn hb hfs
  os := rfl
  bare := e0.bare
  base := Un.kept fun b u e => (trunc_some e).2
  loc := by
    obtain ⟨m, ⟨o, es, ep, ho, r⟩, hl⟩ := loc
    refine ⟨m, ⟨o, es, ep, ?_, r⟩, fun i x v e1 e2 e3 => ?_⟩
    · have e : s.heap.get? X.env.locals = some o := ho
      rw [hL] at e
      cases e
      exact hL'
    · obtain ⟨u, rv, l⟩ := hl i x v e1 e2 e3
      refine ⟨u, rv, ?_⟩
      rcases l with l | ⟨k, c, e, _⟩
      · exact .inl l
      · have : X.env.cells.lookup x = some c := e
        rw [G.cells] at this; cases this
  cell := fun x c h => by
    have : X.env.cells.lookup x = some c := h
    rw [G.cells] at this; cases this
  free := frzW_own (tupsOf_none free) h1
  freeC := fun x c h => by
    have : X.env.cells.lookup x = some c := h
    rw [G.cells] at this; cases this
  pin := fun p hp => by
    have epn : (at_ X n s' (frzW n P1 (tupsOf H) s'.heap)).pn = [] := G.pn
    rw [epn] at hp
    have hp : p ∈ ip := hp
    obtain ⟨q2, q3, q4, q5⟩ := pin p hp
    exact ⟨hip p hp, frzW_own (tupsOf_none q2) (h2 p hp), q3, q4, q5⟩
  hok := frzW_hok tupsOf_tups e0.hok
  len := len
theorem woke {X : Cx} {n : Nat} {s₀ s s' : Shared} {H0 H : Hp} {ip : List (Addr × Obj)} {σ : L2.St} {A : Around} {oL : Obj} {P1 : List Addr} (G : GCx X n) (I : Inv (at_ X n s₀ H0) ip σ H s) (e0 : Env0 X.prog X.w X.K X.mg X.base A X.outer s' (tupsOf H)) (hn : n ≤ s'.heap.objs.size) (hb : X.base.objs.size ≤ n)
    (hfs : ∀ b ∈ frs X.outer, b < n) (hL : s.heap.get? X.env.locals = some oL) (hL' : s'.heap.get? X.env.locals = some oL) (hip : ∀ p ∈ ip, s'.heap.get? p.1 = some p.2) (h1 : X.env.locals ∈ P1) (h2 : ∀ p ∈ ip, p.1 ∈ P1) :
    Inv (at_ X n s' (frzW n P1 (tupsOf H) s'.heap)) ip σ (frzW n P1 (tupsOf H) s'.heap) s' :=
  woke0 (s := s) G I.loc I.free (fun p hp => (I.pin p (List.mem_append_right _ hp)).2) I.len e0 hn hb hfs hL hL' hip h1 h2
end Gp
end
section
set_option linter.all false
set_option maxRecDepth 100000
/-! G4: the protocol of a generator that raises nothing, its statements. -/
namespace Gp
open PySem PySem.Spec PyProof.Rows L2

abbrev Item := V → Hp → Prop
/-- from one waking (s₀) to its end or its yield (s): P0: what was private; Hg0, Hg: the tuples known; pv: what is private now -/
structure Bnd (X : Cx) (n : Nat) (P0 : List Addr) (Hg0 Hg : Hp) (pv : List (Addr × Obj)) (s₀ s : Shared) : Prop where
  os : s.os = s₀.os
  bare : AllBare s.gens
  tup : Tups Hg
  hok : HOk X.prog X.w Hg s.heap
  more : ∀ b xs, Hg0 b = some (.tup xs) → Hg b = some (.tup xs)
  keep : ∀ b o, s₀.heap.get? b = some o → Hg0 b = none → b ∉ P0 → b ∉ frs X.outer → s.heap.get? b = some o
  slot : ∀ b o, s₀.heap.get? b = some o → b ∈ frs X.outer → ∃ sl, s.heap.get? b = some { o with slots := sl }
  free : ∀ b o, s₀.heap.get? b = some o → Hg0 b = none → b ∉ P0 → Hg b = none
  pv : ∀ p ∈ pv, s.heap.get? p.1 = some p.2 ∧ Hg p.1 = none ∧ n ≤ p.1 ∧ (p.1 ∈ P0 ∨ s₀.heap.get? p.1 = none) ∧ ∀ v, p.2.data ≠ .cell v
/-- asleep at s, woken at s' -/
structure Woke (X : Cx) (n : Nat) (A : Around) (g : Nat) (Hg : Hp) (pv : List (Addr × Obj)) (s s' : Shared) : Prop where
  e0 : Env0 X.prog X.w X.K X.mg X.base A X.outer s' Hg
  sz : n ≤ s'.heap.objs.size
  gz : g < s'.gens.size
  pv : ∀ p ∈ pv, s'.heap.get? p.1 = some p.2
  gens : ∀ (i : Nat) k l c p fs cl, g < i → s.gens[i]? = some (GenState.suspended k l c p fs cl) → s'.gens[i]? = some (GenState.suspended k l c p fs cl)
def addrs (pv : List (Addr × Obj)) : List Addr := pv.map (·.1)
def Asleep (X : Cx) (n : Nat) (A : Around) (g : Nat) : List Item → Hp → List (Addr × Obj) → Shared → GenState → Prop
  | [], Hg, pv, s, gs => ∀ s', Woke X n A g Hg pv s s' → Goes (model X.prog X.w) A (fun r s1 => (r = .ok (.ret .none) ∨ r = .ok .next) ∧ ∃ Hg', Bnd X n (addrs pv) Hg Hg' [] s' s1) (fun _ _ _ => False) gs s'
  | it :: r, Hg, pv, s, gs => ∀ s', Woke X n A g Hg pv s s' → Goes (model X.prog X.w) A (fun _ _ => False) (fun v s1 gs' => ∃ x Hg' pv', RelV x v ∧ it x Hg' ∧ Bnd X n (addrs pv) Hg Hg' pv' s' s1 ∧ Asleep X n A g r Hg' pv' s1 gs') gs s'
def finOf (X : Cx) (n : Nat) (P0 : List Addr) (Hg0 : Hp) (its : List Item) (s₀ : Shared) : Result → Shared → Prop := match its with
  | [] => fun r s1 => (r = .ok (.ret .none) ∨ r = .ok .next) ∧ ∃ Hg', Bnd X n P0 Hg0 Hg' [] s₀ s1
  | _ :: _ => fun _ _ => False
def ylOf (X : Cx) (n : Nat) (A : Around) (g : Nat) (P0 : List Addr) (Hg0 : Hp) (its : List Item) (s₀ : Shared) : Value → Shared → GenState → Prop := match its with
  | [] => fun _ _ _ => False
  | it :: r => fun v s1 gs' => ∃ x Hg' pv', RelV x v ∧ it x Hg' ∧ Bnd X n P0 Hg0 Hg' pv' s₀ s1 ∧ Asleep X n A g r Hg' pv' s1 gs'
theorem asleep_iff {X : Cx} {n : Nat} {A : Around} {g : Nat} {its : List Item} {Hg : Hp} {pv : List (Addr × Obj)} {s : Shared} {gs : GenState} :
    Asleep X n A g its Hg pv s gs ↔ ∀ s', Woke X n A g Hg pv s s' → Goes (model X.prog X.w) A (finOf X n (addrs pv) Hg its s') (ylOf X n A g (addrs pv) Hg its s') gs s' := by
  cases its with
  | nil => rw [Asleep]; exact Iff.rfl
  | cons it r => rw [Asleep]; exact Iff.rfl

/-- what is known of a waking -/
structure SF (n : Nat) (Hg0 : Hp) (s₀ : Shared) : Prop where
  tup : Tups Hg0
  sz : n ≤ s₀.heap.objs.size
abbrev GG (X : Cx) (n : Nat) (A : Around) (g : Nat) (its : List Item) (s₀ : Shared) (P0 : List Addr) (Hg0 : Hp) (c : Code) (t : Sem PySem.Fin) (fs : List Frame) (s : Shared) : Prop :=
  One (model X.prog X.w) A (finOf X n P0 Hg0 its s₀) (ylOf X n A g P0 Hg0 its s₀) c t fs s
abbrev GI (X : Cx) (n : Nat) (P0 : List Addr) (Hg0 : Hp) (s₀ : Shared) (ip : List (Addr × Obj)) (σ : L2.St) (H : Hp) (s : Shared) : Prop := Inv (at_ X n s₀ (frzW n P0 Hg0 s₀.heap)) ip σ H s
/-- where the generator's code stands -/
structure GAt (X : Cx) (n : Nat) (ip : List (Addr × Obj)) (A : Around) (c : Code) (fs : List Frame) (gd : Bool → Bool) : Prop where
  gcx : GCx X n
  base : X.base.objs.size ≤ n
  fsl : ∀ b ∈ frs X.outer, b < n
  ipn : ∀ p ∈ ip, n ≤ p.1
  over : A.over c fs = X.A
  split : splitAtGen fs = none
  guard : fs.any Frame.guarded = false
  gd : gd false = false

section
variable {X : Cx} {n g : Nat} {P0 : List Addr} {Hg0 H : Hp} {s₀ s : Shared} {ip : List (Addr × Obj)} {σ : L2.St} {A : Around} {c : Code} {fs : List Frame} {gd : Bool → Bool}
theorem own_or_new (ht : Tups Hg0) (I : GI X n P0 Hg0 s₀ ip σ H s) {b : Addr} (hn : n ≤ b) (hH : H b = none) : b ∈ P0 ∨ s₀.heap.get? b = none := by
  by_cases hb : b ∈ P0
  · exact .inl hb
  cases e : s₀.heap.get? b with
  | none => exact .inr rfl
  | some o =>
    cases q : Hg0 b with
    | none =>
      have := I.base.frzs b o _ (frzW_frz q hn hb e)
      rw [hH] at this; cases this
    | some u =>
      obtain ⟨xs, rfl⟩ := ht b u q
      have := I.base.tups b xs (frzW_tup q)
      rw [hH] at this; cases this
theorem bnd_of (ht : Tups Hg0) (ex : X.ex = []) (fsl : ∀ b ∈ frs X.outer, b < n) (I : GI X n P0 Hg0 s₀ ip σ H s) {pv : List (Addr × Obj)} (hpv : ∀ p ∈ pv, s.heap.get? p.1 = some p.2 ∧ H p.1 = none ∧ n ≤ p.1 ∧ ∀ v, p.2.data ≠ .cell v) : Bnd X n P0 Hg0 (tupsOf H) pv s₀ s := by
  have noex : ∀ b, b ∉ (at_ X n s₀ (frzW n P0 Hg0 s₀.heap)).ex := fun b hb => by
    have : b ∈ X.ex := hb
    rw [ex] at this; cases this
  refine ⟨I.os, I.bare, tupsOf_tups, hok_tups I.hok, fun b xs e => tupsOf_at.mpr (I.base.tups b xs (frzW_tup e)), fun b o e h0 hP hf => ?_, fun b o e hf => ?_, fun b o e h0 hP => ?_, fun p hp => ?_⟩
  · by_cases hb : b < n
    · exact I.base.keep b o (by show (trunc n s₀.heap).get? b = _; rw [trunc_lt hb]; exact e) (frzW_old h0 hb) hf (noex b)
    · exact (I.hok b _ (I.base.frzs b o _ (frzW_frz h0 (Nat.le_of_not_lt hb) hP e))).1
  · exact I.base.slot b o (by show (trunc n s₀.heap).get? b = _; rw [trunc_lt (fsl b hf)]; exact e) (I.ok.frf b hf) hf (noex b)
  · by_cases hb : b < n
    · exact tupsOf_none (I.base.free b o (by show (trunc n s₀.heap).get? b = _; rw [trunc_lt hb]; exact e) (frzW_old h0 hb) (noex b))
    · exact tupsOf_frz (I.base.frzs b o _ (frzW_frz h0 (Nat.le_of_not_lt hb) hP e))
  · obtain ⟨q1, q2, q3, q4⟩ := hpv p hp
    exact ⟨q1, tupsOf_none q2, q3, own_or_new ht I q3 q2, q4⟩
/-- what is private while its code sleeps -/
theorem priv_of (G : GAt X n ip A c fs gd) (I : GI X n P0 Hg0 s₀ ip σ H s) : ∃ oL, s.heap.get? X.env.locals = some oL ∧ ∀ p ∈ (X.env.locals, oL) :: ip, s.heap.get? p.1 = some p.2 ∧ H p.1 = none ∧ n ≤ p.1 ∧ ∀ v, p.2.data ≠ .cell v := by
  obtain ⟨m, ⟨o, es, ep, ho, hd, r⟩, hl⟩ := id I.loc
  refine ⟨o, ho, fun p hp => ?_⟩
  rcases List.mem_cons.mp hp with e | hp
  · rw [e]
    refine ⟨ho, I.free, Nat.le_of_eq G.gcx.loc.symm, fun v q => ?_⟩
    rw [hd] at q; cases q
  · obtain ⟨q1, q2, q3, q4, q5⟩ := I.pin p (List.mem_append_right _ hp)
    exact ⟨q1, q2, G.ipn p hp, q5⟩
/-- asleep with this code, if it goes on with it -/
theorem asleep_at (G : GAt X n ip A c fs gd) (I : GI X n P0 Hg0 s₀ ip σ H s) {oL : Obj} (hL : s.heap.get? X.env.locals = some oL) {its : List Item} {k : Resume → Sem PySem.Fin} {l : List Value} {p : Pos}
    (h : ∀ s' P1, SF n (tupsOf H) s' → GI X n P1 (tupsOf H) s' ip σ (frzW n P1 (tupsOf H) s'.heap) s' → GG X n A g its s' P1 (tupsOf H) c (k (.send .none)) fs s') :
    Asleep X n A g its (tupsOf H) ((X.env.locals, oL) :: ip) s (.suspended k l c p fs false) := by
  refine asleep_iff.mpr fun s' W => ?_
  refine h s' _ ⟨tupsOf_tups, W.sz⟩ (woke (A := A) G.gcx I W.e0 W.sz G.base G.fsl hL (W.pv (X.env.locals, oL) List.mem_cons_self) (fun p hp => W.pv p (List.mem_cons_of_mem _ hp)) ?_ fun p hp => ?_)
  · unfold addrs
    rw [List.map_cons]
    exact List.mem_cons_self
  · unfold addrs
    rw [List.map_cons]
    exact List.mem_cons_of_mem _ (List.mem_map_of_mem (f := Prod.fst) hp)
end

/-- what is wanted behind a statement: of what is left to hand out -/
structure YEnds where
  nx : List Item → L2.St → Hp → Prop
  rt : List Item → V → Hp → Prop
  bk : List Item → L2.St → Hp → Prop := fun _ _ _ => False
  ct : List Item → L2.St → Hp → Prop := fun _ _ _ => False
abbrev TY := YEnds → List Item → L2.St → Hp → Prop
def YEnds.at (D : YEnds) (its : List Item) : Ends := { nx := D.nx its, rt := D.rt its, bk := D.bk its, ct := D.ct its }
structure YK (X : Cx) (n : Nat) (A : Around) (g : Nat) (ip : List (Addr × Obj)) (c : Code) (fs : List Frame) (K : Flow → Sem PySem.Fin) (D : YEnds) : Prop where
  ok : ∀ (its : List Item) (s₀ : Shared) (P0 : List Addr) (Hg0 : Hp) (s : Shared) (f : Flow), SF n Hg0 s₀ → SP (at_ X n s₀ (frzW n P0 Hg0 s₀.heap)) ip (D.at its) f s → GG X n A g its s₀ P0 Hg0 c (K f) fs s
structure YS (X : Cx) (n : Nat) (st : Stmt) (t : TY) : Prop where
  run : ∀ (A : Around) (g : Nat) (ip : List (Addr × Obj)) (its : List Item) (s₀ : Shared) (P0 : List Addr) (Hg0 : Hp) (c : Code) (fs : List Frame) (K : Flow → Sem PySem.Fin) (J : Value → Sem PySem.Fin) (gd : Bool → Bool) (lv : List Value → List Value) (s : Shared) (σ : L2.St) (H : Hp) (D : YEnds),
    GAt X n ip A c fs gd → YK X n A g ip c fs K D → SF n Hg0 s₀ → GI X n P0 Hg0 s₀ ip σ H s → t D its σ H → GG X n A g its s₀ P0 Hg0 c ((exec st X.env).wrap K J gd lv) fs s
structure YSs (X : Cx) (n : Nat) (st : List Stmt) (t : TY) : Prop where
  run : ∀ (A : Around) (g : Nat) (ip : List (Addr × Obj)) (its : List Item) (s₀ : Shared) (P0 : List Addr) (Hg0 : Hp) (c : Code) (fs : List Frame) (K : Flow → Sem PySem.Fin) (J : Value → Sem PySem.Fin) (gd : Bool → Bool) (lv : List Value → List Value) (s : Shared) (σ : L2.St) (H : Hp) (D : YEnds),
    GAt X n ip A c fs gd → YK X n A g ip c fs K D → SF n Hg0 s₀ → GI X n P0 Hg0 s₀ ip σ H s → t D its σ H → GG X n A g its s₀ P0 Hg0 c ((execs st X.env).wrap K J gd lv) fs s
section
variable {X : Cx} {n : Nat} {st : Stmt} {rest : List Stmt}
/-- a statement that hands out nothing -/
def yPlain (t : TS) : TY := fun D its σ H => t (D.at its) σ H
theorem ys_ps {t : TS} (h : ∀ s H, PS (at_ X n s H) st t) : YS X n st (yPlain t) := by
  refine ⟨fun A g ip its s₀ P0 Hg0 c fs K J gd lv s σ H D G k ht hI hq => one_wrap ?_⟩
  rw [G.over]
  exact wpAny_mono ((h s₀ (frzW n P0 Hg0 s₀.heap)).run _ s σ H (D.at its) hI hq) (fun f s' hs => k.ok its s₀ P0 Hg0 s' f ht hs) fun x s' hx => hx.elim
theorem yss_pss {t : TS} (h : ∀ s H, PSs (at_ X n s H) rest t) : YSs X n rest (yPlain t) := by
  refine ⟨fun A g ip its s₀ P0 Hg0 c fs K J gd lv s σ H D G k ht hI hq => one_wrap ?_⟩
  rw [G.over]
  exact wpAny_mono ((h s₀ (frzW n P0 Hg0 s₀.heap)).run _ s σ H (D.at its) hI hq) (fun f s' hs => k.ok its s₀ P0 Hg0 s' f ht hs) fun x s' hx => hx.elim
def y0 : TY := fun D its σ H => D.nx its σ H
theorem yss_nil : YSs X n [] y0 := ⟨fun A g ip its s₀ P0 Hg0 c fs K J gd lv s σ H D G k ht hI hq => one_execs_nil (k.ok its s₀ P0 Hg0 s .next ht ⟨σ, H, hI, hq⟩)⟩
def yThen (t u : TY) : TY := fun D its σ H => t { D with nx := fun its' σ' H' => u D its' σ' H' } its σ H
theorem yss_cons {t u : TY} (a : YS X n st t) (b : YSs X n rest u) : YSs X n (st :: rest) (yThen t u) := by
  refine ⟨fun A g ip its s₀ P0 Hg0 c fs K J gd lv s σ H D G k ht hI hq => ?_⟩
  refine one_execs_cons ?_
  refine a.run A g ip its s₀ P0 Hg0 c fs _ J gd lv s σ H { D with nx := fun its' σ' H' => u D its' σ' H' } G ⟨fun its' s₀' P0' Hg0' s' f ht' hs => ?_⟩ ht hI hq
  cases f with
  | next =>
    obtain ⟨σ', H', I', q⟩ := hs
    exact b.run A g ip its' s₀' P0' Hg0' c fs K J gd lv s' σ' H' D G k ht' I' q
  | brk => exact k.ok its' s₀' P0' Hg0' s' .brk ht' hs
  | cont => exact k.ok its' s₀' P0' Hg0' s' .cont ht' hs
  | ret u => exact k.ok its' s₀' P0' Hg0' s' (.ret u) ht' hs

/-! ### yield -/
theorem one_Yield {M : Model} {A : Around} {fin : Result → Shared → Prop} {yl : Value → Shared → GenState → Prop} {c : Code} {fs : List Frame} {s : Shared} {env : Env} {K : Flow → Sem PySem.Fin} {H : Value → Sem PySem.Fin} {gd : Bool → Bool} {lv : List Value → List Value} {e : Expr} {ypos pos : Pos}
    (hfs : splitAtGen fs = none) (hgd : gd false = false) (hfg : fs.any Frame.guarded = false)
    (h : wpAny M (A.over c fs) (eval e env) (fun v s' => ∀ (k : Resume → Sem PySem.Fin) l p, k (.send .none) = K .next → yl v s' (.suspended k l c p fs false)) (fun x s' => One M A fin yl c (H x) fs s') s)
    (hco : env.scope.isCoroutine = false) (hi : interactive env = false) : One M A fin yl c ((exec (.Expr (.Yield (some e) ypos) pos) env).wrap K H gd lv) fs s := by
  rw [exec_Expr env _ pos hi rfl]
  show One M A fin yl c (.at pos fun _ => ((eval e env >>= fun v => (standAt ypos >>= fun _ => yieldOut env v)) >>= fun x => dropValue (.Yield (some e) ypos) pos x).wrap K H gd lv) fs s
  have hy : ∀ v, yieldOut env v = yieldValue v := fun v => by simp only [yieldOut, hco, Bool.false_eq_true, if_false]
  simp only [hy]
  refine one_at ?_
  rw [Sem.bind_eq_wrap', Sem.bind_eq_wrap', Sem.wrap_wrap, Sem.wrap_wrap]
  refine one_wrap (wpAny_mono h (fun v s' h' => ?_) fun _ _ x => x)
  refine one_at (one_yield hfs hgd hfg fun p => ?_)
  exact h' _ _ p rfl
def yYield (te : TE) : TY := fun D its σ H => te σ H fun x H1 => ∃ it r, its = it :: r ∧ it x (tupsOf H1) ∧ ∀ H2, (∀ b xs, H1 b = some (.tup xs) → H2 b = some (.tup xs)) → D.nx r σ H2
theorem ys_yield {e : Expr} {te : TE} {yp pos : Pos} (he : ∀ s H, PE (at_ X n s H) e te) (hco : X.env.scope.isCoroutine = false) (hi : interactive X.env = false := by rfl) : YS X n (.Expr (.Yield (some e) yp) pos) (yYield te) := by
  refine ⟨fun A g ip its s₀ P0 Hg0 c fs K J gd lv s σ H D G k ht hI hq => ?_⟩
  refine one_Yield G.split G.gd G.guard ?_ hco hi
  rw [G.over]
  refine wpAny_mono ((he s₀ (frzW n P0 Hg0 s₀.heap)).run _ s σ H _ hI hq) (fun v s1 hv => ?_) fun x s' hx => hx.elim
  obtain ⟨x, H1, I1, r1, it, r, rfl, hit, hnx⟩ := hv
  intro kk l p hk
  obtain ⟨oL, hL, hpv⟩ := priv_of G I1
  refine ⟨x, tupsOf H1, (X.env.locals, oL) :: ip, r1, hit, bnd_of ht.tup G.gcx.ex G.fsl I1 hpv, ?_⟩
  refine asleep_at G I1 hL fun s' P1 ht' I' => ?_
  rw [hk]
  exact k.ok r s' P1 (tupsOf H1) s' .next ht' ⟨σ, _, I', hnx _ fun b xs e => frzW_tup (tupsOf_at.mpr e)⟩
end
end Gp
end
section
set_option linter.all false
set_option maxRecDepth 100000
/-! G5: a generator's for loop. -/
namespace Gp
open PySem PySem.Spec PyProof.Rows L2 GenW

section
variable {M : Model} {A : Around} {fin : Result → Shared → Prop} {yl : Value → Shared → GenState → Prop} {c : Code} {fs : List Frame} {s : Shared} {α β : Type}
theorem onew_bind {m : Sem α} {f : α → Sem β} {K : β → Sem PySem.Fin} {J : Value → Sem PySem.Fin} {gd lv} (h : wpAny M (A.over c fs) m (fun a s' => One M A fin yl c ((f a).wrap K J gd lv) fs s') (fun x s' => One M A fin yl c (J x) fs s') s) :
    One M A fin yl c ((m >>= f).wrap K J gd lv) fs s := by
  rw [Sem.bind_eq_wrap', Sem.wrap_wrap]
  exact one_wrap h
def cameBack (env : Env) (x : Value) : Sem Unit := do
  if (← field x 1) == Value.none then unsupported "frame.own-activation:exception-without-traceback"
  setFlight x env.frame
theorem one_For {tg iter : Expr} {body : List Stmt} {pos : Pos} {env : Env} {K : Flow → Sem PySem.Fin} {J : Value → Sem PySem.Fin} {gd : Bool → Bool} {lv : List Value → List Value} (hs : ∀ x, foldedSetIterable iter env x = pure x)
    (h : wpAny M (A.over c fs) (eval iter env) (fun v s1 => wpAny M (A.over c fs) (pyIter v) (fun itv s2 => ∀ p, One M A fin yl (.forLoop tg itv body [] env) (M.den (.forLoop tg itv body [] env))
        (.ret (fun r => ((match r with | .ok f => (.pure f : Sem Flow) | .error e => .raise e).onRaise (cameBack env)).wrap K J gd lv) none (gd false) (lv []) c p [] :: fs) s2) (fun x s' => One M A fin yl c (J x) fs s') s1) (fun x s' => One M A fin yl c (J x) fs s') s) :
    One M A fin yl c ((exec (.For tg iter body [] pos) env).wrap K J gd lv) fs s := by
  rw [arm_exec_For]
  refine onew_bind (wpAny_standAt ?_)
  refine onew_bind (wpAny_mono h (fun v s1 h1 => ?_) fun _ _ q => q)
  rw [hs]
  refine onew_bind (wpAny_pure ?_)
  refine onew_bind (wpAny_standAt ?_)
  refine onew_bind (wpAny_holding (wpAny_mono h1 (fun itv s2 h2 => ?_) fun _ _ q => q))
  exact one_call h2
end

section
variable {prog : Program} {w : World} {A : Around} {fin : Result → Shared → Prop} {yl : Value → Shared → GenState → Prop} {fs : List Frame} {s : Shared} {env : Env}
theorem one_forLoop {tg : Expr} {itv : Value} {body : List Stmt}
    (h : wpAny (model prog w) (A.over (.forLoop tg itv body [] env) fs) (pyNext itv) (fun r s1 => match r with
      | none => One (model prog w) A fin yl (.block [] env) (.pure (.done .next)) fs s1
      | some v => wpAny (model prog w) (A.over (.forLoop tg itv body [] env) fs) (letOwnedTupleGo tg itv v) (fun _ s2 => wpAny (model prog w) (A.over (.forLoop tg itv body [] env) fs) (assign tg env v) (fun _ s3 =>
          One (model prog w) A fin yl (.forLoop tg itv body [] env) ((execs body env).wrap (fun f => match f with
            | .next | .cont => .pure (.again (.forLoop tg itv body [] env))
            | .brk => .pure (.done .next)
            | .ret v => .pure (.done (.ret v))) (fun e => (do noteFrame e env; theTreesLotGoes e : Sem Unit).wrap (fun _ => .raise e) .raise id id) id id) fs s3) (fun _ _ => False) s2) (fun _ _ => False) s1) (fun _ _ => False) s) :
    One (model prog w) A fin yl (.forLoop tg itv body [] env) ((model prog w).den (.forLoop tg itv body [] env)) fs s := by
  show One _ A fin yl _ ((forTurn tg itv body [] env).onRaise (fun x => do noteFrame x env; theTreesLotGoes x)) fs s
  unfold forTurn
  rw [Sem.onRaise_eq_wrap]
  refine onew_bind (wpAny_standAt ?_)
  refine onew_bind (wpAny_onRaise (wpAny_mono h (fun r s1 h1 => ?_) fun _ _ q => q.elim))
  cases r with
  | none => 
    refine one_again rfl ?_
    show One _ A fin yl _ (do return Fin.done (← (execs [] env).onRaise (fun x => do noteFrame x env; theTreesLotGoes x))) fs s1
    exact h1
  | some v =>
    refine onew_bind (wpAny_mono h1 (fun _ s2 h2 => ?_) fun _ _ q => q.elim)
    refine onew_bind (wpAny_mono h2 (fun _ s3 h3 => ?_) fun _ _ q => q.elim)
    rw [Sem.bind_eq_wrap', Sem.wrap_wrap]
    rw [Sem.wrap_congr (execs body env) _ _ (K' := fun f => match f with
            | .next | .cont => .pure (.again (.forLoop tg itv body [] env))
            | .brk => .pure (.done .next)
            | .ret v => .pure (.done (.ret v))) (H' := (fun e => (do noteFrame e env; theTreesLotGoes e : Sem Unit).wrap (fun _ => .raise e) .raise id id))
        (fun f => by cases f <;> rfl)
        (fun e => by first | exact Sem.bind_eq_wrap _ _ | (show (do noteFrame e env; theTreesLotGoes e : Sem Unit).bind (fun _ => .raise e) = _; rw [Sem.bind_eq_wrap]))]
    exact h3
end
end Gp
end
section
set_option linter.all false
set_option maxRecDepth 100000
/-! G6: for over any iterable in a generator's body. -/
namespace Gp
open PySem PySem.Spec PyProof.Rows L2 GenW

def yFor (wi : TI) (g : TG) (tb : TY) : TY := fun D its σ H => wi σ H fun J H1 => ∃ W : Nat → Nat → List Item → L2.St → Hp → Prop, (∃ m, W 0 m its σ H1) ∧ ∀ i m its σ H, W i m its σ H →
  (J.stop i H ∧ D.nx its σ H) ∨ (J.go i H ∧ ∃ N : List Item → L2.St → Hp → Prop, (∀ its' σ' H', N its' σ' H' → ∃ m', m' < m ∧ W (i + 1) m' its' σ' H') ∧ ∀ x H', J.yld i H x H' → g x σ H' fun σ2 H2 => tb { D with nx := N, ct := N, bk := D.nx } its σ2 H2)
section
variable {X : Cx} {n : Nat}
theorem gat_loop {ip : List (Addr × Obj)} {A : Around} {c c' : Code} {fs : List Frame} {gd : Bool → Bool} {k : Result → Sem PySem.Fin} {l kp : List Value} {p : Pos} (G : GAt X n ip A c fs gd) (hw : c'.weight = 0) (hu : c'.cUnits = 0) : GAt X n ip A c' (.ret k none (gd false) l c p kp :: fs) id where
  gcx := G.gcx
  base := G.base
  fsl := G.fsl
  ipn := G.ipn
  over := (over_loop hw hu).trans G.over
  split := by
    show (splitAtGen fs).map _ = none
    rw [G.split]; rfl
  guard := by
    show (gd false || fs.any Frame.guarded) = false
    rw [G.gd, G.guard]; rfl
  gd := rfl
theorem GAt.more {ip ip' : List (Addr × Obj)} {A : Around} {c : Code} {fs : List Frame} {gd : Bool → Bool} (G : GAt X n ip A c fs gd) (h : ∀ p ∈ ip', n ≤ p.1) : GAt X n ip' A c fs gd := ⟨G.gcx, G.base, G.fsl, h, G.over, G.split, G.guard, G.gd⟩
theorem ys_for {tg iter : Expr} {body : List Stmt} {pos : Pos} {wi : TI} {g : TG} {tb : TY} (hc : X.calm = true) (hi : ∀ s H, PI (at_ X n s H) tg iter wi) (hg : ∀ s H, PG (at_ X n s H) tg g) (hb : YSs X n body tb)
    (hs : ∀ x, foldedSetIterable iter X.env x = pure x := by intro _; rfl) : YS X n (.For tg iter body [] pos) (yFor wi g tb) := by
  refine ⟨fun A gn ip its s₀ P0 Hg0 c fs K J gd lv s σ H D G k sf hI hq => one_For hs ?_⟩
  rw [G.over]
  refine wpAny_mono ((hi s₀ (frzW n P0 Hg0 s₀.heap)).run ip s σ H _ hI hq) (fun v s1 h1 => wpAny_mono h1 (fun itv s2 h2 => ?_) fun _ _ q => q.elim) fun _ _ q => q.elim
  obtain ⟨it, fp, tn, J', H2, e, I2, T, st2, f2, W, ⟨m0, w0⟩, turn⟩ := h2
  subst e
  intro p
  have gl := fun (kk : Result → Sem PySem.Fin) => gat_loop (k := kk) (c' := .forLoop tg (.ref it) body [] X.env) (l := lv []) (kp := []) (p := p) G rfl rfl
  have nb : ∀ b ∈ fp, n ≤ b := fun b hb => by
    rcases (f2 b hb).2.2.2.1 with z | z
    · have z : b ∈ X.ex := z
      rw [G.gcx.ex] at z; cases z
    · have z : (trunc n s₀.heap).objs.size ≤ b := z
      rw [trunc_size_ge sf.sz] at z
      exact z
  have stat : ∀ {s' : Shared} {H' Hx : Hp}, (∀ b ∈ fp, H' b = none) → ∀ b ∈ fp, FpOk (at_ X n s' Hx) ip H' b := fun {s' H' Hx} hn b hb => by
    obtain ⟨_, q2, q3, _, q5, q6⟩ := f2 b hb
    exact ⟨hn b hb, q2, q3, .inr (Nat.le_trans trunc_size (nb b hb)), q5, q6⟩
  have loop : ∀ (m i : Nat) (its : List Item) (s₀ : Shared) (P0 : List Addr) (Hg0 : Hp) (s : Shared) (σ : L2.St) (H : Hp), SF n Hg0 s₀ → GI X n P0 Hg0 s₀ ip σ H s → tn i s.heap → (∀ b ∈ fp, H b = none) → W i m its σ H →
      GG X n A gn its s₀ P0 Hg0 (.forLoop tg (.ref it) body [] X.env) ((model X.prog X.w).den (.forLoop tg (.ref it) body [] X.env))
        (.ret (fun r => ((match r with | .ok f => (.pure f : Sem Flow) | .error e => .raise e).onRaise (cameBack X.env)).wrap K J gd lv) none (gd false) (lv []) c p [] :: fs) s := by
    intro m
    induction m using Nat.strongRecOn with
    | ind m ih =>
      intro i its s₀ P0 Hg0 s σ H sf hI st fr w
      refine one_forLoop ?_
      rw [(gl _).over]
      rcases turn i m its σ H w with ⟨stop, qn⟩ | ⟨go, N, hN, step⟩
      · refine wpAny_mono (T.done (at_ X n s₀ (frzW n P0 Hg0 s₀.heap)) rfl rfl rfl hc i ip s σ H (fun _ _ => False) hI (stat fr) st stop) (fun r s4 ⟨hr, I4⟩ => ?_) fun _ _ q => q
        subst hr
        exact one_leaf (.ok .next) (k.ok its s₀ P0 Hg0 s4 .next sf ⟨σ, H, I4, qn⟩)
      · refine wpAny_mono (T.item (at_ X n s₀ (frzW n P0 Hg0 s₀.heap)) rfl rfl rfl hc i ip s σ H (fun _ _ => False) hI (stat fr) st go) (fun r s4 ⟨u, hr, h4⟩ => ?_) fun _ _ q => q
        subst hr
        refine wpAny_mono h4 (fun _ s5 ⟨x, H5, I5, r5, y5, st5, fr5⟩ => ?_) fun _ _ q => q
        have I5' := I5.pinned (stat fr5) (T.obj _ _ st5)
        refine wpAny_mono ((hg s₀ (frzW n P0 Hg0 s₀.heap)).run _ s5 σ H5 x u _ I5' r5 (step x H5 y5)) (fun _ s6 ⟨σ6, H6, I6, q6⟩ => ?_) fun _ _ q => q.elim
        refine hb.run A gn (ip ++ pinsAt fp s5.heap) its s₀ P0 Hg0 _ _ _ _ id id s6 σ6 H6 { D with nx := N, ct := N, bk := D.nx } ((gl _).more fun q hq => ?_) ⟨fun its' s₀' P0' Hg0' s7 f sf' hs => ?_⟩ sf I6 q6
        · rcases List.mem_append.mp hq with z | z
          · exact G.ipn q z
          · exact nb q.1 (of_pinsAt z).1
        have again : ∀ {σ7 : L2.St} {H7 : Hp}, GI X n P0' Hg0' s₀' (ip ++ pinsAt fp s5.heap) σ7 H7 s7 → N its' σ7 H7 → GG X n A gn its' s₀' P0' Hg0' (.forLoop tg (.ref it) body [] X.env) (.pure (.again (.forLoop tg (.ref it) body [] X.env)))
            (.ret (fun r => ((match r with | .ok f => (.pure f : Sem Flow) | .error e => .raise e).onRaise (cameBack X.env)).wrap K J gd lv) none (gd false) (lv []) c p [] :: fs) s7 := fun {σ7 H7} I7 n7 => by
          obtain ⟨m', hm, w7⟩ := hN its' σ7 H7 n7
          refine one_again rfl (ih m' hm (i + 1) its' s₀' P0' Hg0' s7 σ7 H7 sf' I7.unpinned (T.keep _ _ _ st5 fun b hb o e => (I7.pin (b, o) (List.mem_append_right _ (List.mem_append_right _ (mem_pinsAt hb e)))).1) (fun b hb => ?_) w7)
          obtain ⟨o, e, d⟩ := T.obj _ _ st5 b hb
          exact (I7.pin (b, o) (List.mem_append_right _ (List.mem_append_right _ (mem_pinsAt hb e)))).2.1
        cases f with
        | next => obtain ⟨σ7, H7, I7, n7⟩ := hs; exact again I7 n7
        | cont => obtain ⟨σ7, H7, I7, n7⟩ := hs; exact again I7 n7
        | brk => obtain ⟨σ7, H7, I7, q7⟩ := hs; exact one_leaf (.ok .next) (k.ok its' s₀' P0' Hg0' s7 .next sf' ⟨σ7, H7, I7.unpinned, q7⟩)
        | ret v => obtain ⟨x7, σ7, H7, I7, r7, q7⟩ := hs; exact one_leaf (.ok (.ret v)) (k.ok its' s₀' P0' Hg0' s7 (.ret v) sf' ⟨x7, σ7, H7, I7.unpinned, r7, q7⟩)
  exact loop m0 0 its s₀ P0 Hg0 s2 σ H2 sf I2 st2 (fun b hb => (f2 b hb).1) w0
end
end Gp
end
section
set_option linter.all false
set_option maxRecDepth 100000
set_option maxHeartbeats 1000000
/-! G7: a generator def's promise by its body; it raises nothing. -/
namespace Gp
open PySem PySem.Spec PyProof.Rows L2 GenW

theorem one_func {prog : Program} {w : World} {A : Around} {fin : Result → Shared → Prop} {yl : Value → Shared → GenState → Prop} {fs : List Frame} {s : Shared} {env : Env} {body : List Stmt}
    (h : One (model prog w) A fin yl (.func body env) ((execs body env).wrap (fun f => .pure (.done (.ret (match f with | .ret v => v | _ => .none)))) (fun e => (leaving env e).wrap (fun _ => .raise e) .raise id id) id id) fs s) :
    One (model prog w) A fin yl (.func body env) ((model prog w).den (.func body env)) fs s := by
  show One _ A fin yl _ (.point [] fun _ => ((execs body env).onRaise (leaving env)) >>= _) fs s
  refine one_point ?_
  rw [Sem.onRaise_eq_wrap, Sem.bind_eq_wrap', Sem.wrap_wrap]
  rw [Sem.wrap_congr (execs body env) _ _ (K' := fun f => .pure (.done (.ret (match f with | .ret v => v | _ => .none))))
    (H' := fun e => (leaving env e).wrap (fun _ => .raise e) .raise id id) (fun f => by cases f <;> rfl)
    (fun e => by rw [Sem.bind_eq_wrap, Sem.wrap_wrap]; rfl)]
  exact h

/-- the context of a generator def's body -/
def ycx (P : Program) (w : World) (K : PySem.W.Frag) (mg : Str → Option Value) (base : Heap) (N : List Str) (qual : Str) (scope : Scope) (f : Addr) (cd : Value) (A : Around) (outer : List Env) (s : Shared) (H : Hp) : Cx :=
  { cxOf (CX P w) P w K mg base N qual scope f cd A outer s H (fun _ _ _ => False) with xe := fun _ _ => False }
/-- a generator's names: no cells -/
structure YScope (N P : List Str) (sc : Scope) : Prop where
  g : GScope N P sc
  nocell : ∀ y ∈ sc.names, y.2 ≠ .cell ∧ y.2 ≠ .free
  cells : ∀ m, cellsFrom m sc.names [] = []
/-- the arguments, the heap, what is handed out -/
abbrev YSp := List V → Hp → List Item → Prop
structure XOk (X : Cx) (P : Program) (w : World) (K : PySem.W.Frag) (mg : Str → Option Value) (base : Heap) (outer : List Env) : Prop where
  prog : X.prog = P
  w : X.w = w
  K : X.K = K
  mg : X.mg = mg
  base : X.base = base
  outer : X.outer = outer
/-- a generator that has not begun -/
def YMade (P : Program) (w : World) (K : PySem.W.Frag) (mg : Str → Option Value) (base : Heap) (k : Nat) (outer : List Env) (H : Hp) (s : Shared) (its : List Item) (u : Value) (s' : Shared) : Prop :=
  ∃ (a : Addr) (g : Nat) (c : Code) (go : Obj) (pv : List (Addr × Obj)), u = .ref a ∧ s.heap.objs.size ≤ a ∧ s'.heap.get? a = some go ∧ (∀ h : Heap, h.get? a = some go → h.IsGen a g) ∧ (∀ v, go.data ≠ .cell v) ∧ s'.gens[g]? = some (.fresh c) ∧ s'.gens.size = g + 1 ∧ g = s.gens.size ∧ Sleeps s.gens s'.gens ∧
    s'.os = s.os ∧ AllBare s'.gens ∧ (∀ b o, s.heap.get? b = some o → s'.heap.get? b = some o) ∧ (∀ p ∈ pv, s.heap.objs.size ≤ p.1 ∧ p.1 ≠ a ∧ s'.heap.get? p.1 = some p.2 ∧ ∀ v, p.2.data ≠ .cell v) ∧
    ∀ A, Room k A → A.frames = some outer → ∃ X, XOk X P w K mg base outer ∧ Asleep X s.heap.objs.size A g its (tupsOf H) pv s' (.fresh c)
structure YFn (P : Program) (w : World) (K : PySem.W.Frag) (mg : Str → Option Value) (base : Heap) (k : Nat) (f : Addr) (fd : FuncData) (ps : List Str) (sp : YSp) : Prop where
  len : ∀ vs H its, sp vs H its → vs.length = ps.length
  run : ∀ (A : Around) (outer : List Env) (s : Shared) (H : Hp) (args : Args) (us : List Value) (vs : List V) (its : List Item), Room k A → Env0 P w K mg base A outer s H → BindsTo s fd args (ps.zip us) → Vals vs us → sp vs H its →
    codeAny (model P w) A (.call (.ref f) args) (fun r s' => match r with | .ok (.ret u) => YMade P w K mg base k outer H s its u s' | _ => False) s

theorem frs_lt {h base : Heap} : ∀ {l : List Env}, h.FunFrames base l → ∀ b ∈ frs l, b < h.objs.size := by
  intro l hl b hb
  obtain ⟨_, o, ho, _⟩ := hl.mem hb
  exact Heap.lt_size ho
/-- THE RULE: a generator def, by its body -/
theorem yfn_of {P : Program} {w : World} {K : PySem.W.Frag} {mg : Str → Option Value} {base : Heap} {k : Nat} {f : Addr} {name qual : Str} {params : Arguments} {body : List Stmt} {scope : Scope} {dV kV doc pm cdv ct oc : Value} {an od : Option Addr}
    {osl : Array (Option Value)} {N ps : List Str} {sp : YSp} (lk : K.lookup f = some ⟨oc, od, .func (PySem.W.fnOf name qual params body scope dV kV doc pm an cdv ct), osl⟩) (hcd : PySem.W.codeIn K cdv qual = true) (Y : YScope N ps scope)
    (len : ∀ vs H its, sp vs H its → vs.length = ps.length)
    (hbody : ∀ (A : Around) (outer : List Env) (s : Shared) (H : Hp) (vs : List V) (its : List Item), Room k (A.deeper (envOfC qual scope s.heap.objs.size f cdv)) → sp vs H its →
      ∃ t, YSs (ycx P w K mg base N qual scope f cdv A outer s H) s.heap.objs.size body t ∧
        ∀ H', (∀ b xs, H b = some (.tup xs) → H' b = some (.tup xs)) → t { nx := fun r _ _ => r = [], rt := fun r v _ => r = [] ∧ v = .non } its (start N vs) H') :
    YFn P w K mg base (k + 1) f (PySem.W.fnOf name qual params body scope dV kV doc pm an cdv ct) ps sp := by
  refine ⟨len, fun A outer s H args us vs its hr e0 hb r hsp => ?_⟩
  have S := Y.g
  have hl := len _ _ _ hsp
  have KX : K.In s.heap := e0.mod.kin.keeps fun b o e => (e0.bs b o e).1
  have lim : s.heap.NoLimit := e0.mod.nolimit.keeps fun b o e => (e0.bs b o e).1
  have hkind : ∀ y ∈ ps.zip us, scope.names.lookup y.1 = some .local ∨ (scope.names.lookup y.1 = some .cell ∧ ((cellsFrom (s.heap.objs.size + 1) scope.names []).lookup y.1).isSome = true) := fun ⟨n, v⟩ hy => by
    rcases S.par n (List.of_mem_zip hy).1 with q | q
    · exact .inl q
    · exact .inr ⟨q, PySem.W.cellsFrom_some _ _ _ (.inl q)⟩
  refine codeAny_call_generator hr.depth (KX _ _ lk) rfl S.co S.gen rfl (PySem.W.codeRec_of KX hcd) (hb _ _ _ _ ?_)
  refine wpAny_newFunctionEnv_cells S.kind hkind fun env he s1 x => ?_
  subst he
  refine ⟨lim.keeps x.toInCall.keep, ?_⟩
  obtain ⟨h1, tk, es1, hk1⟩ := x.done
  have os1 : s1.os = s.os := by rw [es1]
  have gen1 : s1.gens = s.gens := by rw [es1]
  have lt1 : s.heap.objs.size < s1.heap.objs.size := x.toInCall.ns.lt
  have kp1 : ∀ b o, s.heap.get? b = some o → s1.heap.get? b = some o := x.toInCall.keep
  have main : ∀ (go : Obj) (nm qn : Value) (tk2 : Nat), go.cls = .type "generator" → go.data = .fields #[.int s1.gens.size 0, nm, qn] → go.slots = #[] → (∀ h : Heap, (h.push go).get? h.objs.size = some go) →
      YMade P w K mg base (k + 1) outer H s its (.ref s1.heap.objs.size) { s1 with gens := s1.gens.push (.fresh (.func body (envOfC qual scope s.heap.objs.size f cdv))), toks := tk2, heap := s1.heap.push go } := by
    intro go nm qn tk2 hgc hgd0 hgs hgp
    obtain ⟨mL, ⟨oL, es, ep, hoL, hdL, rL⟩, locL⟩ : ∃ m, s1.heap.Ns s.heap.objs.size m ∧ ∀ (i : Nat) (y : Str) (v : V), N[i]? = some y → (start N vs)[i]? = some (some v) → Vis scope y → ∃ u, RelV v u ∧ Look (envOfC qual scope s.heap.objs.size f cdv) s1.heap m y u :=
      (inv_startG (E := fun _ _ _ => False) S hr.hd e0 hl r x).loc
    have I1 := inv_startG (E := fun _ _ _ => False) S hr.hd e0 hl r x
    refine ⟨s1.heap.objs.size, s1.gens.size, _, go, [(s.heap.objs.size, oL)], rfl, Nat.le_of_lt lt1, hgp _, fun h e => ⟨go, nm, qn, e, hgc, hgd0, hgs⟩, (fun v q => by rw [hgd0] at q; cases q), Array.getElem?_push_size .., Array.size_push _, by rw [gen1], ?_, os1, ?_, fun b o e => Heap.get?_push_of_some _ (kp1 b o e), fun p hp => ?_, ?_⟩
    · intro i k' l c p fs cl h
      show (s1.gens.push _)[i]? = _
      rw [gen1, Array.getElem?_push, if_neg fun z => by rw [z, Array.getElem?_eq_none (Nat.le_refl _)] at h; cases h]
      exact h
    · exact AllBare.push (by rw [gen1]; exact e0.bare) rfl
    · rw [List.mem_singleton.mp hp]
      exact ⟨Nat.le_refl _, Nat.ne_of_lt lt1, Heap.get?_push_of_some _ hoL, fun v q => by rw [hdL] at q; cases q⟩
    intro Aw hrw hfr
    refine ⟨ycx P w K mg base N qual scope f cdv Aw outer s H, ⟨rfl, rfl, rfl, rfl, rfl, rfl⟩, ?_⟩
    obtain ⟨t, ht, hq⟩ := hbody Aw outer s H vs its (hrw.deeper _) hsp
    have gcx : GCx (ycx P w K mg base N qual scope f cdv Aw outer s H) s.heap.objs.size :=
      ⟨e0.mod, S.kind, rfl, rfl, rfl, Y.cells _, fun y => ⟨fun z => ((Y.nocell _ (PySem.mem_of_lookup z)).1 rfl).elim, fun z => ((Y.nocell _ (PySem.mem_of_lookup z)).2 rfl).elim⟩, hrw.hd, Around.frames_deeper hfr, rfl, rfl, rfl, rfl⟩
    refine asleep_iff.mpr fun s2 W => ?_
    refine one_func ?_
    have hI : GI (ycx P w K mg base N qual scope f cdv Aw outer s H) s.heap.objs.size (addrs [(s.heap.objs.size, oL)]) (tupsOf H) s2 [] (start N vs) (frzW s.heap.objs.size (addrs [(s.heap.objs.size, oL)]) (tupsOf H) s2.heap) s2 :=
      woke0 (X := ycx P w K mg base N qual scope f cdv Aw outer s H) (n := s.heap.objs.size) (s := s1) (H := H) (ip := []) (σ := start N vs) (A := Aw) (oL := oL) gcx ⟨mL, ⟨oL, es, ep, hoL, hdL, rL⟩, locL⟩ I1.free (fun p hp => by cases hp) I1.len W.e0 W.sz e0.bsz (frs_lt e0.funs) hoL (W.pv _ (List.mem_singleton.mpr rfl)) (fun p hp => by cases hp) (List.mem_singleton.mpr rfl) fun p hp => by cases hp
    refine ht.run Aw s1.gens.size [] its s2 _ (tupsOf H) _ [] _ _ id id s2 (start N vs) _ _ ⟨gcx, e0.bsz, frs_lt e0.funs, fun p hp => (by cases hp), over_func, rfl, rfl, rfl⟩ ⟨fun its' s₀' P0' Hg0' s' fl sf hs => ?_⟩ ⟨tupsOf_tups, W.sz⟩ hI (hq _ fun b xs e => frzW_tup (tupsOf_at.mpr e))
    cases fl with
    | next =>
      obtain ⟨σ', H', hI', hn⟩ := hs
      have hn : its' = [] := hn
      subst hn
      exact one_end (.ok (.ret .none)) ⟨.inl rfl, _, bnd_of sf.tup rfl (frs_lt e0.funs) hI' fun p hp => by cases hp⟩
    | brk => obtain ⟨_, _, _, q⟩ := hs; exact False.elim q
    | cont => obtain ⟨_, _, _, q⟩ := hs; exact False.elim q
    | ret u =>
      obtain ⟨v, σ', H', hI', rv, hn, ev⟩ := hs
      subst ev
      have eu : u = Value.none := rv
      have hn : its' = [] := hn
      subst eu hn
      exact one_end (.ok (.ret .none)) ⟨.inl rfl, _, bnd_of sf.tup rfl (frs_lt e0.funs) hI' fun p hp => by cases hp⟩
  exact main _ _ _ _ rfl rfl rfl fun h => Heap.get?_push_size _ rfl
end Gp
end
section
set_option linter.all false
set_option maxRecDepth 100000
set_option maxHeartbeats 1000000
/-! G8: a generator's consumer: its state behind a waking; the call of a generator def. -/
namespace Gp
open PySem PySem.Spec PyProof.Rows L2 GenW

theorem hok_get {P : Program} {w : World} {H : Hp} {h : Heap} {a : Addr} {o : HO} (x : ObjOk P w H h a o) : ∃ ob, h.get? a = some ob := by
  cases o with
  | lst xs => obtain ⟨_, _, _, _, e⟩ := x; exact ⟨_, e⟩
  | tup xs => obtain ⟨_, _, _, ob, e, _⟩ := x; exact ⟨_, e⟩
  | dK kvs => obtain ⟨_, _, _, _, o, _, _, e, _⟩ := x; exact ⟨_, e⟩
  | dT kvs => obtain ⟨_, _, _, _, o, _, _, e, _⟩ := x; exact ⟨_, e⟩
  | set S n => obtain ⟨o, _, _, _, e, _⟩ := x; exact ⟨_, e⟩
  | ins C dx fs => obtain ⟨_, _, _, e, _⟩ := x; exact ⟨_, e⟩
  | own y => exact x
  | xd fs => obtain ⟨_, ⟨_, _, _, e, _⟩, _⟩ := x; exact ⟨_, e⟩
  | rng lo hi => obtain ⟨_, _, _, e⟩ := x; exact ⟨_, e⟩
  | frz ob u => obtain ⟨e, _⟩ := x; exact ⟨_, e⟩
  | tbl ps => exact ⟨_, show h.get? a = some _ from x⟩
  | met f y => exact ⟨_, show h.get? a = some _ from x⟩
  | ext φ => obtain ⟨_, e, _⟩ := x; exact e
section
variable {X : Cx} {pins : List (Addr × Obj)} {σ : L2.St} {H : Hp} {s : Shared}
/-- nothing but the table of generators has changed -/
theorem Inv.gens (I : L2.Inv X pins σ H s) {G : Array GenState} (h : AllBare G) : L2.Inv X pins σ H { s with gens := G } := ⟨I.ok, I.os, h, I.base, I.loc, I.cell, I.free, I.freeC, I.pin, I.hok, I.len⟩
theorem Inv.alike (I : L2.Inv X pins σ H s) {s' : Shared} (h1 : s'.heap = s.heap) (h2 : s'.os = s.os) (h : AllBare s'.gens) : L2.Inv X pins σ H s' := by
  obtain ⟨h', g', d', t', o'⟩ := s'
  obtain rfl : h' = s.heap := h1
  obtain rfl : o' = s.os := h2
  exact ⟨I.ok, I.os, h, I.base, I.loc, I.cell, I.free, I.freeC, I.pin, I.hok, I.len⟩

/-- what the consumer knows, then what the generator told of -/
def mrg (H Hg : Hp) : Hp := fun b => match H b with
  | some o => some o
  | none => Hg b
theorem mrg_l {H Hg : Hp} {b : Addr} {o : HO} (h : H b = some o) : mrg H Hg b = some o := by unfold mrg; rw [h]
theorem mrg_r {H Hg : Hp} {b : Addr} (h : H b = none) : mrg H Hg b = Hg b := by unfold mrg; rw [h]
def TSub (Hg H : Hp) : Prop := ∀ b xs, Hg b = some (.tup xs) → H b = some (.tup xs)
theorem hok_sub {P : Program} {w : World} {Hg : Hp} {h : Heap} (k : HOk P w H h) (ht : Tups Hg) (hs : TSub Hg H) : HOk P w Hg h := fun b o e => by
  obtain ⟨xs, rfl⟩ := ht b o e
  exact k b _ (hs b xs e)
theorem none_sub {Hg : Hp} (ht : Tups Hg) (hs : TSub Hg H) {b : Addr} (h : H b = none) : Hg b = none := by
  cases e : Hg b with
  | none => rfl
  | some o =>
    obtain ⟨xs, rfl⟩ := ht b o e
    rw [hs b xs e] at h; cases h

/-- a generator in hand -/
structure Hand (X : Cx) (pins : List (Addr × Obj)) (n a g : Nat) (go : Obj) (Hg : Hp) (pv : List (Addr × Obj)) (σ : L2.St) (H : Hp) (s : Shared) : Prop where
  inv : L2.Inv X (pins ++ (a, go) :: pv) σ H s
  low : ∀ p ∈ X.pn ++ pins, p.1 < n
  loc : X.env.locals < n
  cel : ∀ x c, X.env.cells.lookup x = some c → c < n
  na : n ≤ a
  npv : ∀ p ∈ pv, n ≤ p.1 ∧ p.1 ≠ a
  sz : n ≤ s.heap.objs.size
  tup : Tups Hg
  sub : TSub Hg H

theorem Hand.pins0 {n a g : Nat} {go : Obj} {Hg : Hp} {pv : List (Addr × Obj)} (h : Hand X pins n a g go Hg pv σ H s) : L2.Inv X pins σ H s := h.inv.unpinned
/-- behind a waking: what the consumer knows -/
theorem Hand.after {Xg : Cx} {n a g : Nat} {go : Obj} {Hg Hg' : Hp} {pv pv' : List (Addr × Obj)} {s0 s1 s2 : Shared} (h : Hand X pins n a g go Hg pv σ H s) (hp : Xg.prog = X.prog) (hw : Xg.w = X.w) (ho : Xg.outer = X.stack) (hn : X.s_0.heap.objs.size ≤ n)
    (hs0 : s0.heap = s.heap) (hso : s0.os = s.os) (B : Bnd Xg n (addrs pv) Hg Hg' pv' s0 s1) (h2 : ∀ b o, s1.heap.get? b = some o → s2.heap.get? b = some o) (h2o : s2.os = s1.os) (h2b : AllBare s2.gens) :
    Hand X pins n a g go Hg' pv' σ (mrg H Hg') s2 := by
  have I := h.inv
  have hpn : ∀ p ∈ pv, s.heap.get? p.1 = some p.2 ∧ H p.1 = none := fun p hp => by
    obtain ⟨q1, q2, _⟩ := I.pin p (List.mem_append_right _ (List.mem_append_right _ (List.mem_cons_of_mem _ hp)))
    exact ⟨q1, q2⟩
  have hPn : ∀ b ∈ addrs pv, H b = none ∧ n ≤ b ∧ b ≠ a := fun b hb => by
    obtain ⟨p, hp, e⟩ := List.mem_map.mp hb
    rw [← e]
    exact ⟨(hpn p hp).2, h.npv p hp⟩
  obtain ⟨ga, gn, _, _, gc⟩ := I.pin (a, go) (List.mem_append_right _ (List.mem_append_right _ List.mem_cons_self))
  have keep0 : ∀ b o, s.heap.get? b = some o → Hg b = none → b ∉ addrs pv → b ∉ frs X.stack → s1.heap.get? b = some o := fun b o e e1 e2 e3 => B.keep b o (by rw [hs0]; exact e) e1 e2 (by rw [ho]; exact e3)
  have aP : a ∉ addrs pv := fun z => (hPn a z).2.2 rfl
  have slot0 : ∀ b o, s.heap.get? b = some o → b ∈ frs X.stack → ∃ sl, s1.heap.get? b = some { o with slots := sl } := fun b o e e1 => B.slot b o (by rw [hs0]; exact e) (by rw [ho]; exact e1)
  have trk : ∀ c u, H c = some u → Hg c = none → ∀ v, s.heap.get? c = some v → s1.heap.get? c = some v := fun c u e e1 v ev => by
    refine keep0 c v ev e1 (fun z => ?_) fun z => ?_
    · rw [(hPn c z).1] at e; cases e
    · rw [I.stkFree c z] at e; cases e
  have hok1 : HOk X.prog X.w (mrg H Hg') s1.heap := fun b o e => by
    have hokg : HOk X.prog X.w Hg' s1.heap := by have := B.hok; rw [hp, hw] at this; exact this
    cases q : H b with
    | none =>
      rw [mrg_r q] at e
      obtain ⟨xs, rfl⟩ := B.tup b o e
      exact hokg b _ e
    | some u =>
      rw [mrg_l q] at e
      cases e
      cases q1 : Hg b with
      | some u' =>
        obtain ⟨xs, rfl⟩ := h.tup b u' q1
        have e2 := h.sub b xs q1
        rw [q] at e2
        cases e2
        exact hokg b _ (B.more b xs q1)
      | none =>
        refine (I.hok b _ q).stay (fun c v hc ev => ?_) (fun c z => mrg_l z) fun c xs z => mrg_l z
        rcases hc with z | z
        · rw [z] at ev ⊢
          exact trk b _ q q1 v ev
        · refine trk c _ z ?_ v ev
          cases q2 : Hg c with
          | none => rfl
          | some u' =>
            obtain ⟨xs, rfl⟩ := h.tup c u' q2
            rw [h.sub c xs q2] at z; cases z
  have hok2 : HOk X.prog X.w (mrg H Hg') s2.heap := hok1.kept h2
  have J : L2.Inv X (pins ++ [(a, go)]) σ (mrg H Hg') s2 := by
    have I0 : L2.Inv X (pins ++ [(a, go)]) σ H s := I.pins_of fun p hp => I.pin p (List.mem_append_right _ (by
      rcases List.mem_append.mp hp with z | z
      · exact List.mem_append_left _ z
      · rw [List.mem_singleton.mp z]
        exact List.mem_append_right _ List.mem_cons_self))
    refine I0.call' (ch := addrs pv) (h2o.trans (B.os.trans hso)) ⟨fun b o e e1 e2 e3 => ?_, fun b o e e1 e2 e3 => ?_, fun b o e e1 e2 => ?_, fun b o e e1 => ?_, fun b xs e => mrg_l e, fun b o u e => mrg_l e, fun b ps e => ⟨#[], by rw [mrg_l e]; simp⟩⟩ hok2 h2b fun b hb => ?_
    · exact h2 b o (keep0 b o e (none_sub h.tup h.sub e1) e3 e2)
    · obtain ⟨sl, q⟩ := slot0 b o e e2
      exact ⟨sl, h2 b _ q⟩
    · rw [mrg_r e1]
      exact B.free b o (by rw [hs0]; exact e) (none_sub h.tup h.sub e1) e2
    · cases q : Hg b with
      | some u =>
        obtain ⟨xs, rfl⟩ := h.tup b u q
        obtain ⟨_, its, _, ob, e2, _⟩ := hok2 b _ (mrg_l (h.sub b xs q))
        exact ⟨ob, e2⟩
      | none =>
        by_cases hf : b ∈ frs X.stack
        · obtain ⟨sl, q⟩ := slot0 b o e hf
          exact ⟨_, h2 b _ q⟩
        · exact ⟨o, h2 b o (keep0 b o e q e1 hf)⟩
    · obtain ⟨_, q2, q3⟩ := hPn b hb
      refine ⟨.inr (Nat.le_trans hn q2), Nat.ne_of_gt (Nat.lt_of_lt_of_le h.loc q2), fun x c e => Nat.ne_of_lt (Nat.lt_of_lt_of_le (h.cel x c e) q2), fun p hp => ?_⟩
      rw [← List.append_assoc] at hp
      rcases List.mem_append.mp hp with z | z
      · exact Nat.ne_of_lt (Nat.lt_of_lt_of_le (h.low p z) q2)
      · rw [List.mem_singleton.mp z]
        exact fun y => q3 y.symm
  have szJ : n ≤ s2.heap.objs.size := by
    have := Heap.lt_size (J.pin (a, go) (List.mem_append_right _ (List.mem_append_right _ (List.mem_singleton.mpr rfl)))).1
    exact Nat.le_trans h.na (Nat.le_of_lt this)
  have frsn : ∀ b ∈ X.fs, b < n := fun b hb => by
    obtain ⟨_, o, ho, _⟩ := I.ok.funs.mem hb
    exact Nat.lt_of_lt_of_le (Heap.lt_size ho) hn
  refine ⟨J.pins_of fun p hp => ?_, h.low, h.loc, h.cel, h.na, fun p hp => ?_, szJ, B.tup, fun b xs e => ?_⟩
  · rcases List.mem_append.mp hp with z | z
    · exact J.pin p (List.mem_append_right _ (List.mem_append_left _ z))
    · rcases List.mem_cons.mp z with z | z
      · rw [z]
        exact J.pin (a, go) (List.mem_append_right _ (List.mem_append_right _ (List.mem_singleton.mpr rfl)))
      · obtain ⟨q1, q2, q3, q4, q5⟩ := B.pv p z
        have hH : H p.1 = none := by
          rcases q4 with y | y
          · exact (hPn p.1 y).1
          · rw [hs0] at y
            cases e : H p.1 with
            | none => rfl
            | some u => 
              have := (I.hok p.1 u e).lt
              obtain ⟨o', e'⟩ : ∃ o', s.heap.get? p.1 = some o' := by
                exact hok_get (I.hok p.1 u e)
              rw [y] at e'; cases e'
        exact ⟨h2 _ _ q1, by rw [mrg_r hH]; exact q2, Nat.ne_of_gt (Nat.lt_of_lt_of_le h.loc q3), fun y => absurd (Nat.lt_of_lt_of_le (frsn _ y) q3) (Nat.lt_irrefl _), q5⟩
  · obtain ⟨q1, q2, q3, q4, q5⟩ := B.pv p hp
    refine ⟨q3, fun y => ?_⟩
    rcases q4 with z | z
    · exact (hPn p.1 z).2.2 y
    · rw [hs0, y, ga] at z; cases z
  · cases q : H b with
    | none => rw [mrg_r q]; exact e
    | some u =>
      rw [mrg_l q]
      cases q1 : Hg b with
      | some u' =>
        obtain ⟨ys, rfl⟩ := h.tup b u' q1
        have e2 := h.sub b ys q1
        rw [q] at e2; cases e2
        have e3 := B.more b ys q1
        rw [e] at e3
        exact e3.symm
      | none =>
        obtain ⟨o', e'⟩ := hok_get (I.hok b u q)
        have e3 := B.free b o' (by rw [hs0]; exact e') q1 fun z => by rw [(hPn b z).1] at q; cases q
        rw [e3] at e; cases e
end
end Gp
end
section
set_option linter.all false
set_option maxRecDepth 100000
/-! F0: erased trees: bind, wrap; promises at the erased model. -/
namespace Er
open PySem PySem.Spec PyProof.Rows L2
open Sem (wp)

theorem er_chk {α : Type} (v : Value) (l : List Value) (k : Resume → Sem α) : er (Sem.yield v true l k) = chk v mkd fun x => er (k x) := by
  show (if true = true then _ else _) = _
  rw [if_pos rfl]
theorem er_yield {α : Type} (v : Value) (l : List Value) (k : Resume → Sem α) : er (Sem.yield v false l k) = Sem.yield v false [] fun x => er (k x) := by
  show (if false = true then _ else _) = _
  rw [if_neg Bool.false_ne_true]
theorem chk_wrap {α β : Type} (v : Value) (l : List Value) (k : Resume → Sem α) (K : α → Sem β) (H : Value → Sem β) : (chk v l k).wrap K H id id = chk v l fun r => (k r).wrap K H id id := by
  have h1 : ∀ b : Bool, (chkO v l k b).wrap K H id id = chkO v l (fun r => (k r).wrap K H id id) b := fun b => by cases b <;> rfl
  have h2 : ∀ d : Option Addr, (chkD v l k d).wrap K H id id = chkD v l (fun r => (k r).wrap K H id id) d := fun d => by
    cases d with
    | none => rfl
    | some it => exact congrArg (Sem.load it none) (funext fun o => h1 (isG o))
  exact congrArg Sem.stack (funext fun st => h2 (deleg st))
theorem er_wrap {α β : Type} (m : Sem α) (K : α → Sem β) (H : Value → Sem β) : er (m.wrap K H id id) = (er m).wrap (fun a => er (K a)) (fun e => er (H e)) id id := by
  induction m with
  | pure a => rfl
  | raise e => rfl
  | unsupported w => rfl
  | finish e => rfl
  | «yield» v g l k ih =>
    cases g with
    | true =>
      show er (Sem.yield v true l fun x => (k x).wrap K H id id) = _
      rw [er_chk, er_chk, chk_wrap]
      congr 1
      funext r
      exact ih r
    | false =>
      show er (Sem.yield v false l fun x => (k x).wrap K H id id) = _
      rw [er_yield, er_yield]
      show Sem.yield _ _ _ _ = Sem.yield _ _ _ _
      congr 1
      funext r
      exact ih r
  | rule t k ih => exact congrArg _ (funext fun x => ih x)
  | «at» p k ih => exact congrArg _ (funext fun x => ih x)
  | load a p k ih => exact congrArg _ (funext fun x => ih x)
  | update a p f k ih => exact congrArg _ (funext fun x => ih x)
  | alloc o k ih => exact congrArg _ (funext fun x => ih x)
  | register a k ih => exact congrArg _ (funext fun x => ih x)
  | loadIfAlive a k ih => exact congrArg _ (funext fun x => ih x)
  | point l k ih => exact congrArg _ (funext fun x => ih x)
  | fresh k ih => exact congrArg _ (funext fun x => ih x)
  | ask k ih => exact congrArg _ (funext fun x => ih x)
  | choose s n k ih => exact congrArg _ (funext fun x => ih x)
  | os q l k ih => exact congrArg _ (funext fun x => ih x)
  | call c h g l k ih => exact congrArg _ (funext fun x => ih x)
  | handled o k ih => exact congrArg _ (funext fun x => ih x)
  | genState g k ih => exact congrArg _ (funext fun x => ih x)
  | newGen c k ih => exact congrArg _ (funext fun x => ih x)
  | resume g r l k ih => exact congrArg _ (funext fun x => ih x)
  | stack k ih => exact congrArg _ (funext fun x => ih x)
  | fork c k ih => exact congrArg _ (funext fun x => ih x)
  | thread k ih => exact congrArg _ (funext fun x => ih x)
  | await a t d l k ih => exact congrArg _ (funext fun x => ih x)
theorem er_bind {α β : Type} (m : Sem α) (f : α → Sem β) : er (m >>= f) = er m >>= fun a => er (f a) := by
  rw [Sem.bind_eq_wrap', er_wrap, Sem.bind_eq_wrap']
  rfl
theorem er_onRaise {α : Type} (m : Sem α) (h : Value → Sem Unit) : er (m.onRaise h) = (er m).onRaise fun e => er (h e) := by
  rw [Sem.onRaise_eq_wrap, er_wrap, Sem.onRaise_eq_wrap]
  refine Sem.wrap_congr _ _ _ (fun a => rfl) fun e => ?_
  exact er_bind (h e) fun _ => Sem.raise e

/-- a promise does not see the erasure of the tree itself: behind it there are no yields -/
theorem wp_er_iff {α : Type} (M : Model) (Γ : PySem.Ctx) (t : Sem α) : ∀ (Q : α → Pos → Shared → Prop) (E : Value → Pos → Shared → Prop) (p : Pos) (s : Shared), wp M Γ (er t) Q E p s ↔ wp M Γ t Q E p s := by
  induction t with
  | pure a => exact fun Q E p s => Iff.rfl
  | raise e => exact fun Q E p s => Iff.rfl
  | unsupported _ => exact fun Q E p s => Iff.rfl
  | finish _ => exact fun Q E p s => Iff.rfl
  | rule _ k ih => exact fun Q E p s => ih () Q E p s
  | «at» p' k ih => exact fun Q E p s => ih () Q E p' s
  | load a _ k ih => exact fun Q E p s => exists_congr fun o => and_congr_right fun _ => ih o Q E p s
  | update a _ f k ih => exact fun Q E p s => and_congr_right fun _ => ih () Q E p _
  | loadIfAlive a k ih => exact fun Q E p s => ih _ Q E p s
  | point _ k ih => exact fun Q E p s => ih () Q E p s
  | register _ _ => exact fun Q E p s => Iff.rfl
  | alloc ob k ih => exact fun Q E p s => ih _ Q E p _
  | fresh k ih => exact fun Q E p s => ih _ Q E p _
  | ask k ih => exact fun Q E p s => ih _ Q E p s
  | choose src m k ih => exact fun Q E p s => and_congr_right fun _ => ih _ Q E p _
  | os q _ k ih => exact fun Q E p s => ih _ Q E p _
  | call c hd _ _ k ih => exact fun Q E p s => exists_congr fun r => exists_congr fun s' => and_congr_right fun _ => ih r Q E p s'
  | handled own k ih => exact fun Q E p s => ih _ Q E p s
  | genState g k ih => exact fun Q E p s => exists_congr fun st => and_congr_right fun _ => ih _ Q E p s
  | newGen c k ih => exact fun Q E p s => ih _ Q E p _
  | resume g r _ k ih => exact fun Q E p s => exists_congr fun res => exists_congr fun s' => and_congr_right fun _ => ih res Q E p s'
  | «yield» v g l k ih =>
    intro Q E p s
    cases g with
    | false => exact Iff.rfl
    | true =>
      refine ⟨fun h => ?_, fun h => h.elim⟩
      exfalso
      have h' : wp M Γ (chkD v mkd (fun x => er (k x)) (deleg ((Γ.code, p) :: Γ.below))) Q E p s := h
      cases q : deleg ((Γ.code, p) :: Γ.below) with
      | none => rw [q] at h'; exact h'
      | some it =>
        rw [q] at h'
        obtain ⟨o, _, h2⟩ := h'
        replace h2 : wp M Γ (chkO v mkd (fun x => er (k x)) (isG o)) Q E p s := h2
        cases q2 : isG o with
        | true => rw [q2] at h2; exact h2
        | false => rw [q2] at h2; exact h2
  | stack k ih => exact fun Q E p s => ih _ Q E p s
  | fork _ _ => exact fun Q E p s => Iff.rfl
  | thread k ih => exact fun Q E p s => ih _ Q E p s
  | await _ _ _ _ _ => exact fun Q E p s => Iff.rfl
/-- into an erased tree -/
theorem ere {α : Type} {M : Model} {A : Around} {t : Sem α} {Q : α → Shared → Prop} {E : Value → Shared → Prop} {s : Shared} (h : wpAny M A t Q E s) : wpAny M A (er t) Q E s := fun Γ p hΓ => (wp_er_iff M Γ t _ _ p s).mpr (h Γ p hΓ)
/-- out of an erased tree -/
theorem unere {α : Type} {M : Model} {A : Around} {t : Sem α} {Q : α → Shared → Prop} {E : Value → Shared → Prop} {s : Shared} (h : wpAny M A (er t) Q E s) : wpAny M A t Q E s := fun Γ p hΓ => (wp_er_iff M Γ t _ _ p s).mp (h Γ p hΓ)
theorem ere_holding {α : Type} {M : Model} {A : Around} {vs : List Value} {m : Sem α} {Q : α → Shared → Prop} {E : Value → Shared → Prop} {s : Shared} (h : wpAny M A (er m) Q E s) : wpAny M A (er (holding vs m)) Q E s := ere (wpAny_holding (unere h))
/-- the erased model of a program -/
abbrev mm (P : Program) (w : World) : Model := M2 (model P w)
section
variable {X : Cx} {pins : List (Addr × Obj)} {σ : L2.St} {H : Hp} {s : Shared}
theorem Like.inv {u s' : Shared} {G : Array GenState} {σ' : L2.St} {H' : Hp} {pins' : List (Addr × Obj)} (l : Like G u s') (hb : AllBare G) (I : L2.Inv X pins' σ' H' u) : L2.Inv X pins' σ' H' s' := Gp.Inv.alike I l.heap l.os (l.bare hb I.bare)
theorem lift_inv {α : Type} {A : Around} {t : Sem α} {Q : α → Shared → Prop} {E : Value → Shared → Prop} (I : L2.Inv X pins σ H s) (h : ∀ s, L2.Inv X pins σ H s → wpAny (model X.prog X.w) A t Q E s) :
    wpAny (mm X.prog X.w) A (er t) (fun a s' => ∃ u, Like s.gens u s' ∧ Q a u) (fun e s' => ∃ u, Like s.gens u s' ∧ E e u) s := lift (h _ (Gp.Inv.gens I (blankA_bare _)))
end
end Er
end
section
set_option linter.all false
set_option maxRecDepth 100000
/-! F4: as G4, at the erased model: the protocol of a generator that raises nothing, its statements. -/
namespace Gm
open PySem PySem.Spec PyProof.Rows L2 Gp Er

/-- asleep at a yield with cleanup, over the generator at it -/
def Mrk (x : GenState) (it : Addr) : Prop := ∃ k rest kw p fs cl, x = GenState.suspended k mkd (.builtin "proto.yield_from" ⟨.ref it :: rest, kw⟩) p fs cl
/-- who sleeps so is one of gl, or does it over what Po has -/
def Td (Po : Addr → Prop) (gl : List Nat) (s : Shared) : Prop := ∀ (i : Nat) (x : GenState) (it : Addr), s.gens[i]? = some x → Mrk x it → i ∈ gl ∨ Po it
/-- those of gl do it over private generators -/
def Cov (gl : List Nat) (pv : List (Addr × Obj)) (s : Shared) : Prop := ∀ i ∈ gl, ∀ (x : GenState) (it : Addr), s.gens[i]? = some x → Mrk x it → ∃ o, (it, o) ∈ pv ∧ isG o = true
theorem cov_nil {pv : List (Addr × Obj)} {s : Shared} : Cov [] pv s := fun _ h => by cases h
theorem mrk_erG {y : GenState} {it : Addr} : ¬ Mrk (erG y) it := by
  rintro ⟨k, rest, kw, p, fs, cl, e⟩
  cases y with
  | suspended k' l c p' fs' cl' =>
    injection e with _ el _ _ _ _
    exact absurd el (by unfold mkd; nofun)
  | fresh c => cases e
  | running => cases e
  | finished => cases e
theorem like_mrk {G : Array GenState} {u s' : Shared} (l : Like G u s') {i : Nat} {x : GenState} {it : Addr} (h : s'.gens[i]? = some x) (m : Mrk x it) : G[i]? = some x := by
  rw [l.eq] at h
  have h : (Gp.restA (Gp.asleep G) (u.gens.map erG))[i]? = some x := h
  rw [Gp.restA_get] at h
  cases q : (u.gens.map erG)[i]? with
  | none => rw [q] at h; cases h
  | some y =>
    rw [q] at h
    have h := Option.some.inj h
    cases q2 : Gp.asleep G i with
    | none =>
      rw [q2] at h
      have h : y = x := h
      subst h
      rw [Array.getElem?_map] at q
      cases q3 : u.gens[i]? with
      | none => rw [q3] at q; cases q
      | some z =>
        rw [q3] at q
        have q := Option.some.inj q
        exact absurd (q ▸ m) mrk_erG
    | some st =>
      rw [q2] at h
      have h : st = x := h
      subst h
      unfold Gp.asleep at q2
      split at q2
      · rename_i e
        cases q2
        exact e
      · cases q2
theorem Td.like {Po : Addr → Prop} {gl : List Nat} {s u s' : Shared} (t : Td Po gl s) (l : Like s.gens u s') : Td Po gl s' := fun i x it h m => t i x it (like_mrk l h m) m
theorem Td.mono {Po : Addr → Prop} {gl gl' : List Nat} {s : Shared} (t : Td Po gl s) (h : ∀ b ∈ gl, b ∈ gl') : Td Po gl' s := fun i x it e m => (t i x it e m).imp (h _) id
theorem Td.gens {Po : Addr → Prop} {gl : List Nat} {s s' : Shared} (t : Td Po gl s) (h : s'.gens = s.gens) : Td Po gl s' := fun i x it e m => t i x it (by rw [← h]; exact e) m
theorem Td.set {Po : Addr → Prop} {gl gl' : List Nat} {s : Shared} {g : Nat} {x : GenState} (t : Td Po gl s) (hs : ∀ i ∈ gl, i ≠ g → i ∈ gl') (h : ∀ it, Mrk x it → g ∈ gl' ∨ Po it) : Td Po gl' (s.setGen g x) := by
  intro i y it e m
  have e : (s.gens.setIfInBounds g x)[i]? = some y := e
  rw [Array.getElem?_setIfInBounds] at e
  by_cases q : g = i
  · subst q
    rw [if_pos rfl] at e
    split at e
    · cases e; exact h it m
    · cases e
  · rw [if_neg q] at e
    exact (t i y it e m).imp (fun z => hs i z (Ne.symm q)) id
theorem no_mrk_run {it : Addr} : ¬ Mrk .running it := fun ⟨_, _, _, _, _, _, e⟩ => by cases e
theorem no_mrk_fin {it : Addr} : ¬ Mrk .finished it := fun ⟨_, _, _, _, _, _, e⟩ => by cases e
theorem no_mrk_fresh {c : Code} {it : Addr} : ¬ Mrk (.fresh c) it := fun ⟨_, _, _, _, _, _, e⟩ => by cases e

def Asleep (X : Cx) (n : Nat) (A : Around) (g : Nat) : List Item → Hp → List (Addr × Obj) → List Nat → Shared → GenState → Prop
  | [], Hg, pv, gl, s, gs => ∀ s' Po, Woke X n A g Hg pv s s' → Td Po gl s' → Goes (mm X.prog X.w) A (fun r s1 => (r = .ok (.ret .none) ∨ r = .ok .next) ∧ (∃ Hg', Bnd X n (Gp.addrs pv) Hg Hg' [] s' s1) ∧ Td Po [] s1) (fun _ _ _ => False) gs s'
  | it :: r, Hg, pv, gl, s, gs => ∀ s' Po, Woke X n A g Hg pv s s' → Td Po gl s' →
    Goes (mm X.prog X.w) A (fun _ _ => False) (fun v s1 gs' => ∃ x Hg' pv' gl', RelV x v ∧ it x Hg' ∧ Bnd X n (Gp.addrs pv) Hg Hg' pv' s' s1 ∧ Asleep X n A g r Hg' pv' gl' s1 gs' ∧ Td Po gl' s1 ∧ Cov gl' pv' s1 ∧ ∀ it, Mrk gs' it → ∃ o, (it, o) ∈ pv' ∧ isG o = true) gs s'
def finOf (X : Cx) (n : Nat) (P0 : List Addr) (Hg0 : Hp) (Po : Addr → Prop) (its : List Item) (s₀ : Shared) : Result → Shared → Prop := match its with
  | [] => fun r s1 => (r = .ok (.ret .none) ∨ r = .ok .next) ∧ (∃ Hg', Bnd X n P0 Hg0 Hg' [] s₀ s1) ∧ Td Po [] s1
  | _ :: _ => fun _ _ => False
def ylOf (X : Cx) (n : Nat) (A : Around) (g : Nat) (P0 : List Addr) (Hg0 : Hp) (Po : Addr → Prop) (its : List Item) (s₀ : Shared) : Value → Shared → GenState → Prop := match its with
  | [] => fun _ _ _ => False
  | it :: r => fun v s1 gs' => ∃ x Hg' pv' gl', RelV x v ∧ it x Hg' ∧ Bnd X n P0 Hg0 Hg' pv' s₀ s1 ∧ Asleep X n A g r Hg' pv' gl' s1 gs' ∧ Td Po gl' s1 ∧ Cov gl' pv' s1 ∧ ∀ it, Mrk gs' it → ∃ o, (it, o) ∈ pv' ∧ isG o = true
theorem asleep_iff {X : Cx} {n : Nat} {A : Around} {g : Nat} {its : List Item} {Hg : Hp} {pv : List (Addr × Obj)} {gl : List Nat} {s : Shared} {gs : GenState} :
    Asleep X n A g its Hg pv gl s gs ↔ ∀ s' Po, Woke X n A g Hg pv s s' → Td Po gl s' → Goes (mm X.prog X.w) A (finOf X n (Gp.addrs pv) Hg Po its s') (ylOf X n A g (Gp.addrs pv) Hg Po its s') gs s' := by
  cases its with
  | nil => rw [Asleep]; exact Iff.rfl
  | cons it r => rw [Asleep]; exact Iff.rfl

abbrev GG (X : Cx) (n : Nat) (A : Around) (g : Nat) (its : List Item) (s₀ : Shared) (P0 : List Addr) (Hg0 : Hp) (Po : Addr → Prop) (c : Code) (t : Sem PySem.Fin) (fs : List Frame) (s : Shared) : Prop :=
  One (mm X.prog X.w) A (finOf X n P0 Hg0 Po its s₀) (ylOf X n A g P0 Hg0 Po its s₀) c t fs s
section
variable {X : Cx} {n g : Nat} {P0 : List Addr} {Hg0 H : Hp} {s₀ s : Shared} {ip : List (Addr × Obj)} {σ : L2.St} {A : Around} {c : Code} {fs : List Frame} {gd : Bool → Bool}
/-- asleep with this code, if it goes on with it -/
theorem asleep_at (G : GAt X n ip A c fs gd) (I : GI X n P0 Hg0 s₀ ip σ H s) {oL : Obj} (hL : s.heap.get? X.env.locals = some oL) {its : List Item} {k : Resume → Sem PySem.Fin} {l : List Value} {p : Pos}
    (h : ∀ s' P1 Po, Woke X n A g (tupsOf H) ((X.env.locals, oL) :: ip) s s' → Td Po [] s' → SF n (tupsOf H) s' → GI X n P1 (tupsOf H) s' ip σ (frzW n P1 (tupsOf H) s'.heap) s' → GG X n A g its s' P1 (tupsOf H) Po c (k (.send .none)) fs s') :
    Asleep X n A g its (tupsOf H) ((X.env.locals, oL) :: ip) [] s (.suspended k l c p fs false) := by
  refine asleep_iff.mpr fun s' Po W td => ?_
  refine h s' _ Po W td ⟨tupsOf_tups, W.sz⟩ (woke (A := A) G.gcx I W.e0 W.sz G.base G.fsl hL (W.pv (X.env.locals, oL) List.mem_cons_self) (fun p hp => W.pv p (List.mem_cons_of_mem _ hp)) ?_ fun p hp => ?_)
  · unfold Gp.addrs
    rw [List.map_cons]
    exact List.mem_cons_self
  · unfold Gp.addrs
    rw [List.map_cons]
    exact List.mem_cons_of_mem _ (List.mem_map_of_mem (f := Prod.fst) hp)
end

structure YK (X : Cx) (n : Nat) (A : Around) (g : Nat) (ip : List (Addr × Obj)) (c : Code) (fs : List Frame) (K : Flow → Sem PySem.Fin) (D : YEnds) : Prop where
  ok : ∀ (its : List Item) (s₀ : Shared) (P0 : List Addr) (Hg0 : Hp) (Po : Addr → Prop) (s : Shared) (f : Flow), SF n Hg0 s₀ → g < s.gens.size → Td Po [] s → SP (at_ X n s₀ (frzW n P0 Hg0 s₀.heap)) ip (D.at its) f s → GG X n A g its s₀ P0 Hg0 Po c (K f) fs s
structure YS (X : Cx) (n : Nat) (st : Stmt) (t : TY) : Prop where
  run : ∀ (A : Around) (g : Nat) (ip : List (Addr × Obj)) (its : List Item) (s₀ : Shared) (P0 : List Addr) (Hg0 : Hp) (Po : Addr → Prop) (c : Code) (fs : List Frame) (K : Flow → Sem PySem.Fin) (J : Value → Sem PySem.Fin) (gd : Bool → Bool) (lv : List Value → List Value) (s : Shared) (σ : L2.St) (H : Hp) (D : YEnds), lv [] ≠ mkd →
    GAt X n ip A c fs gd → YK X n A g ip c fs K D → SF n Hg0 s₀ → g < s.gens.size → Td Po [] s → GI X n P0 Hg0 s₀ ip σ H s → t D its σ H → GG X n A g its s₀ P0 Hg0 Po c ((er (exec st X.env)).wrap K J gd lv) fs s
structure YSs (X : Cx) (n : Nat) (st : List Stmt) (t : TY) : Prop where
  run : ∀ (A : Around) (g : Nat) (ip : List (Addr × Obj)) (its : List Item) (s₀ : Shared) (P0 : List Addr) (Hg0 : Hp) (Po : Addr → Prop) (c : Code) (fs : List Frame) (K : Flow → Sem PySem.Fin) (J : Value → Sem PySem.Fin) (gd : Bool → Bool) (lv : List Value → List Value) (s : Shared) (σ : L2.St) (H : Hp) (D : YEnds), lv [] ≠ mkd →
    GAt X n ip A c fs gd → YK X n A g ip c fs K D → SF n Hg0 s₀ → g < s.gens.size → Td Po [] s → GI X n P0 Hg0 s₀ ip σ H s → t D its σ H → GG X n A g its s₀ P0 Hg0 Po c ((er (execs st X.env)).wrap K J gd lv) fs s
section
variable {X : Cx} {n : Nat} {st : Stmt} {rest : List Stmt}
theorem sp_like {Y : Cx} {pins : List (Addr × Obj)} {D : Ends} {f : Flow} {G : Array GenState} {u s' : Shared} (l : Like G u s') (hb : AllBare G) (h : SP Y pins D f u) : SP Y pins D f s' := by
  cases f with
  | next => obtain ⟨σ, H, I, q⟩ := h; exact ⟨σ, H, l.inv hb I, q⟩
  | brk => obtain ⟨σ, H, I, q⟩ := h; exact ⟨σ, H, l.inv hb I, q⟩
  | cont => obtain ⟨σ, H, I, q⟩ := h; exact ⟨σ, H, l.inv hb I, q⟩
  | ret u => obtain ⟨v, σ, H, I, r, q⟩ := h; exact ⟨v, σ, H, l.inv hb I, r, q⟩
theorem ys_ps {t : TS} (h : ∀ s H, PS (at_ X n s H) st t) : YS X n st (yPlain t) := by
  refine ⟨fun A g ip its s₀ P0 Hg0 Po c fs K J gd lv s σ H D hlv G k ht hz td hI hq => one_wrap ?_⟩
  rw [G.over]
  refine GenW.wpAny_gsz (n := g + 1) hz ?_
  exact wpAny_mono (lift_inv (X := at_ X n s₀ (frzW n P0 Hg0 s₀.heap)) hI fun s I => (h s₀ (frzW n P0 Hg0 s₀.heap)).run _ s σ H (D.at its) I hq) (fun f s' ⟨u, l, hs⟩ hz' => k.ok its s₀ P0 Hg0 Po s' f ht hz' (td.like l) (sp_like l hI.bare hs)) fun x s' ⟨_, _, hx⟩ => hx.elim
theorem yss_pss {t : TS} (h : ∀ s H, PSs (at_ X n s H) rest t) : YSs X n rest (yPlain t) := by
  refine ⟨fun A g ip its s₀ P0 Hg0 Po c fs K J gd lv s σ H D hlv G k ht hz td hI hq => one_wrap ?_⟩
  rw [G.over]
  refine GenW.wpAny_gsz (n := g + 1) hz ?_
  exact wpAny_mono (lift_inv (X := at_ X n s₀ (frzW n P0 Hg0 s₀.heap)) hI fun s I => (h s₀ (frzW n P0 Hg0 s₀.heap)).run _ s σ H (D.at its) I hq) (fun f s' ⟨u, l, hs⟩ hz' => k.ok its s₀ P0 Hg0 Po s' f ht hz' (td.like l) (sp_like l hI.bare hs)) fun x s' ⟨_, _, hx⟩ => hx.elim
theorem onee_nil {M : Model} {A : Around} {fin : Result → Shared → Prop} {yl : Value → Shared → GenState → Prop} {c : Code} {fs : List Frame} {s : Shared} {env : Env} {K : Flow → Sem PySem.Fin} {J : Value → Sem PySem.Fin} {gd lv} (h : One M A fin yl c (K .next) fs s) : One M A fin yl c ((er (execs [] env)).wrap K J gd lv) fs s := h
theorem onee_cons {M : Model} {A : Around} {fin : Result → Shared → Prop} {yl : Value → Shared → GenState → Prop} {c : Code} {fs : List Frame} {s : Shared} {st : Stmt} {rest : List Stmt} {env : Env} {K : Flow → Sem PySem.Fin} {J : Value → Sem PySem.Fin} {gd lv}
    (h : One M A fin yl c ((er (exec st env)).wrap (fun f => match f with | .next => (er (execs rest env)).wrap K J gd lv | f => K f) J gd lv) fs s) : One M A fin yl c ((er (execs (st :: rest) env)).wrap K J gd lv) fs s := by
  rw [execs_cons, er_bind, Sem.bind_eq_wrap', Sem.wrap_wrap]
  have hK : ∀ Z : Flow → Sem PySem.Fin, (∀ f, Z f = match f with | .next => (er (execs rest env)).wrap K J gd lv | f => K f) → One M A fin yl c (Sem.wrap Z J gd lv (er (exec st env))) fs s := fun Z hZ => by
    rw [show Z = _ from funext hZ]
    exact h
  exact hK _ fun f => by cases f <;> rfl
def y0 : TY := fun D its σ H => D.nx its σ H
theorem yss_nil : YSs X n [] y0 := ⟨fun A g ip its s₀ P0 Hg0 Po c fs K J gd lv s σ H D hlv G k ht hz td hI hq => onee_nil (k.ok its s₀ P0 Hg0 Po s .next ht hz td ⟨σ, H, hI, hq⟩)⟩
def yThen (t u : TY) : TY := fun D its σ H => t { D with nx := fun its' σ' H' => u D its' σ' H' } its σ H
theorem yss_cons {t u : TY} (a : YS X n st t) (b : YSs X n rest u) : YSs X n (st :: rest) (yThen t u) := by
  refine ⟨fun A g ip its s₀ P0 Hg0 Po c fs K J gd lv s σ H D hlv G k ht hz td hI hq => ?_⟩
  refine onee_cons ?_
  refine a.run A g ip its s₀ P0 Hg0 Po c fs _ J gd lv s σ H { D with nx := fun its' σ' H' => u D its' σ' H' } hlv G ⟨fun its' s₀' P0' Hg0' Po' s' f ht' hz' td' hs => ?_⟩ ht hz td hI hq
  cases f with
  | next =>
    obtain ⟨σ', H', I', q⟩ := hs
    exact b.run A g ip its' s₀' P0' Hg0' Po' c fs K J gd lv s' σ' H' D hlv G k ht' hz' td' I' q
  | brk => exact k.ok its' s₀' P0' Hg0' Po' s' .brk ht' hz' td' hs
  | cont => exact k.ok its' s₀' P0' Hg0' Po' s' .cont ht' hz' td' hs
  | ret u => exact k.ok its' s₀' P0' Hg0' Po' s' (.ret u) ht' hz' td' hs

/-! ### yield -/
theorem onee_bind {M : Model} {A : Around} {fin : Result → Shared → Prop} {yl : Value → Shared → GenState → Prop} {c : Code} {fs : List Frame} {s : Shared} {α β : Type} {m : Sem α} {f : α → Sem β} {K : β → Sem PySem.Fin} {J : Value → Sem PySem.Fin} {gd lv}
    (h : wpAny M (A.over c fs) (er m) (fun a s' => One M A fin yl c ((er (f a)).wrap K J gd lv) fs s') (fun x s' => One M A fin yl c (J x) fs s') s) : One M A fin yl c ((er (m >>= f)).wrap K J gd lv) fs s := by
  rw [er_bind, Sem.bind_eq_wrap', Sem.wrap_wrap]
  exact one_wrap h
theorem one_Yield {M : Model} {A : Around} {fin : Result → Shared → Prop} {yl : Value → Shared → GenState → Prop} {c : Code} {fs : List Frame} {s : Shared} {env : Env} {K : Flow → Sem PySem.Fin} {H : Value → Sem PySem.Fin} {gd : Bool → Bool} {lv : List Value → List Value} {e : Expr} {ypos pos : Pos}
    (hfs : splitAtGen fs = none) (hgd : gd false = false) (hfg : fs.any Frame.guarded = false)
    (h : wpAny M (A.over c fs) (er (eval e env)) (fun v s' => ∀ (k : Resume → Sem PySem.Fin) p, k (.send .none) = K .next → yl v s' (.suspended k (lv []) c p fs false)) (fun x s' => One M A fin yl c (H x) fs s') s)
    (hco : env.scope.isCoroutine = false) (hi : interactive env = false) : One M A fin yl c ((er (exec (.Expr (.Yield (some e) ypos) pos) env)).wrap K H gd lv) fs s := by
  rw [exec_Expr env _ pos hi rfl]
  show One M A fin yl c (.at pos fun _ => (er ((eval e env >>= fun v => (standAt ypos >>= fun _ => yieldOut env v)) >>= fun x => dropValue (.Yield (some e) ypos) pos x)).wrap K H gd lv) fs s
  have hy : ∀ v, yieldOut env v = yieldValue v := fun v => by simp only [yieldOut, hco, Bool.false_eq_true, if_false]
  simp only [hy]
  refine one_at ?_
  rw [er_bind, er_bind, Sem.bind_eq_wrap', Sem.bind_eq_wrap', Sem.wrap_wrap, Sem.wrap_wrap]
  refine one_wrap (wpAny_mono h (fun v s' h' => ?_) fun _ _ x => x)
  refine one_at (one_yield hfs hgd hfg fun p => ?_)
  exact h' _ p rfl
theorem ys_yield {e : Expr} {te : TE} {yp pos : Pos} (he : ∀ s H, PE (at_ X n s H) e te) (hco : X.env.scope.isCoroutine = false) (hi : interactive X.env = false := by rfl) : YS X n (.Expr (.Yield (some e) yp) pos) (yYield te) := by
  refine ⟨fun A g ip its s₀ P0 Hg0 Po c fs K J gd lv s σ H D hlv G k ht hz td hI hq => ?_⟩
  refine one_Yield G.split G.gd G.guard ?_ hco hi
  rw [G.over]
  refine wpAny_mono (lift_inv (X := at_ X n s₀ (frzW n P0 Hg0 s₀.heap)) hI fun s I => (he s₀ (frzW n P0 Hg0 s₀.heap)).run _ s σ H _ I hq) (fun v s1 hv => ?_) fun x s' ⟨_, _, hx⟩ => hx.elim
  obtain ⟨u1, l1, x, H1, I1, r1, it, r, rfl, hit, hnx⟩ := hv
  replace I1 := l1.inv hI.bare I1
  intro kk p hk
  obtain ⟨oL, hL, hpv⟩ := priv_of G I1
  refine ⟨x, tupsOf H1, (X.env.locals, oL) :: ip, [], r1, hit, bnd_of ht.tup G.gcx.ex G.fsl I1 hpv, ?_, td.like l1, cov_nil, fun it ⟨_, _, _, _, _, _, e⟩ => absurd (by injection e) hlv⟩
  refine asleep_at G I1 hL fun s' P1 Po' W' td' ht' I' => ?_
  rw [hk]
  exact k.ok r s' P1 (tupsOf H1) Po' s' .next ht' W'.gz td' ⟨σ, _, I', hnx _ fun b xs e => frzW_tup (tupsOf_at.mpr e)⟩
end
end Gm
end
section
set_option linter.all false
set_option maxRecDepth 100000
/-! F5: a generator's for loop at the erased model. -/
namespace Gm
open PySem PySem.Spec PyProof.Rows L2 GenW Gp Er

section
variable {M : Model} {A : Around} {fin : Result → Shared → Prop} {yl : Value → Shared → GenState → Prop} {c : Code} {fs : List Frame} {s : Shared} {α β : Type}
theorem onee_For {tg iter : Expr} {body : List Stmt} {pos : Pos} {env : Env} {K : Flow → Sem PySem.Fin} {J : Value → Sem PySem.Fin} {gd : Bool → Bool} {lv : List Value → List Value} (hs : ∀ x, foldedSetIterable iter env x = pure x)
    (h : wpAny M (A.over c fs) (er (eval iter env)) (fun v s1 => wpAny M (A.over c fs) (er (pyIter v)) (fun itv s2 => ∀ p, One M A fin yl (.forLoop tg itv body [] env) (M.den (.forLoop tg itv body [] env))
        (.ret (fun r => (er ((match r with | .ok f => (.pure f : Sem Flow) | .error e => .raise e).onRaise (Gp.cameBack env))).wrap K J gd lv) none (gd false) (lv []) c p [] :: fs) s2) (fun x s' => One M A fin yl c (J x) fs s') s1) (fun x s' => One M A fin yl c (J x) fs s') s) :
    One M A fin yl c ((er (exec (.For tg iter body [] pos) env)).wrap K J gd lv) fs s := by
  rw [arm_exec_For]
  refine onee_bind (wpAny_standAt ?_)
  refine onee_bind (wpAny_mono h (fun v s1 h1 => ?_) fun _ _ q => q)
  rw [hs]
  refine onee_bind (wpAny_pure ?_)
  refine onee_bind (wpAny_standAt ?_)
  refine onee_bind ?_
  refine ere_holding (wpAny_mono h1 (fun itv s2 h2 => ?_) fun _ _ q => q)
  exact one_call h2
end

section
variable {prog : Program} {w : World} {A : Around} {fin : Result → Shared → Prop} {yl : Value → Shared → GenState → Prop} {fs : List Frame} {s : Shared} {env : Env}
theorem onee_forLoop {tg : Expr} {itv : Value} {body : List Stmt}
    (h : wpAny (mm prog w) (A.over (.forLoop tg itv body [] env) fs) (er (pyNext itv)) (fun r s1 => match r with
      | none => One (mm prog w) A fin yl (.block [] env) (.pure (.done .next)) fs s1
      | some v => wpAny (mm prog w) (A.over (.forLoop tg itv body [] env) fs) (er (letOwnedTupleGo tg itv v)) (fun _ s2 => wpAny (mm prog w) (A.over (.forLoop tg itv body [] env) fs) (er (assign tg env v)) (fun _ s3 =>
          ∀ J, One (mm prog w) A fin yl (.forLoop tg itv body [] env) ((er (execs body env)).wrap (fun f => match f with
            | .next | .cont => .pure (.again (.forLoop tg itv body [] env))
            | .brk => .pure (.done .next)
            | .ret v => .pure (.done (.ret v))) J id id) fs s3) (fun _ _ => False) s2) (fun _ _ => False) s1) (fun _ _ => False) s) :
    One (mm prog w) A fin yl (.forLoop tg itv body [] env) ((mm prog w).den (.forLoop tg itv body [] env)) fs s := by
  show One _ A fin yl _ (er ((forTurn tg itv body [] env).onRaise (fun x => do noteFrame x env; theTreesLotGoes x))) fs s
  unfold forTurn
  rw [er_onRaise, Sem.onRaise_eq_wrap]
  refine onee_bind (wpAny_standAt ?_)
  refine onee_bind ?_
  rw [er_onRaise]
  refine wpAny_onRaise (wpAny_mono h (fun r s1 h1 => ?_) fun _ _ q => q.elim)
  cases r with
  | none =>
    refine one_again rfl ?_
    show One _ A fin yl _ (er (do return Fin.done (← (execs [] env).onRaise (fun x => do noteFrame x env; theTreesLotGoes x)))) fs s1
    exact h1
  | some v =>
    refine onee_bind (wpAny_mono h1 (fun _ s2 h2 => ?_) fun _ _ q => q.elim)
    refine onee_bind (wpAny_mono h2 (fun _ s3 h3 => ?_) fun _ _ q => q.elim)
    rw [er_bind, Sem.bind_eq_wrap', Sem.wrap_wrap]
    have hK : ∀ (Z : Flow → Sem PySem.Fin) J, (∀ f, Z f = match f with
            | .next | .cont => .pure (.again (.forLoop tg itv body [] env))
            | .brk => .pure (.done .next)
            | .ret v => .pure (.done (.ret v))) → One (mm prog w) A fin yl (.forLoop tg itv body [] env) (Sem.wrap Z J id id (er (execs body env))) fs s3 := fun Z J hZ => by
      rw [show Z = _ from funext hZ]
      exact h3 J
    exact hK _ _ fun f => by cases f <;> rfl
end
end Gm
end
section
set_option linter.all false
set_option maxRecDepth 100000
/-! F6: for over any iterable in a generator's body, at the erased model. -/
namespace Gm
open PySem PySem.Spec PyProof.Rows L2 GenW Gp Er

section
variable {X : Cx} {n : Nat}
theorem ys_for {tg iter : Expr} {body : List Stmt} {pos : Pos} {wi : TI} {g : TG} {tb : TY} (hc : X.calm = true) (hi : ∀ s H, PI (at_ X n s H) tg iter wi) (hg : ∀ s H, PG (at_ X n s H) tg g) (hb : YSs X n body tb)
    (hs : ∀ x, foldedSetIterable iter X.env x = pure x := by intro _; rfl) : YS X n (.For tg iter body [] pos) (yFor wi g tb) := by
  refine ⟨fun A gn ip its s₀ P0 Hg0 Po c fs K J gd lv s σ H D hlv G k sf hz td hI hq => onee_For hs ?_⟩
  rw [G.over]
  refine GenW.wpAny_gsz (n := gn + 1) hz ?_
  refine wpAny_mono (lift_inv (X := at_ X n s₀ (frzW n P0 Hg0 s₀.heap)) hI fun s I => (hi s₀ (frzW n P0 Hg0 s₀.heap)).run ip s σ H _ I hq) (fun v s1 ⟨u1, l1, h1⟩ hz1 => GenW.wpAny_gsz (n := gn + 1) hz1 (wpAny_mono (lift2 l1 h1) (fun itv s2 ⟨u2, l2, h2⟩ hz2 => ?_) fun _ _ ⟨_, _, q⟩ => q.elim)) fun _ _ ⟨_, _, q⟩ => q.elim
  obtain ⟨it, fp, tn, J', H2, e, I2, T, st2, f2, W, ⟨m0, w0⟩, turn⟩ := h2
  replace I2 := l2.inv hI.bare I2
  rw [← l2.heap] at st2
  subst e
  intro p
  have gl := fun (kk : Result → Sem PySem.Fin) => gat_loop (k := kk) (c' := .forLoop tg (.ref it) body [] X.env) (l := lv []) (kp := []) (p := p) G rfl rfl
  have nb : ∀ b ∈ fp, n ≤ b := fun b hb => by
    rcases (f2 b hb).2.2.2.1 with z | z
    · have z : b ∈ X.ex := z
      rw [G.gcx.ex] at z; cases z
    · have z : (trunc n s₀.heap).objs.size ≤ b := z
      rw [trunc_size_ge sf.sz] at z
      exact z
  have stat : ∀ {s' : Shared} {H' Hx : Hp}, (∀ b ∈ fp, H' b = none) → ∀ b ∈ fp, FpOk (at_ X n s' Hx) ip H' b := fun {s' H' Hx} hn b hb => by
    obtain ⟨_, q2, q3, _, q5, q6⟩ := f2 b hb
    exact ⟨hn b hb, q2, q3, .inr (Nat.le_trans trunc_size (nb b hb)), q5, q6⟩
  have loop : ∀ (m i : Nat) (its : List Item) (s₀ : Shared) (P0 : List Addr) (Hg0 : Hp) (Po : Addr → Prop) (s : Shared) (σ : L2.St) (H : Hp), SF n Hg0 s₀ → gn < s.gens.size → Td Po [] s → GI X n P0 Hg0 s₀ ip σ H s → tn i s.heap → (∀ b ∈ fp, H b = none) → W i m its σ H →
      GG X n A gn its s₀ P0 Hg0 Po (.forLoop tg (.ref it) body [] X.env) ((mm X.prog X.w).den (.forLoop tg (.ref it) body [] X.env))
        (.ret (fun r => (er ((match r with | .ok f => (.pure f : Sem Flow) | .error e => .raise e).onRaise (Gp.cameBack X.env))).wrap K J gd lv) none (gd false) (lv []) c p [] :: fs) s := by
    intro m
    induction m using Nat.strongRecOn with
    | ind m ih =>
      intro i its s₀ P0 Hg0 Po s σ H sf hz td hI st fr w
      refine onee_forLoop ?_
      rw [(gl _).over]
      refine GenW.wpAny_gsz (n := gn + 1) hz ?_
      rcases turn i m its σ H w with ⟨stop, qn⟩ | ⟨go, N, hN, step⟩
      · refine wpAny_mono (lift (T.done (at_ X n s₀ (frzW n P0 Hg0 s₀.heap)) rfl rfl rfl hc i ip { s with gens := blankA s.gens } σ H (fun _ _ => False) (Gp.Inv.gens hI (blankA_bare _)) (stat fr) st stop)) (fun r s4 ⟨u4, l4, hr, I4⟩ hz4 => ?_) fun _ _ ⟨_, _, q⟩ => q.elim
        replace I4 := l4.inv hI.bare I4
        subst hr
        exact one_leaf (.ok .next) (k.ok its s₀ P0 Hg0 Po s4 .next sf hz4 (td.like l4) ⟨σ, H, I4, qn⟩)
      · refine wpAny_mono (lift (T.item (at_ X n s₀ (frzW n P0 Hg0 s₀.heap)) rfl rfl rfl hc i ip { s with gens := blankA s.gens } σ H (fun _ _ => False) (Gp.Inv.gens hI (blankA_bare _)) (stat fr) st go)) (fun r s4 ⟨u4, l4, u, hr, h4⟩ hz4 => ?_) fun _ _ ⟨_, _, q⟩ => q.elim
        subst hr
        refine GenW.wpAny_gsz (n := gn + 1) hz4 ?_
        refine wpAny_mono (lift2 l4 h4) (fun _ s5 ⟨u5, l5, x, H5, I5, r5, y5, st5, fr5⟩ hz5 => ?_) fun _ _ ⟨_, _, q⟩ => q.elim
        replace I5 := l5.inv hI.bare I5
        rw [← l5.heap] at st5
        have I5' := I5.pinned (stat fr5) (T.obj _ _ st5)
        refine GenW.wpAny_gsz (n := gn + 1) hz5 ?_
        refine wpAny_mono (lift_inv (X := at_ X n s₀ (frzW n P0 Hg0 s₀.heap)) I5' fun s I => (hg s₀ (frzW n P0 Hg0 s₀.heap)).run _ s σ H5 x u _ I r5 (step x H5 y5)) (fun _ s6 ⟨u6, l6, σ6, H6, I6, q6⟩ hz6 => ?_) fun _ _ ⟨_, _, q⟩ => q.elim
        replace I6 := l6.inv I5'.bare I6
        intro JJ
        refine hb.run A gn (ip ++ pinsAt fp s5.heap) its s₀ P0 Hg0 Po _ _ _ _ id id s6 σ6 H6 { D with nx := N, ct := N, bk := D.nx } (by unfold mkd; nofun) ((gl _).more fun q hq => ?_) ⟨fun its' s₀' P0' Hg0' Po' s7 f sf' hz7 td7 hs => ?_⟩ sf hz6 (Td.like (Td.like td l5) l6) I6 q6
        · rcases List.mem_append.mp hq with z | z
          · exact G.ipn q z
          · exact nb q.1 (of_pinsAt z).1
        have again : ∀ {σ7 : L2.St} {H7 : Hp}, GI X n P0' Hg0' s₀' (ip ++ pinsAt fp s5.heap) σ7 H7 s7 → N its' σ7 H7 → GG X n A gn its' s₀' P0' Hg0' Po' (.forLoop tg (.ref it) body [] X.env) (.pure (.again (.forLoop tg (.ref it) body [] X.env)))
            (.ret (fun r => (er ((match r with | .ok f => (.pure f : Sem Flow) | .error e => .raise e).onRaise (Gp.cameBack X.env))).wrap K J gd lv) none (gd false) (lv []) c p [] :: fs) s7 := fun {σ7 H7} I7 n7 => by
          obtain ⟨m', hm, w7⟩ := hN its' σ7 H7 n7
          refine one_again rfl (ih m' hm (i + 1) its' s₀' P0' Hg0' Po' s7 σ7 H7 sf' hz7 td7 I7.unpinned (T.keep _ _ _ st5 fun b hb o e => (I7.pin (b, o) (List.mem_append_right _ (List.mem_append_right _ (mem_pinsAt hb e)))).1) (fun b hb => ?_) w7)
          obtain ⟨o, e, d⟩ := T.obj _ _ st5 b hb
          exact (I7.pin (b, o) (List.mem_append_right _ (List.mem_append_right _ (mem_pinsAt hb e)))).2.1
        cases f with
        | next => obtain ⟨σ7, H7, I7, n7⟩ := hs; exact again I7 n7
        | cont => obtain ⟨σ7, H7, I7, n7⟩ := hs; exact again I7 n7
        | brk => obtain ⟨σ7, H7, I7, q7⟩ := hs; exact one_leaf (.ok .next) (k.ok its' s₀' P0' Hg0' Po' s7 .next sf' hz7 td7 ⟨σ7, H7, I7.unpinned, q7⟩)
        | ret v => obtain ⟨x7, σ7, H7, I7, r7, q7⟩ := hs; exact one_leaf (.ok (.ret v)) (k.ok its' s₀' P0' Hg0' Po' s7 (.ret v) sf' hz7 td7 ⟨x7, σ7, H7, I7.unpinned, r7, q7⟩)
  exact loop m0 0 its s₀ P0 Hg0 Po s2 σ H2 sf hz2 (td.like l2) I2 st2 (fun b hb => (f2 b hb).1) w0
end
end Gm
end
section
set_option linter.all false
set_option maxRecDepth 100000
set_option maxHeartbeats 1000000
/-! F7, at the erased model: a generator def's promise by its body; it raises nothing. -/
namespace Gm
open PySem PySem.Spec PyProof.Rows L2 GenW Gp Er

theorem onee_func {prog : Program} {w : World} {A : Around} {fin : Result → Shared → Prop} {yl : Value → Shared → GenState → Prop} {fs : List Frame} {s : Shared} {env : Env} {body : List Stmt}
    (h : ∀ J, One (mm prog w) A fin yl (.func body env) ((er (execs body env)).wrap (fun f => .pure (.done (.ret (match f with | .ret v => v | _ => .none)))) J id id) fs s) :
    One (mm prog w) A fin yl (.func body env) ((mm prog w).den (.func body env)) fs s := by
  show One _ A fin yl _ (.point [] fun _ => er (((execs body env).onRaise (leaving env)) >>= _)) fs s
  refine one_point ?_
  rw [er_bind, er_onRaise, Sem.onRaise_eq_wrap, Sem.bind_eq_wrap', Sem.wrap_wrap]
  have hK : ∀ (Z : Flow → Sem PySem.Fin) J, (∀ f, Z f = .pure (.done (.ret (match f with | .ret v => v | _ => .none)))) → One (mm prog w) A fin yl (.func body env) (Sem.wrap Z J id id (er (execs body env))) fs s := fun Z J hZ => by
    rw [show Z = _ from funext hZ]
    exact h J
  exact hK _ _ fun f => by cases f <;> rfl
/-- a generator that has not begun -/
def YMade (P : Program) (w : World) (K : PySem.W.Frag) (mg : Str → Option Value) (base : Heap) (k : Nat) (outer : List Env) (H : Hp) (s : Shared) (its : List Item) (u : Value) (s' : Shared) : Prop :=
  ∃ (a : Addr) (g : Nat) (c : Code) (go : Obj) (pv : List (Addr × Obj)), u = .ref a ∧ s.heap.objs.size ≤ a ∧ s'.heap.get? a = some go ∧ (∀ h : Heap, h.get? a = some go → h.IsGen a g) ∧ (∀ v, go.data ≠ .cell v) ∧ s'.gens[g]? = some (.fresh c) ∧ s'.gens.size = g + 1 ∧ g = s.gens.size ∧ Sleeps s.gens s'.gens ∧
    s'.os = s.os ∧ AllBare s'.gens ∧ (∀ b o, s.heap.get? b = some o → s'.heap.get? b = some o) ∧ (∀ p ∈ pv, s.heap.objs.size ≤ p.1 ∧ p.1 ≠ a ∧ s'.heap.get? p.1 = some p.2 ∧ ∀ v, p.2.data ≠ .cell v) ∧
    ∀ A, Room k A → A.frames = some outer → ∃ X, XOk X P w K mg base outer ∧ Asleep X s.heap.objs.size A g its (tupsOf H) pv [] s' (.fresh c)
structure YFn (P : Program) (w : World) (K : PySem.W.Frag) (mg : Str → Option Value) (base : Heap) (k : Nat) (f : Addr) (fd : FuncData) (ps : List Str) (sp : YSp) : Prop where
  len : ∀ vs H its, sp vs H its → vs.length = ps.length
  run : ∀ (A : Around) (outer : List Env) (s : Shared) (H : Hp) (args : Args) (us : List Value) (vs : List V) (its : List Item), Room k A → Env0 P w K mg base A outer s H → BindsTo s fd args (ps.zip us) → Vals vs us → sp vs H its →
    codeAny (model P w) A (.call (.ref f) args) (fun r s' => match r with | .ok (.ret u) => YMade P w K mg base k outer H s its u s' | _ => False) s

/-- THE RULE: a generator def, by its body -/
theorem yfn_of {P : Program} {w : World} {K : PySem.W.Frag} {mg : Str → Option Value} {base : Heap} {k : Nat} {f : Addr} {name qual : Str} {params : Arguments} {body : List Stmt} {scope : Scope} {dV kV doc pm cdv ct oc : Value} {an od : Option Addr}
    {osl : Array (Option Value)} {N ps : List Str} {sp : YSp} (lk : K.lookup f = some ⟨oc, od, .func (PySem.W.fnOf name qual params body scope dV kV doc pm an cdv ct), osl⟩) (hcd : PySem.W.codeIn K cdv qual = true) (Y : YScope N ps scope)
    (len : ∀ vs H its, sp vs H its → vs.length = ps.length)
    (hbody : ∀ (A : Around) (outer : List Env) (s : Shared) (H : Hp) (vs : List V) (its : List Item), Room k (A.deeper (envOfC qual scope s.heap.objs.size f cdv)) → sp vs H its →
      ∃ t, YSs (ycx P w K mg base N qual scope f cdv A outer s H) s.heap.objs.size body t ∧
        ∀ H', (∀ b xs, H b = some (.tup xs) → H' b = some (.tup xs)) → t { nx := fun r _ _ => r = [], rt := fun r v _ => r = [] ∧ v = .non } its (start N vs) H') :
    YFn P w K mg base (k + 1) f (PySem.W.fnOf name qual params body scope dV kV doc pm an cdv ct) ps sp := by
  refine ⟨len, fun A outer s H args us vs its hr e0 hb r hsp => ?_⟩
  have S := Y.g
  have hl := len _ _ _ hsp
  have KX : K.In s.heap := e0.mod.kin.keeps fun b o e => (e0.bs b o e).1
  have lim : s.heap.NoLimit := e0.mod.nolimit.keeps fun b o e => (e0.bs b o e).1
  have hkind : ∀ y ∈ ps.zip us, scope.names.lookup y.1 = some .local ∨ (scope.names.lookup y.1 = some .cell ∧ ((cellsFrom (s.heap.objs.size + 1) scope.names []).lookup y.1).isSome = true) := fun ⟨n, v⟩ hy => by
    rcases S.par n (List.of_mem_zip hy).1 with q | q
    · exact .inl q
    · exact .inr ⟨q, PySem.W.cellsFrom_some _ _ _ (.inl q)⟩
  refine codeAny_call_generator hr.depth (KX _ _ lk) rfl S.co S.gen rfl (PySem.W.codeRec_of KX hcd) (hb _ _ _ _ ?_)
  refine wpAny_newFunctionEnv_cells S.kind hkind fun env he s1 x => ?_
  subst he
  refine ⟨lim.keeps x.toInCall.keep, ?_⟩
  obtain ⟨h1, tk, es1, hk1⟩ := x.done
  have os1 : s1.os = s.os := by rw [es1]
  have gen1 : s1.gens = s.gens := by rw [es1]
  have lt1 : s.heap.objs.size < s1.heap.objs.size := x.toInCall.ns.lt
  have kp1 : ∀ b o, s.heap.get? b = some o → s1.heap.get? b = some o := x.toInCall.keep
  have main : ∀ (go : Obj) (nm qn : Value) (tk2 : Nat), go.cls = .type "generator" → go.data = .fields #[.int s1.gens.size 0, nm, qn] → go.slots = #[] → (∀ h : Heap, (h.push go).get? h.objs.size = some go) →
      YMade P w K mg base (k + 1) outer H s its (.ref s1.heap.objs.size) { s1 with gens := s1.gens.push (.fresh (.func body (envOfC qual scope s.heap.objs.size f cdv))), toks := tk2, heap := s1.heap.push go } := by
    intro go nm qn tk2 hgc hgd0 hgs hgp
    obtain ⟨mL, ⟨oL, es, ep, hoL, hdL, rL⟩, locL⟩ : ∃ m, s1.heap.Ns s.heap.objs.size m ∧ ∀ (i : Nat) (y : Str) (v : V), N[i]? = some y → (start N vs)[i]? = some (some v) → Vis scope y → ∃ u, RelV v u ∧ Look (envOfC qual scope s.heap.objs.size f cdv) s1.heap m y u :=
      (inv_startG (E := fun _ _ _ => False) S hr.hd e0 hl r x).loc
    have I1 := inv_startG (E := fun _ _ _ => False) S hr.hd e0 hl r x
    refine ⟨s1.heap.objs.size, s1.gens.size, _, go, [(s.heap.objs.size, oL)], rfl, Nat.le_of_lt lt1, hgp _, fun h e => ⟨go, nm, qn, e, hgc, hgd0, hgs⟩, (fun v q => by rw [hgd0] at q; cases q), Array.getElem?_push_size .., Array.size_push _, by rw [gen1], ?_, os1, ?_, fun b o e => Heap.get?_push_of_some _ (kp1 b o e), fun p hp => ?_, ?_⟩
    · intro i k' l c p fs cl h
      show (s1.gens.push _)[i]? = _
      rw [gen1, Array.getElem?_push, if_neg fun z => by rw [z, Array.getElem?_eq_none (Nat.le_refl _)] at h; cases h]
      exact h
    · exact AllBare.push (by rw [gen1]; exact e0.bare) rfl
    · rw [List.mem_singleton.mp hp]
      exact ⟨Nat.le_refl _, Nat.ne_of_lt lt1, Heap.get?_push_of_some _ hoL, fun v q => by rw [hdL] at q; cases q⟩
    intro Aw hrw hfr
    refine ⟨ycx P w K mg base N qual scope f cdv Aw outer s H, ⟨rfl, rfl, rfl, rfl, rfl, rfl⟩, ?_⟩
    obtain ⟨t, ht, hq⟩ := hbody Aw outer s H vs its (hrw.deeper _) hsp
    have gcx : GCx (ycx P w K mg base N qual scope f cdv Aw outer s H) s.heap.objs.size :=
      ⟨e0.mod, S.kind, rfl, rfl, rfl, Y.cells _, fun y => ⟨fun z => ((Y.nocell _ (PySem.mem_of_lookup z)).1 rfl).elim, fun z => ((Y.nocell _ (PySem.mem_of_lookup z)).2 rfl).elim⟩, hrw.hd, Around.frames_deeper hfr, rfl, rfl, rfl, rfl⟩
    refine asleep_iff.mpr fun s2 Po W td => ?_
    refine onee_func fun JJ => ?_
    have hI : GI (ycx P w K mg base N qual scope f cdv Aw outer s H) s.heap.objs.size (Gp.addrs [(s.heap.objs.size, oL)]) (tupsOf H) s2 [] (start N vs) (frzW s.heap.objs.size (Gp.addrs [(s.heap.objs.size, oL)]) (tupsOf H) s2.heap) s2 :=
      woke0 (X := ycx P w K mg base N qual scope f cdv Aw outer s H) (n := s.heap.objs.size) (s := s1) (H := H) (ip := []) (σ := start N vs) (A := Aw) (oL := oL) gcx ⟨mL, ⟨oL, es, ep, hoL, hdL, rL⟩, locL⟩ I1.free (fun p hp => by cases hp) I1.len W.e0 W.sz e0.bsz (frs_lt e0.funs) hoL (W.pv _ (List.mem_singleton.mpr rfl)) (fun p hp => by cases hp) (List.mem_singleton.mpr rfl) fun p hp => by cases hp
    refine ht.run Aw s1.gens.size [] its s2 _ (tupsOf H) Po _ [] _ _ id id s2 (start N vs) _ _ (by unfold mkd; nofun) ⟨gcx, e0.bsz, frs_lt e0.funs, fun p hp => (by cases hp), over_func, rfl, rfl, rfl⟩ ⟨fun its' s₀' P0' Hg0' Po' s' fl sf hz' td' hs => ?_⟩ ⟨tupsOf_tups, W.sz⟩ W.gz td hI (hq _ fun b xs e => frzW_tup (tupsOf_at.mpr e))
    cases fl with
    | next =>
      obtain ⟨σ', H', hI', hn⟩ := hs
      have hn : its' = [] := hn
      subst hn
      exact one_end (.ok (.ret .none)) ⟨.inl rfl, ⟨_, bnd_of sf.tup rfl (frs_lt e0.funs) hI' fun p hp => by cases hp⟩, td'⟩
    | brk => obtain ⟨_, _, _, q⟩ := hs; exact False.elim q
    | cont => obtain ⟨_, _, _, q⟩ := hs; exact False.elim q
    | ret u =>
      obtain ⟨v, σ', H', hI', rv, hn, ev⟩ := hs
      subst ev
      have eu : u = Value.none := rv
      have hn : its' = [] := hn
      subst eu hn
      exact one_end (.ok (.ret .none)) ⟨.inl rfl, ⟨_, bnd_of sf.tup rfl (frs_lt e0.funs) hI' fun p hp => by cases hp⟩, td'⟩
  exact main _ _ _ _ rfl rfl rfl fun h => Heap.get?_push_size _ rfl
end Gm
end
section
set_option linter.all false
set_option maxRecDepth 100000
set_option maxHeartbeats 1000000
/-! F8: rules at the erased model: state-keeping pieces, calls of builtins, the next of a generator. -/
namespace Er
open PySem PySem.Spec PyProof.Rows L2 GenW
open Sem (wp)

/-- a piece that changes nothing -/
theorem lift_same {α : Type} {M : Model} {A : Around} {t : Sem α} {a : α} {Q : α → Shared → Prop} {E : Value → Shared → Prop} {s : Shared}
    (h : ∀ G, wpAny M A t (fun x s' => x = a ∧ s' = { s with gens := G }) (fun _ _ => False) { s with gens := G }) (q : Q a s) : wpAny (M2 M) A (er t) Q E s := by
  refine wpAny_mono (lift (h (blankA s.gens))) (fun x s' ⟨u, l, e1, e2⟩ => ?_) fun _ _ ⟨_, _, q⟩ => q.elim
  subst e1 e2
  rw [l.eq, rest_blank]
  exact q
/-- a piece that changes the heap alone -/
theorem lift_heap {α : Type} {M : Model} {A : Around} {t : Sem α} {Q : α → Heap → Prop} {E : Value → Heap → Prop} {s : Shared}
    (h : ∀ G, wpAny M A t (fun a s' => ∃ h', s' = { s with gens := G, heap := h' } ∧ Q a h') (fun e s' => ∃ h', s' = { s with gens := G, heap := h' } ∧ E e h') { s with gens := G }) :
    wpAny (M2 M) A (er t) (fun a s' => ∃ h', s' = { s with heap := h' } ∧ Q a h') (fun e s' => ∃ h', s' = { s with heap := h' } ∧ E e h') s := by
  have key : ∀ (u s' : Shared) (h' : Heap), Like s.gens u s' → u = { s with gens := blankA s.gens, heap := h' } → s' = { s with heap := h' } := fun u s' h' l e => by
    subst e
    rw [l.eq]
    exact rest_blank { s with heap := h' }
  exact wpAny_mono (lift (h (blankA s.gens))) (fun x s' ⟨u, l, h', e, q⟩ => ⟨h', key u s' h' l e, q⟩) fun x s' ⟨u, l, h', e, q⟩ => ⟨h', key u s' h' l e, q⟩
theorem ere_bind {α β : Type} {M : Model} {A : Around} {m : Sem α} {f : α → Sem β} {Q : β → Shared → Prop} {E : Value → Shared → Prop} {s : Shared} (h : wpAny M A (er m) (fun a s' => wpAny M A (er (f a)) Q E s') E s) : wpAny M A (er (m >>= f)) Q E s := by
  rw [er_bind]
  exact wpAny_bind h
theorem ere_attempt {α : Type} {M : Model} {A : Around} {m : Sem α} {Q : Except Value α → Shared → Prop} {E : Value → Shared → Prop} {s : Shared} (h : wpAny M A (er m) (fun a => Q (.ok a)) (fun e => Q (.error e)) s) : wpAny M A (er m.attempt) Q E s := by
  exact ere (wpAny_attempt (unere h))
theorem er_call (f : Value) (args : List Value) : er (call f args) = call f args := by
  show er (Sem.call _ _ _ _ _) = Sem.call _ _ _ _ _
  show Sem.call _ _ _ _ _ = Sem.call _ _ _ _ _
  congr 1
  funext r
  cases r with
  | error e => rfl
  | ok f => cases f <;> rfl

section
variable {prog : Program} {w : World} {A : Around} {E : Value → Shared → Prop} {s : Shared}
theorem ere_callSpecial {self : Value} {T : String} {name : Str} {id : String} {args : List Value} {Q : Option Value → Shared → Prop} (hT : s.TypeIs self T) (h : Slot T name id)
    (hc : wpAny (mm prog w) A (call (.builtin id) (self :: args)) (fun v => Q (some v)) E s) : wpAny (mm prog w) A (er (callSpecial? self name args)) Q E s := by
  simp only [callSpecial?]
  refine ere_bind (lift_same (a := some (.builtin id)) (fun G => wpAny_specialOf (s := { s with gens := G }) hT h.lookup ⟨rfl, rfl⟩) ?_)
  simp only [h.bind]
  refine ere_holding (ere_bind (wpAny_pure (ere_bind ?_)))
  rw [er_call]
  exact wpAny_mono hc (fun v s' h' => wpAny_pure h') fun _ _ h' => h'
theorem mm_call_entry {T : String} {name : Str} {id : String} {b : Builtin} {self : Value} {rest : List Value} {Q : Value → Shared → Prop} (h : Slot T name id) (hT : s.TypeIs self T) (hb : entryFor table id = some b)
    (hc : wpAny (mm prog w) A.in1 (er (b ⟨self :: rest, []⟩)) (fun fin s' => ∃ v, fin = .done (.ret v) ∧ Q v s') E s) (ha : argsOk id ⟨self :: rest, []⟩ := by rfl) : wpAny (mm prog w) A (call (.builtin id) (self :: rest)) Q E s := by
  refine wpAny_call (codeAny_of_tree ?_)
  show wpAny _ A.in1 (er (do checkBuiltinCall id ⟨self :: rest, []⟩; again (.builtin id ⟨self :: rest, []⟩))) _ _ s
  refine ere_bind (lift_same (a := ()) (fun G => h.check _ _ _ { s with gens := G } _ _ _ _ hT ha ⟨rfl, rfl⟩) ?_)
  refine wpAny_pure (And.intro (plainId_quiet h.plain _) (codeAny_of_tree ?_))
  rw [Around.under_plainId h.plain _]
  show wpAny _ _ (er (match entryFor table id with | some b => b ⟨self :: rest, []⟩ | none => unsupported ((withoutEnding? id "#data").getD id))) _ _ s
  rw [hb]
  refine wpAny_mono hc (fun fin s' ⟨v, e, q⟩ => ?_) fun _ _ q => q
  rw [e]
  exact q

theorem wpAny_gs {α : Type} {M : Model} {g : Nat} {st : GenState} {k : GenStatus × Option (List (Code × Pos)) → Sem α} {Q : α → Shared → Prop} (hg : s.gens[g]? = some st) (h : wpAny M A (k st.seen) Q E s) : wpAny M A (.genState g k) Q E s := fun Γ p hΓ => ⟨st, hg, h Γ p hΓ⟩
/-- the generator's object: its number, and no delegator over it -/
def IsG0 (h : Heap) (a : Addr) (g : Nat) : Prop := ∃ o nm qn, h.get? a = some o ∧ o.cls = .type "generator" ∧ o.data = .fields #[.int g 0, nm, qn] ∧ (o.slots = #[] ∨ ∃ t, o.slots = #[some (.int 0 t)])
theorem IsG0.typeIs {a : Addr} {g : Nat} {s : Shared} (x : IsG0 s.heap a g) : s.TypeIs (.ref a) "generator" := let ⟨o, _, _, ho, hc, _⟩ := x; ⟨o, ho, hc⟩
theorem num_G0 {M : Model} {a : Addr} {g : Nat} {Q : Nat → Shared → Prop} (x : IsG0 s.heap a g) (h : Q g s) : wpAny M A (Builtin.Generator.genNumber (.ref a)) Q E s := by
  obtain ⟨o, nm, qn, ho, _, hd, hsl⟩ := x
  unfold Builtin.Generator.genNumber
  refine wpAny_bind (wpAny_load ho ?_)
  rcases hsl with hsl | ⟨t, hsl⟩
  · rw [hsl, hd]
    show wpAny M A (pure ((g : Int).toNat)) Q E s
    rw [Int.toNat_natCast]
    exact wpAny_pure h
  · rw [hsl, hd]
    show wpAny M A (pure ((g : Int).toNat)) Q E s
    rw [Int.toNat_natCast]
    exact wpAny_pure h
/-- o.__next__() of a generator that raises nothing -/
theorem mm_next {a : Addr} {g : Nat} {gs : GenState} {fin : Result → Shared → Prop} {yl : Value → Shared → GenState → Prop} {Q : Option Value → Shared → Prop} (hh : A.handled = none)
    (hl : s.heap.NoLimit) (hroom : A.depth < recursionLimit) (hg : IsG0 s.heap a g) (hgs : s.gens[g]? = some gs) (hgo : Gp.Goes (mm prog w) A.in1 fin yl gs (s.setGen g .running))
    (hF : ∀ r s₁, fin r s₁ → r = .ok (.ret .none) ∨ r = .ok .next)
    (hY : ∀ v s₁ gs', gs'.bare = true → (∃ k l c p fs cl, gs' = GenState.suspended k l c p fs cl) → yl v s₁ gs' → s.gens.size ≤ s₁.gens.size → Q (some v) (s₁.setGen g gs'))
    (hP : ∀ r s₁, fin r s₁ → s.gens.size ≤ s₁.gens.size → ∀ e h', StopX e h' → (∀ b o, s₁.heap.get? b = some o → h'.get? b = some o) → E e { s₁.setGen g .finished with heap := h' }) :
    wpAny (mm prog w) A (er (callSpecial? (.ref a) "__next__")) Q E s := by
  refine ere_callSpecial (name := Str.ofString "__next__") hg.typeIs slot_gen_next (mm_call_entry slot_gen_next hg.typeIs entry_gen_next ?_ (args_gen_next _))
  show wpAny _ A.in1 (er (Builtin.Generator.genWake (.ref a) (.send .none))) _ _ s
  unfold Builtin.Generator.genWake
  refine ere_bind (ere_holding (lift_same (a := g) (fun G => num_G0 (s := { s with gens := G }) hg ⟨rfl, rfl⟩) ?_))
  refine ere_bind ?_
  show wpAny _ _ (.genState g fun x => er (.pure x.1)) _ _ s
  refine wpAny_gs hgs ?_
  cases gs with
  | running => exact hgo.elim
  | finished => exact hgo.elim
  | _ =>
    refine wpAny_pure ?_
    refine ere_bind (lift_same (a := ()) (fun G => wpAny_roomToWake (s := { s with gens := G }) hl hroom ⟨rfl, rfl⟩) ?_)
    refine ere_bind ?_
    show wpAny _ A.in1 (.resume g (.send .none) [] fun x => er (.pure x)) _ _ s
    refine Gp.wpAny_wake hgs hgo (fun x s₁ hx hs => ?_) (fun v s₁ gs' hb hsu hv hs => ?_)
    · have hres : End.result (.ret x) = .returned .none := by
        rcases hF x s₁ hx with hr | hr <;> rw [hr] <;> rfl
      rw [hres]
      refine wpAny_pure ?_
      show wpAny _ A.in1 (er (newExc (.type "StopIteration") [] >>= _)) _ _ _
      refine wpAny_mono (lift_heap (Q := fun _ _ => False) (E := fun e h' => StopX e h' ∧ ∀ b o, s₁.heap.get? b = some o → h'.get? b = some o) fun G => ?_) (fun _ _ ⟨_, _, q⟩ => q.elim) fun e s' ⟨h', e1, q1, q2⟩ => by rw [e1]; exact hP x s₁ hx hs e h' q1 q2
      refine wpAny_bind ?_
      simp only [newExc, newTuple]
      refine wpAny_bind (wpAny_newObj_type ?_ (by size_fits))
      refine wpAny_bind (m := firstArgMember _ _) (wpAny_of_eq (a := Value.none) (by first | rfl | (simp only [firstArgMember]; rfl)) ?_)
      refine wpAny_newObj_type ?_ (by size_fits)
      simp only [raiseNew]
      refine wpAny_bind (wpAny_bind (wpAny_handled ?_))
      rw [show A.in1.handled = none from hh]
      first
        | refine wpAny_bind (wpAny_pure (wpAny_throw ?_))
        | refine wpAny_throw ?_
      refine ⟨_, rfl, ⟨_, _, _, rfl, Heap.get?_push_size _ rfl, rfl, rfl, ?_⟩, fun b o e => Heap.get?_push_of_some _ (Heap.get?_push_of_some _ e)⟩
      first
        | rfl
        | (rw [Array.getElem?_append_left (by decide)]; rfl)
        | kernel_rfl
    · refine wpAny_pure ?_
      exact wpAny_pure ⟨v, rfl, hY v s₁ gs' hb hsu hv hs⟩
end
end Er
end
section
set_option linter.all false
set_option maxRecDepth 100000
set_option maxHeartbeats 1000000
/-! F9: pieces for yield from over a generator: the slot of a delegate, erased yields with cleanup. -/
namespace Er
open PySem PySem.Spec PyProof.Rows L2 GenW
open Sem (wp)

def withSlot (o : Obj) (m : Int) : Obj := { o with slots := #[some (rawInt m)] }
theorem slept_on {M : Model} {A : Around} {E : Value → Shared → Prop} {s : Shared} {a : Addr} {o : Obj} {vs : Array Value} {Q : Unit → Shared → Prop} (ho : s.heap.get? a = some o) (hd : o.data = .fields vs) (hc : o.cls = .type "generator") (hs : o.slots = #[] ∨ ∃ t, o.slots = #[some (.int 0 t)])
    (h : ∀ h', h'.get? a = some (withSlot o 1) → Heap.SameBut a s.heap h' → Q () { s with heap := h' }) : wpAny M A (Builtin.Generator.sleptOver (.ref a) true) Q E s := by
  unfold Builtin.Generator.sleptOver
  refine wpAny_bind (wpAny_load ho ?_)
  rw [hc]
  rw [if_neg (by decide)]
  obtain ⟨cl, di, da, sl⟩ := o
  have hd : da = .fields vs := hd
  subst hd
  unfold setSlotAt
  rcases hs with hs | ⟨t, hs⟩
  · have hs : sl = #[] := hs
    subst hs
    refine wpAny_bind (wpAny_pure ?_)
    exact wpAny_updatePart ho (h _ (Heap.get?_update_self _ ho rfl) (Heap.SameBut.update ..))
  · have hs : sl = #[some (.int 0 t)] := hs
    subst hs
    refine wpAny_bind (wpAny_pure ?_)
    exact wpAny_updatePart ho (h _ (Heap.get?_update_self _ ho rfl) (Heap.SameBut.update ..))
theorem slept_off {M : Model} {A : Around} {E : Value → Shared → Prop} {s : Shared} {a : Addr} {o : Obj} {vs : Array Value} {Q : Unit → Shared → Prop} (ho : s.heap.get? a = some (withSlot o 1)) (hd : o.data = .fields vs) (hc : o.cls = .type "generator")
    (h : ∀ h', h'.get? a = some (withSlot o 0) → Heap.SameBut a s.heap h' → Q () { s with heap := h' }) : wpAny M A (Builtin.Generator.sleptOver (.ref a) false) Q E s := by
  unfold Builtin.Generator.sleptOver
  refine wpAny_bind (wpAny_load ho ?_)
  rw [show (withSlot o 1).cls = .type "generator" from hc]
  rw [if_neg (by decide)]
  obtain ⟨cl, di, da, sl⟩ := o
  have hd : da = .fields vs := hd
  subst hd
  unfold setSlotAt
  refine wpAny_bind (wpAny_pure ?_)
  exact wpAny_updatePart ho (h _ (Heap.get?_update_self _ ho rfl) (Heap.SameBut.update ..))

section
variable {M : Model} {A : Around} {fin : Result → Shared → Prop} {yl : Value → Shared → GenState → Prop} {c : Code} {fs : List Frame} {s : Shared}
theorem onet_bind {α : Type} {m : Sem α} {f : α → Sem PySem.Fin} (h : wpAny M (A.over c fs) (er m) (fun a s' => Gp.One M A fin yl c (er (f a)) fs s') (fun x s' => Gp.One M A fin yl c (.raise x) fs s') s) : Gp.One M A fin yl c (er (m >>= f)) fs s := by
  rw [er_bind]
  exact Gp.one_bind h
theorem one_stack {k : List (Code × Pos) → Sem PySem.Fin} (h : ∀ p rest, Gp.One M A fin yl c (k ((c, p) :: rest)) fs s) : Gp.One M A fin yl c (.stack k) fs s := by
  rintro Γ p rfl hΓ
  obtain ⟨e, s', hr, hq⟩ := h p (Γ.over fs).below Γ p rfl hΓ
  exact ⟨e, s', Runs.head' (fun _ _ x => .stack x) hr, hq⟩
theorem one_load {a : Addr} {part : Option Value} {o : Obj} {k : Obj → Sem PySem.Fin} (ho : s.heap.get? a = some o) (h : Gp.One M A fin yl c (k o) fs s) : Gp.One M A fin yl c (.load a part k) fs s := by
  rintro Γ p rfl hΓ
  obtain ⟨e, s', hr, hq⟩ := h Γ p rfl hΓ
  exact ⟨e, s', Runs.head' (fun _ _ x => .load ho x) hr, hq⟩
/-- a yield with cleanup over a generator -/
theorem one_loud {it : Addr} {rest : List Value} {kw : List (Str × Value)} {v : Value} {l : List Value} {k : Resume → Sem PySem.Fin} {o : Obj} {g : Nat} {nm qn : Value} (ho : s.heap.get? it = some o) (hc : o.cls = .type "generator") (hd : o.data = .fields #[.int g 0, nm, qn]) (hfs : splitAtGen fs = none) (hfg : fs.any Frame.guarded = false)
    (h : ∀ p, yl v s (.suspended (fun r => er (k r)) mkd (.builtin "proto.yield_from" ⟨.ref it :: rest, kw⟩) p fs false)) : Gp.One M A fin yl (.builtin "proto.yield_from" ⟨.ref it :: rest, kw⟩) (er (.yield v true l k)) fs s := by
  rw [er_chk]
  refine one_stack fun p below => ?_
  show Gp.One M A fin yl _ (.load it none fun o => chkO v mkd (fun x => er (k x)) (isG o)) fs s
  refine one_load ho ?_
  rw [show isG o = true from by unfold isG Obj.genNumber?; rw [hc, hd]; rfl]
  exact Gp.one_yield hfs rfl hfg h
end

section
variable {X : Cx} {pins : List (Addr × Obj)} {σ : L2.St} {H : Hp} {s : Shared}
/-- the generator's object has another slot -/
theorem hand_slot {n a g : Nat} {go go' : Obj} {Hg : Hp} {pv : List (Addr × Obj)} {h' : Heap} (h : Gp.Hand X pins n a g go Hg pv σ H s) (hn : X.s_0.heap.objs.size ≤ n) (e : h'.get? a = some go') (hs : Heap.SameBut a s.heap h') (hd : ∀ v, go'.data ≠ .cell v) :
    Gp.Hand X pins n a g go' Hg pv σ H { s with heap := h' } := by
  have I := h.inv
  obtain ⟨q1, q2, q3, q4, _⟩ := I.pin (a, go) (List.mem_append_right _ (List.mem_append_right _ List.mem_cons_self))
  have I0 : L2.Inv X (pins ++ pv) σ H s := I.pins_of fun p hp => I.pin p (List.mem_append_right _ (by
    rcases List.mem_append.mp hp with z | z
    · exact List.mem_append_left _ z
    · exact List.mem_append_right _ (List.mem_cons_of_mem _ z)))
  have J : L2.Inv X (pins ++ pv) σ H { s with heap := h' } := I0.turned (t' := s.toks) (it := a) (fun b o hb eb => (hs.2 b hb).trans eb) q2 q3 (.inr (Nat.le_trans hn h.na)) (fun x c ec => Nat.ne_of_lt (Nat.lt_of_lt_of_le (h.cel x c ec) h.na)) fun p hp => by
    rw [← List.append_assoc] at hp
    rcases List.mem_append.mp hp with z | z
    · exact Nat.ne_of_lt (Nat.lt_of_lt_of_le (h.low p z) h.na)
    · exact (h.npv p z).2
  refine ⟨J.pins_of fun p hp => ?_, h.low, h.loc, h.cel, h.na, h.npv, ?_, h.tup, h.sub⟩
  · rcases List.mem_append.mp hp with z | z
    · exact J.pin p (List.mem_append_right _ (List.mem_append_left _ z))
    · rcases List.mem_cons.mp z with z | z
      · rw [z]
        exact ⟨e, q2, q3, q4, hd⟩
      · exact J.pin p (List.mem_append_right _ (List.mem_append_right _ z))
  · exact Nat.le_trans h.na (Nat.le_of_lt (Heap.lt_size e))
end
end Er
end
section
set_option linter.all false
set_option maxRecDepth 100000
/-! F9b: the around of a builtin's code over a frame; asleep with other code than the context's. -/
namespace Gm
open PySem PySem.Spec PyProof.Rows L2 GenW Gp Er

theorem over_unit {A : Around} {c c' : Code} {fs : List Frame} {k : Result → Sem PySem.Fin} {g : Bool} {l kp : List Value} {p : Pos} (hw : c'.weight = 0) (hu : c'.cUnits = 1) :
    A.over c' (.ret k none g l c p kp :: fs) = (A.over c fs).in1 := by
  have e := over_loop (A := A) (c := c) (c' := .block [] default) (fs := fs) (k := k) (g := g) (l := l) (kp := kp) (p := p) rfl rfl
  rw [← e]
  have h1 : (Code.block [] default).weight = 0 := rfl
  have h2 : (Code.block [] default).cUnits = 0 := rfl
  unfold Around.over Around.in1
  rw [hw, hu, h1, h2, Code.envs_of_weight hw, Code.guards_of_weight hw, Code.envs_of_weight h1, Code.guards_of_weight h1]
  first
    | rfl
    | (simp; done)
theorem asleep_over {X : Cx} {n g : Nat} {s₀ s : Shared} {H0 H : Hp} {ip : List (Addr × Obj)} {σ : L2.St} {A : Around} {c : Code} {fs : List Frame} (G : GCx X n) (hb : X.base.objs.size ≤ n) (hfs : ∀ b ∈ frs X.outer, b < n) (I : L2.Inv (at_ X n s₀ H0) ip σ H s) {oL : Obj} (hL : s.heap.get? X.env.locals = some oL)
    {its : List Item} {k : Resume → Sem PySem.Fin} {l : List Value} {p : Pos}
    {gl : List Nat} (h : ∀ s' P1 Po, Woke X n A g (tupsOf H) ((X.env.locals, oL) :: ip) s s' → Td Po gl s' → SF n (tupsOf H) s' → GI X n P1 (tupsOf H) s' ip σ (frzW n P1 (tupsOf H) s'.heap) s' → GG X n A g its s' P1 (tupsOf H) Po c (k (.send .none)) fs s') :
    Asleep X n A g its (tupsOf H) ((X.env.locals, oL) :: ip) gl s (.suspended k l c p fs false) := by
  refine asleep_iff.mpr fun s' Po W td => ?_
  refine h s' _ Po W td ⟨tupsOf_tups, W.sz⟩ (woke (A := A) G I W.e0 W.sz hb hfs hL (W.pv (X.env.locals, oL) List.mem_cons_self) (fun p hp => W.pv p (List.mem_cons_of_mem _ hp)) ?_ fun p hp => ?_)
  · unfold Gp.addrs
    rw [List.map_cons]
    exact List.mem_cons_self
  · unfold Gp.addrs
    rw [List.map_cons]
    exact List.mem_cons_of_mem _ (List.mem_map_of_mem (f := Prod.fst) hp)
end Gm
end
section
set_option linter.all false
set_option maxRecDepth 100000
set_option maxHeartbeats 2000000
/-! F10: yield from over a generator, at the erased model. -/
namespace Gm
open PySem PySem.Spec PyProof.Rows L2 GenW Gp Er

abbrev TYen := L2.St → Hp → (List Item → Hp → Prop) → Prop
structure PYen (X : Cx) (k : Nat) (e : Expr) (ty : TYen) : Prop where
  run : ∀ (pins : List (Addr × Obj)) (s : Shared) (σ : L2.St) (H : Hp) (cont : List Item → Hp → Prop), L2.Inv X pins σ H s → ty σ H cont → wpAny (model X.prog X.w) X.A (eval e X.env)
    (fun u s' => ∃ H1 sc its, L2.Inv X pins σ H1 sc ∧ s.gens.size ≤ sc.gens.size ∧ s.heap.objs.size ≤ sc.heap.objs.size ∧ YMade X.prog X.w X.K X.mg X.base k X.stack H1 sc its u s' ∧ cont its H1) X.xe s
theorem like_fresh {G : Array GenState} {u s' : Shared} {g : Nat} {c : Code} (l : Like G u s') (h : u.gens[g]? = some (.fresh c)) : s'.gens[g]? = some (.fresh c) := by
  have h1 : (erS u).gens[g]? = some (.fresh c) := erS_get h
  rw [l.eq]
  exact Gp.rest_get_none (Gp.held_not l.on h1 fun _ _ _ _ _ _ => nofun) h1
theorem like_size {G : Array GenState} {u s' : Shared} (l : Like G u s') : s'.gens.size = u.gens.size := by
  rw [l.eq]
  show (Gp.restA _ (u.gens.map erG)).size = _
  rw [Gp.restA_size, Array.size_map]
def Mono (it : Item) : Prop := ∀ x Hg Hg', TSub Hg Hg' → it x Hg → it x Hg'
def yFrom (ty : TYen) : TY := fun D its σ H => ty σ H fun ri H1 => (∀ it ∈ ri, Mono it) ∧ ∃ rest, its = ri ++ rest ∧ ∀ H2, TSub H1 H2 → D.nx rest σ H2

section
variable {X : Cx} {n k : Nat} {e : Expr} {yp pos : Pos} {ty : TYen}
theorem ys_yieldFrom (hr : Room (k + 1) X.A) (he : ∀ s H, PYen (at_ X n s H) k e ty) (hi : interactive X.env = false := by rfl) : YS X n (.Expr (.YieldFrom e yp) pos) (yFrom ty) := by
  refine ⟨fun A gn ip its s₀ P0 Hg0 Po c fs K J gd lv s σ H D hlv G kk sf hz td hI hq => ?_⟩
  rw [exec_Expr X.env _ pos hi rfl]
  show GG X n A gn its s₀ P0 Hg0 Po c (.at pos fun _ => (er ((eval e X.env >>= fun v => (standAt yp >>= fun _ => yieldFrom X.env v)) >>= fun x => dropValue (.YieldFrom e yp) pos x)).wrap K J gd lv) fs s
  refine one_at ?_
  rw [er_bind, er_bind, Sem.bind_eq_wrap', Sem.bind_eq_wrap', Sem.wrap_wrap, Sem.wrap_wrap]
  refine one_wrap ?_
  rw [G.over]
  refine GenW.wpAny_gsz (n := gn + 1) hz ?_
  refine wpAny_mono (lift ((he s₀ (frzW n P0 Hg0 s₀.heap)).run _ { s with gens := blankA s.gens } σ H _ (Gp.Inv.gens hI (blankA_bare _)) hq)) (fun v s1 ⟨u1, l1, H1, sc, ri, I1, hscz, _, M, hmono, rs, hits, hnx⟩ hz1 => ?_) fun _ _ ⟨_, _, q⟩ => q.elim
  obtain ⟨a, g2, cc, go, pv, rfl, ha, hgo, isg, hnc, hgs, hgz, hgq, hsl, hos, hbr, hkp, hpv, wake⟩ := M
  obtain ⟨Xi, xo, hA⟩ := wake X.A.in1.in1 ⟨hr.hd, by have := hr.dp; show X.A.depth + 3 * k + 5 < _; omega, by have := hr.un; show X.A.units + 1 + 1 + 16 * k + 200 < _; omega⟩ G.gcx.frames
  rw [← l1.heap] at hgo
  have hkp1 : ∀ b o, sc.heap.get? b = some o → s1.heap.get? b = some o := fun b o e => by rw [l1.heap]; exact hkp b o e
  have hbr1 : AllBare s1.gens := l1.bare hI.bare hbr
  have hgs1 := like_fresh l1 hgs
  have J1 : L2.Inv (at_ X n s₀ (frzW n P0 Hg0 s₀.heap)) ip σ H1 s1 := I1.call' (ch := []) (l1.os.trans hos) (Un.kept hkp1) (I1.hok.kept hkp1) hbr1 fun b z => by cases z
  have h0 : Hand (at_ X n s₀ (frzW n P0 Hg0 s₀.heap)) ip sc.heap.objs.size a g2 go (tupsOf H1) pv σ H1 s1 := by
    refine ⟨J1.pins_of fun p hp => ?_, fun p hp => Heap.lt_size (I1.pin p hp).1, I1.lt, fun x c e => ?_, ha, fun p hp => ⟨(hpv p hp).1, (hpv p hp).2.1⟩, ?_, tupsOf_tups, fun b xs e => tupsOf_at.mp e⟩
    · rcases List.mem_append.mp hp with z | z
      · exact J1.pin p (List.mem_append_right _ z)
      · rcases List.mem_cons.mp z with z | z
        · rw [z]
          exact ⟨hgo, I1.hok.fresh ha, Nat.ne_of_gt (Nat.lt_of_lt_of_le I1.lt ha), I1.nofs ha, hnc⟩
        · obtain ⟨q1, q2, q3, q4⟩ := hpv p z
          exact ⟨by rw [l1.heap]; exact q3, I1.hok.fresh q1, Nat.ne_of_gt (Nat.lt_of_lt_of_le I1.lt q1), I1.nofs q1, q4⟩
    · obtain ⟨v, q⟩ := I1.cell x c e
      exact q.lt
    · exact Nat.le_trans ha (Nat.le_of_lt (Heap.lt_size hgo))
  obtain ⟨go0, nm, qn, ego, gocls, godat, goslots⟩ := isg _ hgo
  have : go0 = go := by rw [hgo] at ego; cases ego; rfl
  subst this
  refine onee_bind (wpAny_standAt ?_)
  unfold yieldFrom
  refine onee_bind (lift_same (a := .type "generator") (fun G => wpAny_typeOf (s := { s1 with gens := G }) ⟨_, hgo, gocls⟩ ⟨rfl, rfl⟩) ?_)
  rw [if_neg (show ¬ ((Value.type "generator" == Value.type "coroutine") = true) by decide)]
  refine onee_bind (ere_holding (lift_same (a := .ref a) (fun G => wpAny_pyIter_gen (s := { s1 with gens := G }) (isg _ hgo) ⟨rfl, rfl⟩) ?_))
  refine one_call fun p => ?_
  have ho : ∀ KK : Result → Sem PySem.Fin, A.over (.builtin "proto.yield_from" ⟨[.ref a, .bool false, .none], []⟩) (.ret KK none (gd false) (lv []) c p [] :: fs) = X.A.in1 := fun KK => (over_unit rfl rfl).trans (congrArg Around.in1 G.over)
  have hsp : ∀ KK : Result → Sem PySem.Fin, splitAtGen (.ret KK none (gd false) (lv []) c p [] :: fs) = none := fun KK => by
    show (splitAtGen fs).map _ = none
    rw [G.split]; rfl
  have hgu : ∀ KK : Result → Sem PySem.Fin, ((.ret KK none (gd false) (lv []) c p [] :: fs) : List Frame).any Frame.guarded = false := fun KK => by
    show (gd false || fs.any Frame.guarded) = false
    rw [G.gd, G.guard]; rfl
  have nle : n ≤ sc.heap.objs.size := by
    have := I1.lt
    have e : (at_ X n s₀ (frzW n P0 Hg0 s₀.heap)).env.locals = n := G.gcx.loc
    rw [e] at this
    exact Nat.le_of_lt this
  have nsz : ∀ (s₀ : Shared) (H : Hp), (at_ X n s₀ H).s_0.heap.objs.size ≤ sc.heap.objs.size := fun s₀ H => Nat.le_trans trunc_size nle
  have gng : gn < g2 := by
    have e1 : (blankA s.gens).size = s.gens.size := Array.size_map ..
    have e2 : (blankA s.gens).size ≤ sc.gens.size := hscz
    omega
  have gen_close : typeLookup (.type "generator") "close" = pure (some (.builtin "generator.close")) := by
    rw [typeLookup_type, builtinLookup_eq_fast]
    kernel_rfl
  have loop : ∀ (KK : Result → Sem PySem.Fin), KK (.ok (.ret .none)) = K .next → ∀ (ri : List Item) (s₀ : Shared) (P0 : List Addr) (Hg0 : Hp) (s : Shared) (H : Hp) (go : Obj) (Hg : Hp) (pv : List (Addr × Obj)) (gs : GenState) (sy : Shared) (Po : Addr → Prop) (gl : List Nat),
      (∀ it ∈ ri, Mono it) → SF n Hg0 s₀ → gn < s.gens.size → go.cls = .type "generator" → go.data = .fields #[.int g2 0, nm, qn] → (go.slots = #[] ∨ ∃ t, go.slots = #[some (.int 0 t)]) → Hand (at_ X n s₀ (frzW n P0 Hg0 s₀.heap)) ip sc.heap.objs.size a g2 go Hg pv σ H s →
      s.gens[g2]? = some gs → Asleep Xi sc.heap.objs.size X.A.in1.in1 g2 ri Hg pv gl sy gs → Td Po (g2 :: gl) s → (∀ (i : Nat) k l c p fs cl, g2 < i → sy.gens[i]? = some (GenState.suspended k l c p fs cl) → s.gens[i]? = some (GenState.suspended k l c p fs cl)) → TSub H1 H →
      GG X n A gn (ri ++ rs) s₀ P0 Hg0 Po (.builtin "proto.yield_from" ⟨[.ref a, .bool false, .none], []⟩) ((mm X.prog X.w).den (.builtin "proto.yield_from" ⟨[.ref a, .bool false, .none], []⟩)) (.ret KK none (gd false) (lv []) c p [] :: fs) s := by
    intro KK hKK ri
    induction ri with
    | nil =>
      intro s₀ P0 Hg0 s H go Hg pv gs sy Po gl hm sf hz hc hd0 hsl0 hd hgs hA td hgk ht
      have I2 := hd.inv
      have e0 := I2.env0
      have hgo2 : s.heap.get? a = some go := (I2.pin (a, go) (List.mem_append_right _ (List.mem_append_right _ List.mem_cons_self))).1
      have hgl : g2 < s.gens.size := (Array.getElem?_eq_some_iff.mp hgs).1
      have hW : Woke Xi sc.heap.objs.size X.A.in1.in1 g2 Hg pv sy (s.setGen g2 .running) := by
        refine ⟨?_, hd.sz, by rw [GenW.setGen_size]; exact hgl, fun p hp => (I2.pin p (List.mem_append_right _ (List.mem_append_right _ (List.mem_cons_of_mem _ hp)))).1, fun i k' l c' p' fs cl hi h => ?_⟩
        · rw [xo.prog, xo.w, xo.K, xo.mg, xo.base, xo.outer]
          exact ⟨e0.frames, e0.mod, fun b o e => ⟨(e0.bs b o e).1, none_sub hd.tup hd.sub (e0.bs b o e).2⟩, e0.bsz, e0.funs, fun b h => none_sub hd.tup hd.sub (e0.frf b h), hok_sub e0.hok hd.tup hd.sub, allBare_setGen e0.bare rfl⟩
        · show (s.gens.setIfInBounds g2 _)[i]? = _
          rw [Array.getElem?_setIfInBounds, if_neg fun z => by omega]
          exact hgk i k' l c' p' fs cl hi h
      have hgoes := asleep_iff.mp hA _ Po hW (td.set (fun i hi hn => (List.mem_cons.mp hi).resolve_left hn) fun _ m => absurd m no_mrk_run)
      have xp : Xi.prog = X.prog := xo.prog
      have xw : Xi.w = X.w := xo.w
      rw [xp, xw] at hgoes
      show GG X n A gn _ s₀ P0 Hg0 Po _ (er ((model X.prog X.w).den _)) _ s
      rw [L2.den_yf]
      unfold Builtin.«proto.yield_from»
      dsimp only
      refine onet_bind (wpAny_pure ?_)
      refine onet_bind (ere_attempt (ere_holding ?_))
      rw [if_neg Bool.false_ne_true, if_pos (show (Value.none == Value.none) = true from rfl)]
      rw [ho]
      refine ere_bind (wpAny_rule ?_)
      refine ere_bind ?_
      refine GenW.wpAny_gsz (n := gn + 1) hz ?_
      refine mm_next G.gcx.hd I2.nolimit hr.depth ⟨go, nm, qn, hgo2, hc, hd0, hsl0⟩ hgs hgoes (fun r s₁ hf => hf.1) (fun v s₁ gs' _ _ hv _ => hv.elim) fun r s₁ hf hsz e h' hx hk hz' => ?_
      obtain ⟨_, ⟨Hg', B⟩, tdn⟩ := hf
      have hd' := hd.after (s0 := s.setGen g2 .running) (s1 := s₁) (s2 := { s₁.setGen g2 .finished with heap := h' }) xp xw xo.outer (nsz _ _) rfl rfl B hk rfl (allBare_setGen B.bare rfl)
      obtain ⟨ea, eo, evs, rfl, hoa, hcls, hdat, h5⟩ := hx
      dsimp only
      refine onet_bind (lift_same (a := true) (fun G => wpAny_endsTurn (s := { s₁.setGen g2 .finished with heap := h', gens := G }) hoa hcls ⟨rfl, rfl⟩) ?_)
      rw [if_pos rfl]
      first
        | refine onet_bind (wpAny_rule ?_)
        | (rw [if_neg Bool.false_ne_true]; refine onet_bind (wpAny_rule ?_))
        | (rw [if_neg Bool.false_ne_true]; refine onet_bind (wpAny_pure ?_); refine onet_bind (wpAny_rule ?_))
      refine onet_bind (lift_same (a := .none) (fun G => wpAny_field (s := { s₁.setGen g2 .finished with heap := h', gens := G }) hoa hdat h5 ⟨rfl, rfl⟩) ?_)
      refine one_leaf (.ok (.ret .none)) ?_
      rw [hKK]
      exact kk.ok rs s₀ P0 Hg0 Po _ .next sf hz' ((tdn.set (g := g2) (x := .finished) (fun _ z _ => z) fun _ m => absurd m no_mrk_fin).gens rfl) ⟨σ, _, hd'.pins0, hnx _ fun b xs e => mrg_l (ht b xs e)⟩
    | cons it r ih =>
      intro s₀ P0 Hg0 s H go Hg pv gs sy Po gl hm sf hz hc hd0 hsl0 hd hgs hA td hgk ht
      have I2 := hd.inv
      have e0 := I2.env0
      have hgo2 : s.heap.get? a = some go := (I2.pin (a, go) (List.mem_append_right _ (List.mem_append_right _ List.mem_cons_self))).1
      have hgl : g2 < s.gens.size := (Array.getElem?_eq_some_iff.mp hgs).1
      have hW : Woke Xi sc.heap.objs.size X.A.in1.in1 g2 Hg pv sy (s.setGen g2 .running) := by
        refine ⟨?_, hd.sz, by rw [GenW.setGen_size]; exact hgl, fun p hp => (I2.pin p (List.mem_append_right _ (List.mem_append_right _ (List.mem_cons_of_mem _ hp)))).1, fun i k' l c' p' fs cl hi h => ?_⟩
        · rw [xo.prog, xo.w, xo.K, xo.mg, xo.base, xo.outer]
          exact ⟨e0.frames, e0.mod, fun b o e => ⟨(e0.bs b o e).1, none_sub hd.tup hd.sub (e0.bs b o e).2⟩, e0.bsz, e0.funs, fun b h => none_sub hd.tup hd.sub (e0.frf b h), hok_sub e0.hok hd.tup hd.sub, allBare_setGen e0.bare rfl⟩
        · show (s.gens.setIfInBounds g2 _)[i]? = _
          rw [Array.getElem?_setIfInBounds, if_neg fun z => by omega]
          exact hgk i k' l c' p' fs cl hi h
      have hgoes := asleep_iff.mp hA _ Po hW (td.set (fun i hi hn => (List.mem_cons.mp hi).resolve_left hn) fun _ m => absurd m no_mrk_run)
      have xp : Xi.prog = X.prog := xo.prog
      have xw : Xi.w = X.w := xo.w
      rw [xp, xw] at hgoes
      show GG X n A gn _ s₀ P0 Hg0 Po _ (er ((model X.prog X.w).den _)) _ s
      rw [L2.den_yf]
      unfold Builtin.«proto.yield_from»
      dsimp only
      refine onet_bind (wpAny_pure ?_)
      refine onet_bind (ere_attempt (ere_holding ?_))
      rw [if_neg Bool.false_ne_true, if_pos (show (Value.none == Value.none) = true from rfl)]
      rw [ho]
      refine ere_bind (wpAny_rule ?_)
      refine ere_bind ?_
      refine GenW.wpAny_gsz (n := gn + 1) hz ?_
      refine mm_next G.gcx.hd I2.nolimit hr.depth ⟨go, nm, qn, hgo2, hc, hd0, hsl0⟩ hgs hgoes (fun r s₁ hf => hf.elim) (fun v s₁ gs' hbare hsu hv hsz hz' => ?_) fun r s₁ hf => hf.elim
      obtain ⟨x, Hg', pv', gl', rv, hit, B, hA', tdn, hcov, hown⟩ := hv
      have hd' := hd.after (s0 := s.setGen g2 .running) (s1 := s₁) (s2 := s₁.setGen g2 gs') xp xw xo.outer (nsz _ _) rfl rfl B (fun b o e => e) rfl (allBare_setGen B.bare hbare)
      have hgo3 : (s₁.setGen g2 gs').heap.get? a = some go := (hd'.inv.pin (a, go) (List.mem_append_right _ (List.mem_append_right _ List.mem_cons_self))).1
      refine wpAny_pure ?_
      dsimp only
      refine onet_bind (lift_same (a := .type "generator") (fun G => wpAny_typeOf (s := { s₁.setGen g2 gs' with gens := G }) ⟨go, hgo3, hc⟩ ⟨rfl, rfl⟩) ?_)
      dsimp only
      first
        | (refine onet_bind (lift_same (a := some (.builtin "generator.close")) (fun G => wpAny_of_eq gen_close ⟨rfl, rfl⟩) ?_); refine onet_bind (wpAny_pure ?_))
        | refine onet_bind (lift_same (a := false) (fun G => wpAny_bind (wpAny_of_eq gen_close (wpAny_pure ⟨rfl, rfl⟩))) ?_)
      refine onet_bind ?_
      rw [ho]
      refine GenW.wpAny_gsz (n := gn + 1) hz' ?_
      refine wpAny_mono (lift_heap (Q := fun _ h' => h'.get? a = some (withSlot go 1) ∧ Heap.SameBut a (s₁.setGen g2 gs').heap h') (E := fun _ _ => False) (fun G => slept_on (s := { s₁.setGen g2 gs' with gens := G }) hgo3 hd0 hc hsl0 (fun h' e hs => ⟨h', rfl, e, hs⟩))) (fun _ s4 ⟨h4, e4, q1, q2⟩ hz4 => ?_) fun _ _ ⟨_, _, q⟩ => q.elim
      subst e4
      have ncell : ∀ m v, (withSlot go m).data ≠ .cell v := fun m v z => by
        have : (withSlot go m).data = go.data := rfl
        rw [this, hd0] at z; cases z
      have hd4 := hand_slot hd' (nsz _ _) q1 q2 (ncell 1)
      refine one_loud q1 hc hd0 (hsp KK) (hgu KK) fun p' => ?_
      have G2 := G.more (ip' := ip ++ (a, withSlot go 1) :: pv') fun p hp => by
        rcases List.mem_append.mp hp with z | z
        · exact G.ipn p z
        · rcases List.mem_cons.mp z with z | z
          · rw [z]; exact Nat.le_trans nle hd'.na
          · exact Nat.le_trans nle (hd'.npv p z).1
      obtain ⟨oL, hL, hpv2⟩ := priv_of G2 hd4.inv
      refine ⟨x, tupsOf (mrg H Hg'), (X.env.locals, oL) :: (ip ++ (a, withSlot go 1) :: pv'), g2 :: gl', rv, hm it List.mem_cons_self x Hg' _ (fun b xs e => tupsOf_at.mpr (hd'.sub b xs e)) hit, bnd_of sf.tup G.gcx.ex G.fsl hd4.inv hpv2, ?_, (tdn.set (g := g2) (x := gs') (fun _ z _ => List.mem_cons_of_mem _ z) fun _ _ => .inl List.mem_cons_self).gens rfl, ?_, fun it' m => ?_⟩
      rotate_left
      · intro i hi y it' e m
        have e : (s₁.gens.setIfInBounds g2 gs')[i]? = some y := e
        rw [Array.getElem?_setIfInBounds] at e
        have up : ∀ q ∈ pv', q ∈ (X.env.locals, oL) :: (ip ++ (a, withSlot go 1) :: pv') := fun q hq => List.mem_cons_of_mem _ (List.mem_append_right _ (List.mem_cons_of_mem _ hq))
        split at e
        · split at e
          · cases e
            obtain ⟨o, z1, z2⟩ := hown it' m
            exact ⟨o, up _ z1, z2⟩
          · cases e
        · rename_i hne
          obtain ⟨o, z1, z2⟩ := hcov i ((List.mem_cons.mp hi).resolve_left (Ne.symm hne)) y it' e m
          exact ⟨o, up _ z1, z2⟩
      · obtain ⟨_, _, _, _, _, _, e⟩ := m
        injection e with _ _ e1 _ _ _
        injection e1 with _ e2
        injection e2 with e3 _
        injection e3 with e4 _
        injection e4 with e5
        subst e5
        refine ⟨withSlot go 1, List.mem_cons_of_mem _ (List.mem_append_right _ List.mem_cons_self), ?_⟩
        unfold isG Obj.genNumber?
        rw [show (withSlot go 1).cls = .type "generator" from hc, show (withSlot go 1).data = .fields #[.int g2 0, nm, qn] from hd0]
        rfl
      refine asleep_over G.gcx G.base G.fsl hd4.inv hL fun s6 P1 Po6 W6 td6 sf6 I6 => ?_
      show GG X n A gn (r ++ rs) s6 P1 _ Po6 _ (er (Builtin.Generator.sleptOver (.ref a) false >>= fun _ => _)) _ s6
      have hgo6 : s6.heap.get? a = some (withSlot go 1) := (I6.pin (a, withSlot go 1) (List.mem_append_right _ (List.mem_append_right _ List.mem_cons_self))).1
      have hd6 : Hand (at_ X n s6 (frzW n P1 (tupsOf (mrg H Hg')) s6.heap)) ip sc.heap.objs.size a g2 (withSlot go 1) Hg' pv' σ (frzW n P1 (tupsOf (mrg H Hg')) s6.heap) s6 :=
        ⟨I6, hd'.low, hd'.loc, hd'.cel, hd'.na, hd'.npv, Nat.le_trans hd'.na (Nat.le_of_lt (Heap.lt_size hgo6)), hd'.tup, fun b xs e => frzW_tup (tupsOf_at.mpr (hd'.sub b xs e))⟩
      refine onet_bind ?_
      rw [ho]
      refine GenW.wpAny_gsz (n := gn + 1) W6.gz ?_
      refine wpAny_mono (lift_heap (Q := fun _ h' => h'.get? a = some (withSlot go 0) ∧ Heap.SameBut a s6.heap h') (E := fun _ _ => False) (fun G => slept_off (s := { s6 with gens := G }) hgo6 hd0 hc (fun h' e hs => ⟨h', rfl, e, hs⟩))) (fun _ s7 ⟨h7, e7, q3, q4⟩ hz7 => ?_) fun _ _ ⟨_, _, q⟩ => q.elim
      subst e7
      have hd7 := hand_slot hd6 (nsz _ _) q3 q4 (ncell 0)
      dsimp only
      refine onet_bind (wpAny_pure ?_)
      obtain ⟨k8, l8, c8, p8, fs8, cl8, hsu⟩ := hsu
      refine one_again (plainId_quiet plain_yf _) (ih s6 P1 _ _ _ (withSlot go 0) Hg' pv' gs' s₁ Po6 gl' (fun it' h => hm it' (List.mem_cons_of_mem _ h)) sf6 hz7 hc hd0 (.inr ⟨0, rfl⟩) hd7 ?_ hA' (td6.gens rfl) (fun i k' l' c' p' fs' cl' hi h => ?_) fun b xs e => ?_)
      · subst hsu
        refine W6.gens g2 _ _ _ _ _ _ gng ?_
        show (s₁.gens.setIfInBounds g2 _)[g2]? = _
        rw [Array.getElem?_setIfInBounds, if_pos rfl, if_pos (Nat.lt_of_lt_of_le hgl hsz)]
      · refine W6.gens i _ _ _ _ _ _ (by omega) ?_
        show (s₁.gens.setIfInBounds g2 _)[i]? = _
        rw [Array.getElem?_setIfInBounds, if_neg fun z => by omega]
        exact h
      · exact frzW_tup (tupsOf_at.mpr (mrg_l (ht b xs e)))
  rw [hits]
  exact loop _ rfl ri s₀ P0 Hg0 s1 H1 go0 (tupsOf H1) pv (.fresh cc) u1 Po [] hmono sf hz1 gocls godat (.inl goslots) h0 hgs1 hA ((td.like l1).mono fun _ z => by cases z) (fun i k' l' c' p' fs' cl' hi h => by
    exfalso
    rw [Array.getElem?_eq_none (by omega)] at h
    cases h) fun _ _ h => h
end
end Gm
end
section
set_option linter.all false
set_option maxRecDepth 100000
set_option maxHeartbeats 1000000
/-! M1: plain defs at the erased model: states with sleepers that delegate, exceptions in the air. -/
namespace Em
open PySem PySem.Spec PyProof.Rows L2 GenW Gp Er Gm

/-- the delegates there are: those of the callers, and the pinned ones -/
def PoG (Po : Addr → Prop) (GP : List (Addr × Obj)) : Addr → Prop := fun b => Po b ∨ ∃ o, (b, o) ∈ GP
structure Gs0 (Po : Addr → Prop) (GP : List (Addr × Obj)) (s : Shared) : Prop where
  all : ∀ p ∈ GP, isG p.2 = true
  td : Td (PoG Po GP) [] s
/-- the callers' delegates; the pinned ones are of f, or not below n -/
structure Dg where
  po : Addr → Prop
  n : Nat
  f : Addr → Prop
structure Gs (Z : Dg) (GP : List (Addr × Obj)) (s : Shared) : Prop where
  g0 : Gs0 Z.po GP s
  low : ∀ p ∈ GP, Z.f p.1 ∨ Z.n ≤ p.1
theorem Gs.all {Z : Dg} {GP : List (Addr × Obj)} {s : Shared} (g : Gs Z GP s) : ∀ p ∈ GP, isG p.2 = true := g.g0.all
theorem Gs.td {Z : Dg} {GP : List (Addr × Obj)} {s : Shared} (g : Gs Z GP s) : Td (PoG Z.po GP) [] s := g.g0.td
theorem Gs0.gens {Po : Addr → Prop} {GP : List (Addr × Obj)} {s s' : Shared} (g : Gs0 Po GP s) (h : s'.gens = s.gens) : Gs0 Po GP s' := ⟨g.all, g.td.gens h⟩
theorem Gs.like {Z : Dg} {GP : List (Addr × Obj)} {s u s' : Shared} (g : Gs Z GP s) (l : Like s.gens u s') : Gs Z GP s' := ⟨⟨g.all, g.td.like l⟩, g.low⟩
theorem Gs.gens {Z : Dg} {GP : List (Addr × Obj)} {s s' : Shared} (g : Gs Z GP s) (h : s'.gens = s.gens) : Gs Z GP s' := ⟨g.g0.gens h, g.low⟩

/-! ### the heap does not shrink -/
open Sem (wp) in
theorem runs_hsz {M : Model} {Γ : PySem.Ctx} {p : Pos} {t : Sem PySem.Fin} {fs : List Frame} {s s' : Shared} {e : End} (h : Runs M Γ p t fs s e s') : s.heap.objs.size ≤ s'.heap.objs.size := by
  induction h <;> (try simp only [Shared.setGen, Heap.size_push, Heap.size_update] at *) <;> omega
theorem wakes_hsz {M : Model} {Γ : PySem.Ctx} {p : Pos} {g : Nat} {r : Resume} {s s' : Shared} {res : GenResult} (h : Wakes M Γ p g r s res s') : s.heap.objs.size ≤ s'.heap.objs.size := by
  unfold Wakes at h
  split at h
  · exact h.elim
  · split at h
    · obtain ⟨e₁, s₁, hr, _, _, rfl⟩ := h
      have z := runs_hsz hr
      exact z
    · rw [h.2]; exact Nat.le_refl _
    · rw [h.2]; exact Nat.le_refl _
  · obtain ⟨e₁, s₁, hr, _, _, rfl⟩ := h
    have z := runs_hsz hr
    exact z
  · rw [h.2]; exact Nat.le_refl _
  · rw [h.2]; exact Nat.le_refl _
theorem wp_hsz {α : Type} (M : Model) (Γ : PySem.Ctx) (n : Nat) (t : Sem α) : ∀ (Q : α → Pos → Shared → Prop) (E : Value → Pos → Shared → Prop) (p : Pos) (s : Shared), n ≤ s.heap.objs.size → Sem.wp M Γ t Q E p s →
    Sem.wp M Γ t (fun a p' s' => n ≤ s'.heap.objs.size ∧ Q a p' s') (fun e p' s' => n ≤ s'.heap.objs.size ∧ E e p' s') p s := by
  induction t with
  | pure a => intro Q E p s hn h; exact ⟨hn, h⟩
  | raise e => intro Q E p s hn h; exact ⟨hn, h⟩
  | unsupported _ => intro Q E p s _ h; exact h
  | finish _ => intro Q E p s _ h; exact h
  | rule _ k ih => intro Q E p s hn h; exact ih () Q E p s hn h
  | «at» p' k ih => intro Q E p s hn h; exact ih () Q E p' s hn h
  | load a _ k ih => intro Q E p s hn h; obtain ⟨o, ho, h⟩ := h; exact ⟨o, ho, ih o Q E p s hn h⟩
  | update a _ f k ih => intro Q E p s hn h; exact ⟨h.1, ih () Q E p _ (by show n ≤ (s.heap.update a f).objs.size; rw [Heap.size_update]; exact hn) h.2⟩
  | loadIfAlive a k ih => intro Q E p s hn h; exact ih _ Q E p s hn h
  | point _ k ih => intro Q E p s hn h; exact ih () Q E p s hn h
  | register _ _ => intro Q E p s _ h; exact h
  | alloc o k ih => intro Q E p s hn h; exact ih _ Q E p _ (by show n ≤ (s.heap.push o).objs.size; rw [Heap.size_push]; omega) h
  | fresh k ih => intro Q E p s hn h; exact ih _ Q E p _ hn h
  | ask k ih => intro Q E p s hn h; exact ih _ Q E p s hn h
  | choose src m k ih => intro Q E p s hn h; exact ⟨h.1, ih _ Q E p _ hn h.2⟩
  | os q _ k ih => intro Q E p s hn h; exact ih _ Q E p _ hn h
  | call c hd _ _ k ih => intro Q E p s hn h; obtain ⟨r, s', hr, h⟩ := h; exact ⟨r, s', hr, ih r Q E p s' (Nat.le_trans hn (runs_hsz hr)) h⟩
  | handled own k ih => intro Q E p s hn h; exact ih _ Q E p s hn h
  | genState g k ih => intro Q E p s hn h; obtain ⟨st, hs, h⟩ := h; exact ⟨st, hs, ih _ Q E p s hn h⟩
  | newGen c k ih => intro Q E p s hn h; exact ih _ Q E p _ hn h
  | resume g r _ k ih => intro Q E p s hn h; obtain ⟨res, s', hw, h⟩ := h; exact ⟨res, s', hw, ih res Q E p s' (Nat.le_trans hn (wakes_hsz hw)) h⟩
  | «yield» _ _ _ _ => intro Q E p s _ h; exact h
  | stack k ih => intro Q E p s hn h; exact ih _ Q E p s hn h
  | fork _ _ => intro Q E p s _ h; exact h
  | thread k ih => intro Q E p s hn h; exact ih _ Q E p s hn h
  | await _ _ _ _ _ => intro Q E p s _ h; exact h
theorem hsz {α : Type} {M : Model} {A : Around} {s : Shared} {t : Sem α} {Q : α → Shared → Prop} {E : Value → Shared → Prop} {n : Nat} (hn : n ≤ s.heap.objs.size) (h : wpAny M A t (fun a s' => n ≤ s'.heap.objs.size → Q a s') (fun e s' => n ≤ s'.heap.objs.size → E e s') s) : wpAny M A t Q E s :=
  wpAny_mono (fun Γ p hΓ => wp_hsz M Γ n t _ _ p s hn (h Γ p hΓ) : wpAny M A t (fun a s' => n ≤ s'.heap.objs.size ∧ (n ≤ s'.heap.objs.size → Q a s')) (fun e s' => n ≤ s'.heap.objs.size ∧ (n ≤ s'.heap.objs.size → E e s')) s) (fun _ _ x => x.2 x.1) fun _ _ x => x.2 x.1
theorem isG_fields {o : Obj} (h : isG o = true) : ∃ vs, o.data = .fields vs := by
  unfold isG Obj.genNumber? at h
  split at h
  · rename_i q; exact ⟨_, q⟩
  · rename_i q; exact ⟨_, q⟩
  · rename_i q; exact ⟨_, q⟩
  · cases h

/-- an exception in the air, these pinned -/
def XEp (X : Cx) (pins : List (Addr × Obj)) (W : WX) (u : Value) (s' : Shared) : Prop :=
  ∃ (a : Addr) (B : Heap) (sI : Shared) (σ : L2.St) (H : Hp) (cls : Value) (d : Option Addr), u = .ref a ∧ L2.Inv X pins σ H sI ∧ (∀ b o, sI.heap.get? b = some o → b ∉ frs X.stack → B.get? b = some o) ∧ sI.heap.UpToSlots s'.heap ∧
    Sky B X.stack a (Zc cls d) X.env.locals s'.heap ∧ H a = none ∧ s'.os = sI.os ∧ AllBare s'.gens ∧ W cls d σ H
def XE2 (X : Cx) (Po : Dg) (pins : List (Addr × Obj)) (W : WX) (u : Value) (s' : Shared) : Prop := ∃ GP, XEp X (pins ++ GP) W u s' ∧ Gs Po GP s'

section
variable {X : Cx} {Po : Dg} {pins GP : List (Addr × Obj)} {W W' : WX} {u : Value} {σ : L2.St} {H : Hp} {s s' : Shared}
theorem XEp.like {G : Array GenState} {t : Shared} (x : XEp X pins W u t) (l : Like G t s') (hb : AllBare G) : XEp X pins W u s' := by
  obtain ⟨a, B, sI, σ, H, cls, d, e, I, nb, up, sky, na, os, ag, w⟩ := x
  exact ⟨a, B, sI, σ, H, cls, d, e, I, nb, by rw [l.heap]; exact up, by rw [l.heap]; exact sky, na, l.os.trans os, l.bare hb ag, w⟩
theorem XEp.imp (x : XEp X pins W u s') (h : ∀ cls d σ H, W cls d σ H → W' cls d σ H) : XEp X pins W' u s' :=
  let ⟨a, B, sI, σ, H, cls, d, e, I, nb, up, sky, na, os, ag, w⟩ := x
  ⟨a, B, sI, σ, H, cls, d, e, I, nb, up, sky, na, os, ag, h _ _ _ _ w⟩
theorem XE2.imp (x : XE2 X Po pins W u s') (h : ∀ cls d σ H, W cls d σ H → W' cls d σ H) : XE2 X Po pins W' u s' := let ⟨GP, x, g⟩ := x; ⟨GP, x.imp h, g⟩
/-- from one of the library's, with its pins in the context -/
theorem XEp.of_tr {xe : Value → Shared → Prop} (ok : X.Ok) (x : XE (X.tr (X.pn ++ pins) xe) W u s') : XEp X pins W u s' := by
  obtain ⟨a, B, sI, pins', σ, H, cls, d, e, I, nb, up, sky, na, os, ag, w⟩ := x
  exact ⟨a, B, sI, σ, H, cls, d, e, I.ofTry ok, nb, up, sky, na, os, ag, w⟩
theorem XEp.to_tr {xe : Value → Shared → Prop} (x : XEp X pins W u s') : XE (X.tr (X.pn ++ pins) xe) W u s' := by
  obtain ⟨a, B, sI, σ, H, cls, d, e, I, nb, up, sky, na, os, ag, w⟩ := x
  exact ⟨a, B, sI, [], σ, H, cls, d, e, I.toTry xe, nb, up, sky, na, os, ag, w⟩
/-- fewer pins -/
theorem XEp.sub {pins' : List (Addr × Obj)} (x : XEp X pins W u s') (h : ∀ p ∈ pins', p ∈ pins) : XEp X pins' W u s' := by
  obtain ⟨a, B, sI, σ, H, cls, d, e, I, nb, up, sky, na, os, ag, w⟩ := x
  exact ⟨a, B, sI, σ, H, cls, d, e, I.pins_of fun p hp => I.pin p (List.mem_append_right _ (h p hp)), nb, up, sky, na, os, ag, w⟩

/-- it is noted by the frame, and comes back into it: still in the air -/
theorem XEp.noted {M : Model} (hs : X.stack = X.env :: X.outer) (hf : X.env.frame = some X.env.locals) {R : Shared → Prop} (hR : ∀ h', R { s' with heap := h' }) (x : XEp X pins W u s') :
    notedBy M X.A X.env (cameBackBy M X.A X.env fun e s => XEp X pins W e s ∧ R s) u s' := by
  obtain ⟨a, B, sI, σ, H, cls, d, rfl, I, nb, up, sky, na, os, ag, w⟩ := x
  have hfr : X.A.frames = some (X.env :: X.outer) := by rw [I.ok.frames, hs]
  have held : ∀ h1, HandSPX.HeldZ B (X.env :: X.outer) a (Zc cls d) X.env.locals h1 → s'.heap.UpToSlots h1 → cameBackBy M X.A X.env (fun e s => XEp X pins W e s ∧ R s) (.ref a) { s' with heap := h1 } := by
    intro h1 hh up1
    obtain ⟨k1, k2, k3, oe, vs, T, oT, ts, he, hz, hd, e1, hr⟩ := id hh
    unfold cameBackBy
    refine wpAny_bind (wpAny_field (s := { s' with heap := h1 }) he hd e1 ?_)
    rw [if_neg (show ¬ ((Value.ref T == Value.none) = true) from by simp)]
    have fin : wpAny M X.A (setFlight (.ref a) X.env.frame) (fun _ s'' => XEp X pins W (.ref a) s'' ∧ R s'') (fun e s => XEp X pins W e s ∧ R s) { s' with heap := h1 } := by
      rw [hf]
      refine HandSPX.setFlight_onZ hh fun h2 hh2 up2 => ?_
      exact ⟨⟨a, B, sI, σ, H, cls, d, rfl, I, nb, (up.trans up1).trans up2, .inr (.inr (by rw [hs]; exact hh2)), na, os, ag, w⟩, hR _⟩
    first
      | exact fin
      | exact wpAny_bind (wpAny_pure fin)
      | exact wpAny_bind fin
  rw [hs] at sky
  show wpAny M X.A (noteFrame (.ref a) X.env) (fun _ s'' => _) _ s'
  rcases sky with ⟨hB, hn, hl, oe, vs, he, hz, hd, h1⟩ | fl | hh
  · exact HandSPX.look_newZ Zc.steady hfr hl hf he hB hn hd h1 hz held
  · exact HandSPX.looks_onZ Zc.steady hfr hf fl held
  · exact HandSPX.againZ hf hh.2.2.2 (held s'.heap hh (Heap.UpToSlots.refl _))
theorem XE2.noted {M : Model} (hs : X.stack = X.env :: X.outer) (hf : X.env.frame = some X.env.locals) (x : XE2 X Po pins W u s') : notedBy M X.A X.env (cameBackBy M X.A X.env (XE2 X Po pins W)) u s' := by
  obtain ⟨GP, x, g⟩ := x
  have h := x.noted (M := M) hs hf (R := fun s => Gs Po GP s) fun h' => g.gens rfl
  refine wpAny_mono h (fun _ s1 h1 => wpAny_mono h1 (fun _ s2 ⟨a, b⟩ => ⟨GP, a, b⟩) fun e s2 ⟨a, b⟩ => ⟨GP, a, b⟩) fun e s1 h1 => wpAny_mono h1 (fun _ s2 ⟨a, b⟩ => ⟨GP, a, b⟩) fun e s2 ⟨a, b⟩ => ⟨GP, a, b⟩
end

/-! ### what a def promises here -/
/-- the delegates that a call leaves -/
def GpOk (outer : List Env) (n : Nat) (H' : Hp) (h' : Heap) (GP : List (Addr × Obj)) : Prop := ∀ p ∈ GP, h'.get? p.1 = some p.2 ∧ H' p.1 = none ∧ p.1 ∉ frs outer ∧ n ≤ p.1
def CE2 (outer : List Env) (P : Program) (w : World) (Po : Addr → Prop) (H : Hp) (s : Shared) (Q : VK) (u : Value) (s' : Shared) : Prop :=
  ∃ v H' GP, s'.os = s.os ∧ AllBare s'.gens ∧ Un (frs outer) [] H H' s.heap s'.heap ∧ HOk P w H' s'.heap ∧ RelV v u ∧ Q v H' ∧ GpOk outer s.heap.objs.size H' s'.heap GP ∧ Gs0 Po GP s'
def CX2 (P : Program) (w : World) (outer : List Env) (Po : Addr → Prop) (H : Hp) (s : Shared) (E : XK) (u : Value) (s' : Shared) : Prop :=
  ∃ (a : Addr) (B : Heap) (H' : Hp) (cls : Value) (d : Option Addr) (GP : List (Addr × Obj)), u = .ref a ∧ HandSPX.FlyingZ B outer a (Zc cls d) s'.heap ∧ HOk P w H' B ∧ UB (frs outer) H H' s.heap B s'.heap ∧ H' a = none ∧ s'.os = s.os ∧ AllBare s'.gens ∧ E cls d H' ∧
    GpOk outer s.heap.objs.size H' B GP ∧ Gs0 Po GP s'
def CR2 (outer : List Env) (P : Program) (w : World) (Po : Addr → Prop) (H : Hp) (s : Shared) (Q : VK) (E : XK) (r : Result) (s' : Shared) : Prop :=
  match r with
  | .ok (.ret u) => CE2 outer P w Po H s Q u s'
  | .ok _ => False
  | .error e => CX2 P w outer Po H s E e s'
structure FnOk2 (P : Program) (w : World) (K : PySem.W.Frag) (mg : Str → Option Value) (base : Heap) (k : Nat) (f : Addr) (fd : FuncData) (ps : List Str) (sp : Sp) : Prop where
  len : ∀ vs H Q E, sp vs H Q E → vs.length = ps.length
  run : ∀ (A : Around) (outer : List Env) (s : Shared) (H : Hp) (args : Args) (us : List Value) (vs : List V) (Q : VK) (E : XK) (Po : Addr → Prop), Room k A → Env0 P w K mg base A outer s H → BindsTo s fd args (ps.zip us) → Vals vs us → sp vs H Q E → Td Po [] s →
    codeAny (mm P w) A (.call (.ref f) args) (CR2 outer P w Po H s Q E) s
theorem FnOk2.mono {P : Program} {w : World} {K : PySem.W.Frag} {mg : Str → Option Value} {base : Heap} {j k : Nat} {f : Addr} {fd : FuncData} {ps : List Str} {sp : Sp} (F : FnOk2 P w K mg base j f fd ps sp) (h : j ≤ k) : FnOk2 P w K mg base k f fd ps sp :=
  ⟨F.len, fun A outer s H args us vs Q E Po hr => F.run A outer s H args us vs Q E Po (hr.mono h)⟩
theorem FnOk2.imp {P : Program} {w : World} {K : PySem.W.Frag} {mg : Str → Option Value} {base : Heap} {k : Nat} {f : Addr} {fd : FuncData} {ps : List Str} {sp sp' : Sp} (F : FnOk2 P w K mg base k f fd ps sp) (h : ∀ vs H Q E, sp' vs H Q E → sp vs H Q E) : FnOk2 P w K mg base k f fd ps sp' :=
  ⟨fun vs H Q E q => F.len vs H Q E (h _ _ _ _ q), fun A outer s H args us vs Q E Po hr he hb hv hs => F.run A outer s H args us vs Q E Po hr he hb hv (h _ _ _ _ hs)⟩

section
variable {X : Cx} {Po : Dg} {pins GP : List (Addr × Obj)} {W : WX} {E : XK} {u : Value} {σ : L2.St} {H H' : Hp} {s s' s0 : Shared}
theorem with_pins {GP2 : List (Addr × Obj)} (I : L2.Inv X pins σ H s) (g : ∀ p ∈ GP2, isG p.2 = true) (h : ∀ p ∈ GP2, s.heap.get? p.1 = some p.2 ∧ H p.1 = none ∧ p.1 ∉ frs X.stack) (hs : X.stack = X.env :: X.outer) (hf : X.env.frame = some X.env.locals) : L2.Inv X (pins ++ GP2) σ H s := by
  refine I.pins_of fun p hp => ?_
  rcases List.mem_append.mp hp with hp2 | hp2
  · exact I.pin p (List.mem_append_right _ hp2)
  · obtain ⟨a1, a2, a3⟩ := h p hp2
    rw [hs] at a3
    have a4 : p.1 ≠ X.env.locals ∧ p.1 ∉ X.fs := by
      constructor
      · intro z
        exact a3 (List.mem_filterMap.mpr ⟨X.env, List.mem_cons_self, by rw [hf, z]⟩)
      · intro z
        obtain ⟨e, he, q⟩ := List.mem_filterMap.mp z
        exact a3 (List.mem_filterMap.mpr ⟨e, List.mem_cons_of_mem _ he, q⟩)
    obtain ⟨vs, hd⟩ := isG_fields (g p hp2)
    exact ⟨a1, a2, a4.1, a4.2, fun v z => by rw [hd] at z; cases z⟩
theorem po_join {Po : Dg} {GP GP2 : List (Addr × Obj)} {s s0 : Shared} (h1 : Gs Po GP s0) (g : Gs0 (PoG Po.po GP) GP2 s) (hl : ∀ p ∈ GP2, Po.n ≤ p.1) : Gs Po (GP ++ GP2) s :=
  ⟨⟨fun p hp => (List.mem_append.mp hp).elim (h1.all p) (g.all p), fun i x it e m => (g.td i x it e m).imp id fun z => by
    rcases z with (z | ⟨o, z⟩) | ⟨o, z⟩
    · exact .inl z
    · exact .inr ⟨o, List.mem_append_left _ z⟩
    · exact .inr ⟨o, List.mem_append_right _ z⟩⟩, fun p hp => (List.mem_append.mp hp).elim (h1.low p) fun z => .inr (hl p z)⟩
/-- behind a call -/
theorem after2 {Q : VK} (I : L2.Inv X (pins ++ GP) σ H s) (hs : X.stack = X.env :: X.outer) (hf : X.env.frame = some X.env.locals) (h1 : Gs Po GP s0) (hn : Po.n ≤ s.heap.objs.size) (h : CE2 X.stack X.prog X.w (PoG Po.po GP) H s Q u s') :
    ∃ GP', EP X (pins ++ GP') σ Q u s' ∧ Gs Po GP' s' := by
  obtain ⟨v, H', GP2, os, bare, un, hok, r, q, gp, g⟩ := h
  obtain ⟨v2, H2, J, r2, q2, e2⟩ := I.after (Q := fun v1 H1 => Q v1 H1 ∧ H1 = H') ⟨v, H', os, bare, un, hok, r, q, rfl⟩
  subst e2
  refine ⟨GP ++ GP2, ⟨v2, H2, ?_, r2, q2⟩, po_join h1 g fun p hp => Nat.le_trans hn (gp p hp).2.2.2⟩
  rw [← List.append_assoc]
  exact with_pins J g.all (fun p hp => ⟨(gp p hp).1, (gp p hp).2.1, (gp p hp).2.2.1⟩) hs hf
/-- a call's exception is in our air -/
theorem air2 (I : L2.Inv X (pins ++ GP) σ H s) (hs : X.stack = X.env :: X.outer) (hf : X.env.frame = some X.env.locals) (h1 : Gs Po GP s0) (hn : Po.n ≤ s.heap.objs.size) (hW : ∀ cls d H', E cls d H' → W cls d σ H') (c : CX2 X.prog X.w X.stack (PoG Po.po GP) H s E u s') : XE2 X Po pins W u s' := by
  obtain ⟨a, B, H', cls, d, GP2, rfl, fl, hok, ub, na, os, ag, hE, gp, g⟩ := c
  obtain ⟨G, g1, g2⟩ := restrict s'.heap fun b => (B.get? b).isSome || decide (b ∈ frs X.stack)
  have st : B.StaysIn s'.heap := fl.1
  have inB : ∀ b o, B.get? b = some o → G.get? b = some o := fun b o e => (g1 b (by simp [e])).trans (st b o e)
  have inF : ∀ b, b ∈ frs X.stack → G.get? b = s'.heap.get? b := fun b hb => g1 b (by simp [hb])
  have outG : ∀ b o, G.get? b = some o → s'.heap.get? b = some o ∧ ((∃ o', B.get? b = some o') ∨ b ∈ frs X.stack) := fun b o e => by
    cases q : ((B.get? b).isSome || decide (b ∈ frs X.stack)) with
    | false => rw [g2 b q] at e; cases e
    | true =>
      rw [g1 b q] at e
      refine ⟨e, ?_⟩
      rcases Bool.or_eq_true_iff.mp q with z | z
      · exact .inl (Option.isSome_iff_exists.mp z)
      · exact .inr (of_decide_eq_true z)
  have J : L2.Inv X (pins ++ GP) σ H' { s with heap := G, gens := s'.gens, drawn := s'.drawn, toks := s'.toks } := by
    refine I.call (ch := []) ⟨fun b o e n hb _ => inB b o (ub.keep b o e n hb), fun b o e n hb _ => ?_, fun b o e n _ => ub.free b o e n, fun b o e _ => ?_, ub.tups, ub.frzs, ub.tbls⟩ (hok.kept inB) ag (fun _ z => nomatch z)
    · obtain ⟨sl, q⟩ := ub.slot b o e hb
      exact ⟨sl, (inF b hb).trans q⟩
    · by_cases hb : b ∈ frs X.stack
      · obtain ⟨sl, q⟩ := ub.slot b o e hb
        exact ⟨_, (inF b hb).trans q⟩
      · obtain ⟨o', q⟩ := ub.there b o e hb
        exact ⟨o', inB b o' q⟩
  refine ⟨GP ++ GP2, ⟨a, B, { s with heap := G, gens := s'.gens, drawn := s'.drawn, toks := s'.toks }, σ, H', cls, d, rfl, ?_, fun b o e hb => ?_, Heap.UpToSlots.of_keeps fun b o e => (outG b o e).1, .inr (.inl fl), na, os, ag, hW _ _ _ hE⟩, po_join h1 g fun p hp => Nat.le_trans hn (gp p hp).2.2.2⟩
  · rw [← List.append_assoc]
    exact with_pins J g.all (fun p hp => ⟨inB _ _ (gp p hp).1, (gp p hp).2.1, (gp p hp).2.2.1⟩) hs hf
  · obtain ⟨e', h⟩ := outG b o e
    rcases h with ⟨o', q⟩ | h
    · have z := st b o' q
      rw [e'] at z; cases z
      exact q
    · exact absurd h hb
/-- it leaves the def -/
theorem leave2 {M : Model} {E₁ : Value → Shared → Prop} (hs : X.stack = X.env :: X.outer) (hf : X.env.frame = some X.env.locals) (hex : X.ex = []) (hn : Po.n = X.s_0.heap.objs.size) (hpf : ∀ b, ¬ Po.f b) (hW : ∀ cls d σ H, W cls d σ H → E cls d H) (x : XE2 X Po [] W u s') :
    wpAny M X.A (leaving X.env u) (fun _ s'' => CX2 X.prog X.w X.outer Po.po X.H_0 X.s_0 E u s'') E₁ s' := by
  obtain ⟨GP, ⟨a, B, sI, σ, H, cls, d, rfl, I, nb, up, sky, na, os, ag, w⟩, g⟩ := x
  have hfr : X.A.frames = some (X.env :: X.outer) := by rw [I.ok.frames, hs]
  have fresh : ∀ b o, X.s_0.heap.get? b = some o → b ∉ X.fs → b ∉ frs X.stack := fun b o e hb hm => by
    rcases List.mem_cons.mp (I.stkSub b hm) with z | z
    · have h1 := Heap.lt_size e
      rw [z] at h1
      exact absurd (Nat.lt_of_lt_of_le h1 I.ok.above) (Nat.lt_irrefl _)
    · exact hb z
  have noex : ∀ b, b ∉ X.ex := fun b hb => by rw [hex] at hb; cases hb
  have fin : ∀ h', HandSPX.FlyingZ B X.outer a (Zc cls d) h' → s'.heap.UpToSlots h' → CX2 X.prog X.w X.outer Po.po X.H_0 X.s_0 E (.ref a) { s' with heap := h' } := fun h' fl up' => by
    refine ⟨a, B, H, cls, d, GP, rfl, fl, I.inGround nb, ⟨fun b o e n hb => nb b o (I.base.keep b o e n hb (noex b)) (fresh b o e hb), fun b o e hb => ?_, fun b o e n => I.base.free b o e n (noex b), fun b o e hb => ?_, I.base.tups, I.base.frzs, I.base.tbls⟩,
      na, os.trans I.os, ag, hW _ _ _ _ w, fun p hp => ?_, g.g0.gens rfl⟩
    · obtain ⟨_, o₀, e₀, hnf⟩ := I.ok.funs.mem hb
      rw [e] at e₀; cases e₀
      obtain ⟨sl, e1⟩ := I.base.slot b o e (I.ok.frf b hb) hb (noex b)
      obtain ⟨sl2, e2⟩ := up b _ e1 hnf
      obtain ⟨sl3, e3⟩ := up' b _ e2 hnf
      exact ⟨sl3, e3⟩
    · obtain ⟨o', e1⟩ := I.base.there b o e (noex b)
      exact ⟨o', nb b o' e1 (fresh b o e hb)⟩
    · obtain ⟨b1, b2, b3, b4, b5⟩ := I.pin p (List.mem_append_right _ (by rw [List.nil_append]; exact hp))
      refine ⟨nb _ _ b1 fun hm => ?_, b2, b4, by rw [← hn]; exact (g.low p hp).resolve_left (hpf _)⟩
      rcases List.mem_cons.mp (I.stkSub p.1 hm) with z | z
      · exact b3 z
      · exact b4 z
  rw [hs] at sky
  rcases sky with ⟨hB, hn, hl, oe, vs, he, hz, hd, h1⟩ | fl | hd
  · exact HandSPX.leaving_firstZ Zc.steady hfr hl hf he hB hn hd h1 hz fin
  · exact HandSPX.leaves_onZ Zc.steady hfr hf fl fin
  · exact HandSPX.leaves_heldZ hf hd fin
end
end Em
end
section
set_option linter.all false
set_option maxRecDepth 100000
set_option maxHeartbeats 1000000
/-! M2: judgements of plain code at the erased model; calls of defs and classes; a def by its body. -/
namespace Em
open PySem PySem.Spec PyProof.Rows L2 GenW Gp Er Gm

def EP2 (X : Cx) (Po : Dg) (pins : List (Addr × Obj)) (σ : L2.St) (Q : VK) (u : Value) (s' : Shared) : Prop := ∃ GP, EP X (pins ++ GP) σ Q u s' ∧ Gs Po GP s'
def AP2 (X : Cx) (Po : Dg) (pins : List (Addr × Obj)) (σ : L2.St) (Q : List V → Hp → Prop) (us : List Value) (s' : Shared) : Prop := ∃ GP, AP X (pins ++ GP) σ Q us s' ∧ Gs Po GP s'
def SP2 (X : Cx) (Po : Dg) (pins : List (Addr × Obj)) (D : Ends) (f : Flow) (s' : Shared) : Prop := ∃ GP, SP X (pins ++ GP) D f s' ∧ Gs Po GP s'
structure PE2 (X : Cx) (Po : Dg) (W : WX) (e : Expr) (t : TE) : Prop where
  run : ∀ (pins GP : List (Addr × Obj)) (s : Shared) (σ : L2.St) (H : Hp) (Q : VK), L2.Inv X (pins ++ GP) σ H s → Gs Po GP s → Po.n ≤ s.heap.objs.size → t σ H Q → wpAny (mm X.prog X.w) X.A (eval e X.env) (EP2 X Po pins σ Q) (XE2 X Po pins W) s
structure PA2 (X : Cx) (Po : Dg) (W : WX) (es : List Expr) (t : TA) : Prop where
  run : ∀ (pos : Pos) (pins GP : List (Addr × Obj)) (s : Shared) (σ : L2.St) (H : Hp) (Q : List V → Hp → Prop), L2.Inv X (pins ++ GP) σ H s → Gs Po GP s → Po.n ≤ s.heap.objs.size → t σ H Q →
    wpAny (mm X.prog X.w) X.A (spliced (backTo pos (starEach es X.env))) (AP2 X Po pins σ Q) (XE2 X Po pins W) s
structure PS2 (X : Cx) (Po : Dg) (W : WX) (st : Stmt) (t : TS) : Prop where
  run : ∀ (pins GP : List (Addr × Obj)) (s : Shared) (σ : L2.St) (H : Hp) (D : Ends), L2.Inv X (pins ++ GP) σ H s → Gs Po GP s → Po.n ≤ s.heap.objs.size → t D σ H → wpAny (mm X.prog X.w) X.A (exec st X.env) (SP2 X Po pins D) (XE2 X Po pins W) s
structure PSs2 (X : Cx) (Po : Dg) (W : WX) (st : List Stmt) (t : TS) : Prop where
  run : ∀ (pins GP : List (Addr × Obj)) (s : Shared) (σ : L2.St) (H : Hp) (D : Ends), L2.Inv X (pins ++ GP) σ H s → Gs Po GP s → Po.n ≤ s.heap.objs.size → t D σ H → wpAny (mm X.prog X.w) X.A (execs st X.env) (SP2 X Po pins D) (XE2 X Po pins W) s

/-! ### from the library's judgements -/
abbrev noX : Value → Shared → Prop := fun _ _ => False
theorem liftw {X : Cx} {ps : List (Addr × Obj)} {σ : L2.St} {H : Hp} {s : Shared} {α : Type} {A : Around} {t : Sem α} {Q : α → Shared → Prop} {E : Value → Shared → Prop} (I : L2.Inv X ps σ H s) (h : ∀ s, L2.Inv X ps σ H s → wpAny (model X.prog X.w) A t Q E s) :
    wpAny (mm X.prog X.w) A t (fun a s' => ∃ u, Like s.gens u s' ∧ Q a u) (fun e s' => ∃ u, Like s.gens u s' ∧ E e u) s := unere (lift_inv I h)
theorem liftt {X : Cx} {pins : List (Addr × Obj)} {σ : L2.St} {H : Hp} {s : Shared} {α : Type} {A : Around} {t : Sem α} {Q : α → Shared → Prop} {E : Value → Shared → Prop} (xe : Value → Shared → Prop) (I : L2.Inv X pins σ H s)
    (h : ∀ s, L2.Inv (X.tr (X.pn ++ pins) xe) [] σ H s → wpAny (model X.prog X.w) A t Q E s) : wpAny (mm X.prog X.w) A t (fun a s' => ∃ u, Like s.gens u s' ∧ Q a u) (fun e s' => ∃ u, Like s.gens u s' ∧ E e u) s := liftw (X := X.tr (X.pn ++ pins) xe) (I.toTry xe) h
section
variable {X : Cx} {Po : Dg} {W W' : WX} {e : Expr} {es : List Expr} {st : Stmt} {sts : List Stmt}
theorem of_ep {pins : List (Addr × Obj)} {σ : L2.St} {Q : VK} {u : Value} {G : Array GenState} {t s' : Shared} {xe : Value → Shared → Prop} (ok : X.Ok) (l : Like G t s') (hb : AllBare G) (h : EP (X.tr (X.pn ++ pins) xe) [] σ Q u t) : EP X pins σ Q u s' := by
  obtain ⟨v, H', I, r, q⟩ := h
  exact ⟨v, H', (l.inv hb I).ofTry ok, r, q⟩
theorem of_ap {pins : List (Addr × Obj)} {σ : L2.St} {Q : List V → Hp → Prop} {u : List Value} {G : Array GenState} {t s' : Shared} {xe : Value → Shared → Prop} (ok : X.Ok) (l : Like G t s') (hb : AllBare G) (h : AP (X.tr (X.pn ++ pins) xe) [] σ Q u t) : AP X pins σ Q u s' := by
  obtain ⟨v, H', I, r, q⟩ := h
  exact ⟨v, H', (l.inv hb I).ofTry ok, r, q⟩
theorem of_sp {pins : List (Addr × Obj)} {D : Ends} {f : Flow} {G : Array GenState} {t s' : Shared} {xe : Value → Shared → Prop} (ok : X.Ok) (l : Like G t s') (hb : AllBare G) (h : SP (X.tr (X.pn ++ pins) xe) [] D f t) : SP X pins D f s' := by
  have h := sp_like l hb h
  cases f with
  | next => obtain ⟨σ, H, I, q⟩ := h; exact ⟨σ, H, I.ofTry ok, q⟩
  | brk => obtain ⟨σ, H, I, q⟩ := h; exact ⟨σ, H, I.ofTry ok, q⟩
  | cont => obtain ⟨σ, H, I, q⟩ := h; exact ⟨σ, H, I.ofTry ok, q⟩
  | ret u => obtain ⟨v, σ, H, I, r, q⟩ := h; exact ⟨v, σ, H, I.ofTry ok, r, q⟩
theorem pe2_of {t : TE} (h : ∀ pn, PE (X.tr pn noX) e t) : PE2 X Po W e t :=
  ⟨fun pins GP s σ H Q I g hn hq => wpAny_mono (liftt noX I fun s J => (h _).run [] s σ H Q J hq) (fun u s' ⟨v, l, x⟩ => ⟨GP, of_ep I.ok l I.bare x, g.like l⟩) fun _ _ ⟨_, _, x⟩ => x.elim⟩
theorem pa2_of {t : TA} (h : ∀ pn, PA (X.tr pn noX) es t) : PA2 X Po W es t :=
  ⟨fun pos pins GP s σ H Q I g hn hq => wpAny_mono (liftt noX I fun s J => (h _).run pos [] s σ H Q J hq) (fun u s' ⟨v, l, x⟩ => ⟨GP, of_ap I.ok l I.bare x, g.like l⟩) fun _ _ ⟨_, _, x⟩ => x.elim⟩
theorem ps2_of {t : TS} (h : ∀ pn, PS (X.tr pn noX) st t) : PS2 X Po W st t :=
  ⟨fun pins GP s σ H D I g hn hq => wpAny_mono (liftt noX I fun s J => (h _).run [] s σ H D J hq) (fun u s' ⟨v, l, x⟩ => ⟨GP, of_sp I.ok l I.bare x, g.like l⟩) fun _ _ ⟨_, _, x⟩ => x.elim⟩
theorem pss2_of {t : TS} (h : ∀ pn, PSs (X.tr pn noX) sts t) : PSs2 X Po W sts t :=
  ⟨fun pins GP s σ H D I g hn hq => wpAny_mono (liftt noX I fun s J => (h _).run [] s σ H D J hq) (fun u s' ⟨v, l, x⟩ => ⟨GP, of_sp I.ok l I.bare x, g.like l⟩) fun _ _ ⟨_, _, x⟩ => x.elim⟩
/-- .. of code that raises -/
theorem ps2_raise {t : TS} (h : ∀ pn xe, Takes (X.tr pn xe) W → PS (X.tr pn xe) st t) : PS2 X Po W st t := by
  refine ⟨fun pins GP s σ H D I g hn hq => ?_⟩
  have tk : Takes (X.tr (X.pn ++ (pins ++ GP)) fun u s' => XEp X (pins ++ GP) W u s') W := fun u s' x => XEp.of_tr I.ok x
  exact wpAny_mono (liftt _ I fun s J => (h _ _ tk).run [] s σ H D J hq) (fun u s' ⟨v, l, x⟩ => ⟨GP, of_sp I.ok l I.bare x, g.like l⟩) fun u s' ⟨v, l, x⟩ => ⟨GP, XEp.like x l I.bare, g.like l⟩
theorem pss2_raise {t : TS} (h : ∀ pn xe, Takes (X.tr pn xe) W → PSs (X.tr pn xe) sts t) : PSs2 X Po W sts t := by
  refine ⟨fun pins GP s σ H D I g hn hq => ?_⟩
  have tk : Takes (X.tr (X.pn ++ (pins ++ GP)) fun u s' => XEp X (pins ++ GP) W u s') W := fun u s' x => XEp.of_tr I.ok x
  exact wpAny_mono (liftt _ I fun s J => (h _ _ tk).run [] s σ H D J hq) (fun u s' ⟨v, l, x⟩ => ⟨GP, of_sp I.ok l I.bare x, g.like l⟩) fun u s' ⟨v, l, x⟩ => ⟨GP, XEp.like x l I.bare, g.like l⟩
theorem PS2.imp {t : TS} (h : PS2 X Po W st t) (hW : ∀ c d σ H, W c d σ H → W' c d σ H) : PS2 X Po W' st t := ⟨fun pins GP s σ H D I g hn hq => wpAny_mono (h.run pins GP s σ H D I g hn hq) (fun _ _ x => x) fun _ _ x => x.imp hW⟩
theorem PSs2.imp {t : TS} (h : PSs2 X Po W sts t) (hW : ∀ c d σ H, W c d σ H → W' c d σ H) : PSs2 X Po W' sts t := ⟨fun pins GP s σ H D I g hn hq => wpAny_mono (h.run pins GP s σ H D I g hn hq) (fun _ _ x => x) fun _ _ x => x.imp hW⟩

/-! ### statements in a row, tests -/
theorem pss2_nil : PSs2 X Po W [] tNext := pss2_of fun _ => pss_nil
theorem pss2_cons {rest : List Stmt} {t u : TS} (h1 : PS2 X Po W st t) (h2 : PSs2 X Po W rest u) : PSs2 X Po W (st :: rest) (tSeq t u) := by
  refine ⟨fun pins GP s σ H D I g hn h => wpAny_execs_cons (hsz hn (wpAny_mono (h1.run pins GP s σ H { D with nx := u D } I g hn h) (fun f s1 q hn1 => ?_) fun _ _ x _ => x))⟩
  obtain ⟨GP1, q, g1⟩ := q
  cases f with
  | next =>
    obtain ⟨σ', H', I', q⟩ := q
    exact h2.run pins GP1 s1 σ' H' D I' g1 hn1 q
  | ret v => exact ⟨GP1, q, g1⟩
  | brk => exact ⟨GP1, q, g1⟩
  | cont => exact ⟨GP1, q, g1⟩
theorem pss2_one {t : TS} (h1 : PS2 X Po W st t) : PSs2 X Po W [st] t := by
  refine ⟨fun pins GP s σ H D I g hn h => wpAny_execs_cons (thn (h1.run pins GP s σ H D I g hn h) fun f s1 q => ?_)⟩
  obtain ⟨GP1, q, g1⟩ := q
  cases f with
  | next => exact wpAny_execs_nil ⟨GP1, q, g1⟩
  | ret v => exact ⟨GP1, q, g1⟩
  | brk => exact ⟨GP1, q, g1⟩
  | cont => exact ⟨GP1, q, g1⟩
theorem ps2_if {c : Expr} {a b : List Stmt} {tc : TT} {t u : TS} {pos : Pos} (hc : ∀ pn, PT (X.tr pn noX) c tc) (ha : PSs2 X Po W a t) (hb : PSs2 X Po W b u) : PS2 X Po W (.If c a b pos) (tIfS tc t u) := by
  refine ⟨fun pins GP s σ H D I g hn h => wpAny_If (hsz hn (wpAny_mono (liftt noX I fun s J => (hc _).run [] s σ H _ J h) (fun d s1 ⟨v, l, H1, I1, q1⟩ hn1 => ?_) fun _ _ ⟨_, _, x⟩ => x.elim))⟩
  have I2 : L2.Inv X (pins ++ GP) σ H1 s1 := (l.inv I.bare I1).ofTry I.ok
  cases d with
  | true => exact ha.run pins GP s1 σ H1 D I2 (g.like l) hn1 q1
  | false => exact hb.run pins GP s1 σ H1 D I2 (g.like l) hn1 q1
theorem ps2_ret {te : TE} {pos : Pos} (he : PE2 X Po W e te) : PS2 X Po W (.Return (some e) pos) (tRet te) :=
  ⟨fun pins GP s σ H D I g hn h => wpAny_Return_some (thn (he.run pins GP s σ H _ I g hn h) fun v s1 ⟨GP1, ⟨x, H1, I1, r1, q1⟩, g1⟩ => ⟨GP1, ⟨x, σ, H1, I1, r1, q1⟩, g1⟩)⟩
/-- x = e -/
theorem ps2_set {i : Nat} {x : Str} {te : TE} {pos pos' : Pos} (hN : X.N.Nodup) (hi : X.N[i]? = some x) (hx : Loc X.env.scope x) (he : PE2 X Po W e te) (hs : swapsWith e (some (.Name x pos')) pos.line X.env = pure false := by rfl)
    (hf : X.fn x = true ∨ X.env.scope.names.lookup x = some .local := by first | exact .inl rfl | exact .inr rfl | assumption) : PS2 X Po W (.Assign [.Name x pos'] e pos) (tAsg te (gName i)) := by
  refine ⟨fun pins GP s σ H D I g hn h => wpAny_Assign_Name (thn (he.run pins GP s σ H _ I g hn h) fun v s1 ⟨GP1, ⟨y, H1, I1, r1, q1⟩, g1⟩ => ?_) hs⟩
  refine wpAny_mono (liftw I1 fun s J => store_ok (E := noX) (Q := fun _ s' => L2.Inv X (pins ++ GP1) (σ.set i (some y)) H1 s') J hN hi hx r1 (fun s2 I2 => I2) hf) (fun _ s2 ⟨v, l, I2⟩ => ?_) fun _ _ ⟨_, _, x⟩ => x.elim
  exact ⟨GP1, ⟨_, H1, l.inv I1.bare I2, q1⟩, g1.like l⟩
/-- o.f = e -/
theorem ps2_fld {o value : Expr} {f : Str} {pos pos' : Pos} {ta tv : TE} (ha : ∀ pn, PE (X.tr pn noX) o ta) (hv : PE2 X Po W value tv) (hs : swapsWith value (some (.Attribute o f pos')) pos.line X.env = pure false) : PS2 X Po W (.Assign [.Attribute o f pos'] value pos) (sFld X.K ta tv f) := by
  refine ⟨fun pins GP s σ H D I g hn h => plainObj_wpAny_Assign_Attribute (thn (hv.run pins GP s σ H _ I g hn h) fun u s1 ⟨GP1, ⟨y, H1, I1, ry, q⟩, g1⟩ => ?_) hs⟩
  refine wpAny_mono (liftt noX I1 fun s J => (ha _).run [] s σ H1 _ J q) (fun ov s2 ⟨v, l, x, H2, I2, rx, a, C, dx, fs, ex, ea, c, n, le, q2⟩ => ?_) fun _ _ ⟨_, _, x⟩ => x.elim
  subst ex
  obtain rfl : ov = Value.ref a := rx
  have I2' : L2.Inv X (pins ++ GP1) σ H2 s2 := (l.inv I1.bare I2).ofTry I1.ok
  refine wpAny_mono (liftw I2' fun s J => setattr_ok (E := noX) (Q := fun _ s' => L2.Inv X (pins ++ GP1) σ (upd H2 a (.ins C dx (putF f y fs))) s') J ea c n le ry fun s3 I3 => I3) (fun _ s3 ⟨v, l3, I3⟩ => ?_) fun _ _ ⟨_, _, x⟩ => x.elim
  exact ⟨GP1, ⟨σ, _, l3.inv I2'.bare I3, q2⟩, (g1.like l).like l3⟩
end
end Em
end
section
set_option linter.all false
set_option maxRecDepth 100000
set_option maxHeartbeats 2000000
/-! M3: calls of defs and classes at the erased model; a def by its body. -/
namespace Em
open PySem PySem.Spec PyProof.Rows L2 GenW Gp Er Gm

section
variable {prog : Program} {w : World} {A : Around} {E : Value → Shared → Prop} {s : Shared} {R : Result → Shared → Prop}
theorem mm_tree {c : Code} (h : wpAny (mm prog w) (A.under c) ((model prog w).den c) (fun fin s' => match fin with | .done f => R (.ok f) s' | .again c' => c'.quiet = true ∧ codeAny (mm prog w) A c' R s') (fun e s' => R (.error e) s') s) : codeAny (mm prog w) A c R s :=
  codeAny_of_tree (ere h)
theorem mm_function {a : Addr} {args : Args} {o : Obj} {fd : FuncData} {body : List Stmt} (hroom : A.depth < recursionLimit) (ho : s.heap.get? a = some o) (hd : o.data = .func fd) (hco : fd.scope.isCoroutine = false) (hgen : fd.scope.isGenerator = false)
    (hbody : fd.body = .stmts body) (hcd : s.heap.CodeRec fd.code fd.qualname)
    (h : wpAny (mm prog w) A.in1 (bindArgs fd args) (fun binds s₁ => wpAny (mm prog w) A.in1 (newFunctionEnv fd.scope fd.globals fd.closure binds (fd.qualname ++ ".<locals>.") (some a) fd.code none fd.builtins)
      (fun env s₂ => s₂.heap.NoLimit ∧ codeAny (mm prog w) A (.func body env) R s₂) (fun e s' => R (.error e) s') s₁) (fun e s' => R (.error e) s') s) : codeAny (mm prog w) A (.call (.ref a) args) R s := by
  obtain ⟨c, oc, vs, tq, hc, hoc, hdc, hq⟩ := hcd
  rw [hc] at h
  refine mm_tree ?_
  show wpAny _ A.in1 (callAny (.ref a) args) _ _ s
  unfold callAny
  refine wpAny_bind (wpAny_load ho ?_)
  simp only [hd, callFunction, hco, hgen, hbody, hc]
  refine wpAny_bind (m := field (.ref c) 1) (wpAny_field hoc hdc hq (wpAny_bind (wpAny_pure (wpAny_bind (wpAny_mono h (fun binds s₁ h₁ => ?_) fun _ _ x => x)))))
  refine wpAny_bind (wpAny_mono h₁ (fun env s₂ h₂ => ?_) fun _ _ x => x)
  exact wpAny_bind (wpAny_enterFrame h₂.1 hroom (wpAny_pure ⟨rfl, h₂.2⟩))
theorem mm_func {body : List Stmt} {env : Env} (h : wpAny (mm prog w) (A.deeper env) (execs body env) (fun f s' => R (.ok (.ret (match f with | .ret v => v | _ => .none))) s')
      (fun e s' => wpAny (mm prog w) (A.deeper env) (leaving env e) (fun _ s'' => R (.error e) s'') (fun e' s'' => R (.error e') s'') s') s) : codeAny (mm prog w) A (.func body env) R s := by
  refine mm_tree ?_
  refine wpAny_bind (m := point) (wpAny_point (wpAny_bind (wpAny_onRaise (wpAny_mono h (fun f s' q => ?_) fun _ _ x => x))))
  cases f <;> exact wpAny_pure q
end

section
variable {X : Cx} {Po : Dg} {W : WX} {k : Nat} {f C : Addr} {fd : FuncData} {ps : List Str} {sp : Sp} {dvs : List V} {ds : List Value} {E : XK} {x m : Str} {p pos apos : Pos} {e o : Expr} {es : List Expr} {ta : TE} {t : TA}
/-- the frame stands on the stack, and no iterator was made ahead -/
structure OnStack (X : Cx) : Prop where
  stk : X.stack = X.env :: X.outer
  frm : X.env.frame = some X.env.locals
/-- the callee runs -/
theorem run_fn2 {pins GP : List (Addr × Obj)} {σ : L2.St} {H : Hp} {s : Shared} {Q : VK} {us : List Value} {vs : List V} (F : FnOk2 X.prog X.w X.K X.mg X.base k f fd ps sp) (hr : Room k X.A) (hb : Binds X.K fd ps ds) (hd : Vals dvs ds) (hs : OnStack X)
    (hW : ∀ cls d σ H, E cls d H → W cls d σ H) (I : L2.Inv X (pins ++ GP) σ H s) (g : Gs Po GP s) (hn : Po.n ≤ s.heap.objs.size) (r : Vals vs us) (h : sp (vs ++ dvs) H Q E) : wpAny (mm X.prog X.w) X.A (call (.ref f) us) (EP2 X Po pins σ Q) (XE2 X Po pins W) s := by
  have r2 : Vals (vs ++ dvs) (us ++ ds) := r.append hd
  have hl : (us ++ ds).length = ps.length := by rw [← r2.length]; exact F.len _ _ _ _ h
  refine wpAny_call (codeAny_mono (F.run X.A X.stack s H ⟨us, []⟩ (us ++ ds) (vs ++ dvs) Q E (PoG Po.po GP) hr I.env0 (hb s us I.kIn hl) r2 h g.td) fun r s' hq => ?_)
  cases r with
  | error e => exact air2 I hs.stk hs.frm g hn (fun c d H' => hW c d σ H') hq
  | ok fl =>
    cases fl with
    | ret u => exact after2 I hs.stk hs.frm g hn hq
    | next => exact False.elim hq
    | brk => exact False.elim hq
    | cont => exact False.elim hq
/-- a global's value -/
theorem glob2 {pins : List (Addr × Obj)} {σ : L2.St} {H : Hp} {s : Shared} {u : Value} {Q : Value → Shared → Prop} {E' : Value → Shared → Prop} (I : L2.Inv X pins σ H s) (hg : Gl X x) (hm : X.mg x = some u) (h : Q u s) (hd : (x == ("__debug__" : Str)) = false := by decide) :
    wpAny (mm X.prog X.w) X.A (eval (.Name x p) X.env) Q E' s := by
  refine wpAny_mono (unere (lift (M := model X.prog X.w) (Q := fun a s' => a = u ∧ s' = { s with gens := blankA s.gens }) (E := noX) (ld_glob (Gp.Inv.gens I (blankA_bare _)) hg hm ⟨rfl, rfl⟩ hd))) (fun a s' ⟨v, l, e1, e2⟩ => ?_) fun _ _ ⟨_, _, q⟩ => q.elim
  subst e1 e2
  rw [l.eq, rest_blank]
  exact h
/-- f(e, ..) -/
theorem pe2_call (F : FnOk2 X.prog X.w X.K X.mg X.base k f fd ps sp) (hr : Room k X.A) (hg : Gl X x) (hm : X.mg x = some (.ref f)) (hk : PySem.W.keepIn X.K (.ref f) = true) (hb : Binds X.K fd ps ds) (hd : Vals dvs ds) (hs : OnStack X) (hW : ∀ cls d σ H, E cls d H → W cls d σ H)
    (ha : PA2 X Po W (e :: es) t) (hdb : (x == ("__debug__" : Str)) = false := by decide) (he : starEach (e :: es) X.env = (false, eval e X.env) :: starEach es X.env := by rfl) (hpl : (backTo pos (starEach es X.env)).any (·.1) = false := by rfl) :
    PE2 X Po W (.Call (.Name x p) (e :: es) [] pos) (tCall sp dvs E t) := by
  refine ⟨fun pins GP s σ H Q I g hn h => wpAny_Call_Name_kw (glob2 I hg hm ?_ hdb)⟩
  refine PySem.W.callWith_K (h₀ := X.base) I.ok.mod.kin hk (hsz hn (wpAny_mono (ha.run pos pins GP s σ H _ I g hn h) (fun us s1 ⟨GP1, ⟨vs, H1, I1, r, q⟩, g1⟩ hn1 => ⟨I1.kIn, ?_⟩) fun _ _ x _ => x)) he hpl
  exact run_fn2 F hr hb hd hs hW I1 g1 hn1 r q
theorem pa2_nil : PA2 X Po W [] tNil := pa2_of fun _ => pa_nil
theorem pa2_cons {te : TE} {tr : TA} (ha : PE2 X Po W e te) (hr : PA2 X Po W es tr) (hs : starEach (e :: es) X.env = (false, eval e X.env) :: starEach es X.env := by rfl) : PA2 X Po W (e :: es) (tCons te tr) := by
  refine ⟨fun pos pins GP s σ H Q I g hn h => ?_⟩
  rw [hs]
  show wpAny _ _ (spliced ((false, eval e X.env) :: backTo pos (starEach es X.env))) _ _ s
  refine Calls.spliced_cons (hsz hn (wpAny_mono (ha.run pins GP s σ H _ I g hn h) (fun u s1 ⟨GP1, ⟨x, H1, I1, r1, q1⟩, g1⟩ hn1 => ?_) fun _ _ x _ => x))
  exact thn (hr.run pos pins GP1 s1 σ H1 _ I1 g1 hn1 q1) fun us s2 ⟨GP2, ⟨xs, H2, I2, r2, q2⟩, g2⟩ => ⟨GP2, ⟨x :: xs, H2, I2, .cons r1 r2, q2⟩, g2⟩
end

/-- a def, by its body -/
theorem fn2_of {P : Program} {w : World} {K : PySem.W.Frag} {mg : Str → Option Value} {base : Heap} {k : Nat} {f : Addr} {name qual : Str} {params : Arguments} {body : List Stmt} {scope : Scope} {dV kV doc pm cdv ct oc : Value} {an od : Option Addr} {osl : Array (Option Value)}
    {N ps : List Str} {sp : Sp} (lk : K.lookup f = some ⟨oc, od, .func (PySem.W.fnOf name qual params body scope dV kV doc pm an cdv ct), osl⟩) (hcd : PySem.W.codeIn K cdv qual = true) (S : FnScope N ps scope) (len : ∀ vs H Q E, sp vs H Q E → vs.length = ps.length)
    (hbody : ∀ (A : Around) (outer : List Env) (s : Shared) (H : Hp) (vs : List V) (Q : VK) (E : XK) (Po : Dg), Room k (A.deeper (envOfC qual scope s.heap.objs.size f cdv)) → sp vs H Q E →
      ∃ t, PSs2 (cxOf (fun _ _ _ _ _ _ => False) P w K mg base N qual scope f cdv A outer s H E) Po (fun cls d _ H => E cls d H) body t ∧ t { nx := fun _ H' => Q .non H', rt := Q } (start N vs) H) :
    FnOk2 P w K mg base (k + 1) f (PySem.W.fnOf name qual params body scope dV kV doc pm an cdv ct) ps sp := by
  refine ⟨len, fun A outer s H args us vs Q E Po hr e0 hb r hsp td => ?_⟩
  have hl := len _ _ _ _ hsp
  have KX : K.In s.heap := e0.mod.kin.keeps fun b o e => (e0.bs b o e).1
  have lim : s.heap.NoLimit := e0.mod.nolimit.keeps fun b o e => (e0.bs b o e).1
  have hkind : ∀ y ∈ ps.zip us, scope.names.lookup y.1 = some .local ∨ (scope.names.lookup y.1 = some .cell ∧ ((cellsFrom (s.heap.objs.size + 1) scope.names []).lookup y.1).isSome = true) := fun y hy =>
    (S.par y.1 (List.of_mem_zip hy).1).imp id fun q => ⟨q, PySem.W.cellsFrom_some _ _ _ (.inl q)⟩
  refine mm_function hr.depth (KX _ _ lk) rfl S.co S.gen rfl (PySem.W.codeRec_of KX hcd) (hb _ _ _ _ ?_)
  refine wpAny_newFunctionEnv_cells S.kind hkind fun env he s1 x => ?_
  subst he
  refine ⟨lim.keeps x.toInCall.keep, mm_func ?_⟩
  obtain ⟨t, ht, hq⟩ := hbody A outer s H vs Q E ⟨Po, s.heap.objs.size, fun _ => False⟩ (hr.deeper _) hsp
  have I : L2.Inv (cxOf (fun _ _ _ _ _ _ => False) P w K mg base N qual scope f cdv A outer s H E) [] (start N vs) H s1 := inv_start S hr.hd e0 hl r x
  have g0 : Gs ⟨Po, s.heap.objs.size, fun _ => False⟩ [] s1 := by
    obtain ⟨h1, tk, es1, _⟩ := x.done
    refine ⟨⟨fun p hp => (by cases hp), fun i y it e m => (td i y it (by rw [es1] at e; exact e) m).imp id .inl⟩, fun p hp => (by cases hp)⟩
  have lt : s.heap.objs.size ≤ s1.heap.objs.size := Nat.le_of_lt x.toInCall.ns.lt
  refine wpAny_mono (ht.run [] [] s1 (start N vs) H _ I g0 lt hq) (fun fl s' ⟨GP, hs, g⟩ => ?_) fun e s' hx => leave2 (X := cxOf (fun _ _ _ _ _ _ => False) P w K mg base N qual scope f cdv A outer s H E) (Po := ⟨Po, s.heap.objs.size, fun _ => False⟩) (E := E) rfl rfl rfl rfl (fun _ z => z) (fun _ _ _ _ h => h) hx
  have fin : ∀ {σ' : L2.St} {H' : Hp} {v : V} {u : Value}, L2.Inv (cxOf (fun _ _ _ _ _ _ => False) P w K mg base N qual scope f cdv A outer s H E) ([] ++ GP) σ' H' s' → RelV v u → Q v H' → CE2 outer P w Po H s Q u s' :=
    fun {σ' H' v u} J rv q => ⟨v, H', GP, J.os, J.bare, J.base, J.hok, rv, q, fun p hp => let z := J.pin p (List.mem_append_right _ (by rw [List.nil_append]; exact hp)); ⟨z.1, z.2.1, z.2.2.2.1, (g.low p hp).resolve_left fun z => z⟩, g.g0⟩
  cases fl with
  | ret u => obtain ⟨v, σ', H', J, rv, q⟩ := hs; exact fin J rv q
  | next => obtain ⟨σ', H', J, q⟩ := hs; exact fin (v := V.non) (u := Value.none) J rfl q
  | brk => obtain ⟨σ', H', J, q⟩ := hs; exact q.elim
  | cont => obtain ⟨σ', H', J, q⟩ := hs; exact q.elim
end Em
end
section
set_option linter.all false
set_option maxRecDepth 100000
set_option maxHeartbeats 4000000
/-! M4: a class's call at the erased model. -/
namespace Em
open PySem PySem.Spec PyProof.Rows L2 GenW Gp Er Gm
open PySem.W (Looks Frag Makes instObj emptyDict InitBack)

section
variable {prog : Program} {w : World} {A : Around} {C : Addr} {R : Result → Shared → Prop} {h : Heap} {g : Array GenState} {d : Drawn} {t : Nat} {os : OsState}
/-- object.__new__(C, ..) -/
theorem mm_new {rest : List Value} {kw : List (Str × Value)} {init : Value} {E : Value → Shared → Prop} {Q : Value → Shared → Prop} (Y : Makes (model prog w) h C) (hi : Looks (model prog w) h (typeLookup (.ref C) "__init__") (some init)) (hne : (some init != some (Value.builtin "object.__init__")) = true ∨ (rest = [] ∧ kw = []))
    (hq : Q (.ref (h.objs.size + 1)) ⟨(h.push emptyDict).push (instObj C h.objs.size), g, d, t, os⟩) : wpAny (mm prog w) A (call (.builtin "object.__new__") (.ref C :: rest) kw) Q E ⟨h, g, d, t, os⟩ := by
  have h0 : ∀ G, wpAny (model prog w) A (call (.builtin "object.__new__") (.ref C :: rest) kw) (fun a s' => ∃ h', s' = ⟨h', G, d, t, os⟩ ∧ a = .ref (h.objs.size + 1) ∧ h' = (h.push emptyDict).push (instObj C h.objs.size)) (fun e s' => ∃ h', s' = ⟨h', G, d, t, os⟩ ∧ False) ⟨h, G, d, t, os⟩ := fun G =>
    wpAny_call (PySem.W.new_K Y hi hne ⟨_, rfl, rfl, rfl⟩)
  refine wpAny_mono (unere (lift_heap (s := ⟨h, g, d, t, os⟩) (Q := fun a h' => a = .ref (h.objs.size + 1) ∧ h' = (h.push emptyDict).push (instObj C h.objs.size)) (E := fun _ _ => False) h0)) (fun a s' ⟨h', e1, e2, e3⟩ => ?_) fun _ _ ⟨_, _, q⟩ => q.elim
  subst e1 e2 e3
  exact hq
theorem mm_make {K : Frag} {s : Shared} {f : Addr} {vs : List Value} {kw : List (Str × Value)} (X : K.In s.heap) (hm : PySem.W.makesIn K C = true) (hi : PySem.W.findIn K (.ref C) "__init__" = some (some (.ref f))) (hf : PySem.W.typeIn K (.ref f) = some (.type "function"))
    (hq : codeAny (mm prog w) (A.under (.builtin "type.__call__" ⟨.ref C :: vs, kw⟩)) (.call (.ref f) ⟨.ref (s.heap.objs.size + 1) :: vs, kw⟩) (InitBack (s.heap.objs.size + 1) R) { s with heap := (s.heap.push emptyDict).push (instObj C s.heap.objs.size) }) :
    codeAny (mm prog w) A (.call (.ref C) ⟨vs, kw⟩) R s := by
  obtain ⟨h, g, d, t, os⟩ := s
  have Y : Makes (mm prog w) h C := PySem.W.makes_of X hm
  have Y0 : Makes (model prog w) h C := PySem.W.makes_of X hm
  have li : Looks (mm prog w) h (typeLookup (.ref C) "__init__") (some (.ref f)) := PySem.W.looks_findIn X hi
  have lb : ∀ self, Looks (mm prog w) h (bindSpecial (.ref f) self) (.ref f, [self]) := fun self => PySem.W.bind_fn X self hf
  obtain ⟨⟨oc, od, cd, sl, hC, e1, e2, e4⟩, made, base, self, top, call, typ⟩ := Y
  refine mm_tree ?_
  show wpAny _ _ (callAny (.ref C) _) _ _ _
  refine PySem.W.nd_load hC ?_
  show wpAny _ _ (callAny.viaDunder (.ref C) _) _ _ _
  unfold callAny.viaDunder
  refine wpAny_bind (call.at ?_)
  dsimp only
  rw [tc_bind]
  refine wpAny_bind (wpAny_pure (wpAny_bind (wpAny_pure ?_)))
  refine wpAny_pure (a := Fin.again (.call (.builtin "type.__call__") ⟨.ref C :: vs, kw⟩)) (And.intro rfl ?_)
  -- the builtin's own call
  refine mm_tree ?_
  show wpAny _ A.in1 (checkBuiltinCall "type.__call__" ⟨.ref C :: vs, kw⟩ >>= fun _ => again (.builtin "type.__call__" ⟨.ref C :: vs, kw⟩)) _ _ _
  refine wpAny_bind (PySem.W.check_slot tc_kind tc_split typ (PySem.W.tc_args _ _ _) (wpAny_pure (And.intro (Code.quiet_builtin _ (by decide +kernel)) (mm_tree ?_))))
  show wpAny _ _ (match entryFor table "type.__call__" with | some b => b ⟨.ref C :: vs, kw⟩ | none => unsupported ((withoutEnding? "type.__call__" "#data").getD "type.__call__")) _ _ _
  rw [entry_typeCall]
  dsimp only
  unfold Builtin.«type.__call__»
  have lm : Looks (mm prog w) h (mroOf (.ref C)) cd.mro := ((Looks.ld (part := none) hC).andThen .now).andThen .now
  repeat (first | simp only [e4, Bool.false_eq_true, if_false] | (with_reducible refine mm_new Y0 (PySem.W.looks_findIn X hi) (.inl rfl) ?_) | lk)
  have k : ∀ b o, h.get? b = some o → ((h.push emptyDict).push (instObj C h.objs.size)).get? b = some o := fun b o e => Heap.get?_push_of_some _ (Heap.get?_push_of_some _ e)
  have hx : ((h.push emptyDict).push (instObj C h.objs.size)).get? (h.objs.size + 1) = some (instObj C h.objs.size) := by heap_get
  have t1 : Looks (mm prog w) ((h.push emptyDict).push (instObj C h.objs.size)) (typeOf (.ref (h.objs.size + 1))) (.ref C) := (Looks.ld hx).andThen .now
  have s1 := self.keeps k
  have i1 := li.keeps k
  have b1 := (lb (.ref (h.objs.size + 1))).keeps k
  (try unfold isInstance)
  unfold callSpecial? specialOf
  repeat (first | with_reducible refine wpAny_call ?_ | lk)
  refine codeAny_mono hq fun r s' z => ?_
  rcases r with e | (v | _ | _ | _) <;> first | exact z | exact z.elim | skip
  obtain ⟨rfl, z⟩ := z
  exact wpAny_pure (wpAny_pure z)
end
end Em
end
section
set_option linter.all false
set_option maxRecDepth 100000
set_option maxHeartbeats 2000000
/-! M5: an own class made, two names stored at once, for over any iterable, at the erased model. -/
namespace Em
open PySem PySem.Spec PyProof.Rows L2 GenW Gp Er Gm

section
variable {X : Cx} {Po : Dg} {W : WX} {k : Nat} {f C : Addr} {fd : FuncData} {ps : List Str} {sp : Sp} {dvs : List V} {ds : List Value} {E : XK} {x m : Str} {p pos apos : Pos} {e o : Expr} {es : List Expr} {ta : TE} {t : TA}
theorem run_make2 {pins GP : List (Addr × Obj)} {σ : L2.St} {H : Hp} {s : Shared} {Q : VK} {us : List Value} {vs : List V} (M : Mk X.K C f) (F : FnOk2 X.prog X.w X.K X.mg X.base k f fd ps sp) (hr : Room (k + 1) X.A) (hb : Binds X.K fd ps ds) (hd : Vals dvs ds) (hs : OnStack X)
    (hW : ∀ cls d σ H, E cls d H → W cls d σ H) (I : L2.Inv X (pins ++ GP) σ H s) (g : Gs Po GP s) (hn : Po.n ≤ s.heap.objs.size) (r : Vals vs us)
    (h : ∀ x dx, H x = none → H dx = none → dx ≠ x → sp (.ref x :: (vs ++ dvs)) (upd (upd H dx (.own x)) x (.ins C dx [])) (fun v H2 => v = .non ∧ Q (.ref x) H2) E) : wpAny (mm X.prog X.w) X.A (call (.ref C) us) (EP2 X Po pins σ Q) (XE2 X Po pins W) s := by
  have hq := h (s.heap.objs.size + 1) s.heap.objs.size (I.hok.fresh (Nat.le_succ _)) (I.hok.fresh (Nat.le_refl _)) (Nat.ne_of_lt (Nat.lt_succ_self _))
  have I2 := L2.Inv.made (C := C) I
  have r2 : Vals (V.ref (s.heap.objs.size + 1) :: (vs ++ dvs)) (Value.ref (s.heap.objs.size + 1) :: (us ++ ds)) := .cons rfl (r.append hd)
  have hl : (Value.ref (s.heap.objs.size + 1) :: us ++ ds).length = ps.length := (F.len _ _ _ _ hq ▸ r2.length).symm
  have td : Td (PoG Po.po GP) [] { s with heap := (s.heap.push PySem.W.emptyDict).push (PySem.W.instObj C s.heap.objs.size) } := g.td.gens rfl
  have hn2 : Po.n ≤ ((s.heap.push PySem.W.emptyDict).push (PySem.W.instObj C s.heap.objs.size)).objs.size := by rw [Heap.size_push, Heap.size_push]; omega
  refine wpAny_call (mm_make (f := f) I.kIn M.makes M.init (beq_iff_eq.mp M.fn) (codeAny_mono (F.run _ X.stack _ _ ⟨Value.ref (s.heap.objs.size + 1) :: us, []⟩ (Value.ref (s.heap.objs.size + 1) :: (us ++ ds)) _ _ E (PoG Po.po GP) (hr.make C us [])
    (I2.env0.make C us []) (hb _ (Value.ref (s.heap.objs.size + 1) :: us) I2.kIn hl) r2 hq td) fun r s' hq' => ?_))
  cases r with
  | error e => exact air2 I2 hs.stk hs.frm g hn2 (fun c d H' => hW c d σ H') hq'
  | ok fl =>
    cases fl with
    | ret u =>
      obtain ⟨GP2, ⟨v, H', I3, rv, ev, q3⟩, g3⟩ := after2 I2 hs.stk hs.frm g hn2 hq'
      subst ev
      exact ⟨rv, GP2, ⟨V.ref (s.heap.objs.size + 1), H', I3, rfl, q3⟩, g3⟩
    | next => exact False.elim hq'
    | brk => exact False.elim hq'
    | cont => exact False.elim hq'
/-- C(e, ..) -/
theorem pe2_make (M : Mk X.K C f) (F : FnOk2 X.prog X.w X.K X.mg X.base k f fd ps sp) (hr : Room (k + 1) X.A) (hg : Gl X x) (hm : X.mg x = some (.ref C)) (hb : Binds X.K fd ps ds) (hd : Vals dvs ds) (hs : OnStack X) (hW : ∀ cls d σ H, E cls d H → W cls d σ H)
    (ha : PA2 X Po W (e :: es) t) (hdb : (x == ("__debug__" : Str)) = false := by decide) (he : starEach (e :: es) X.env = (false, eval e X.env) :: starEach es X.env := by rfl) (hpl : (backTo pos (starEach es X.env)).any (·.1) = false := by rfl) :
    PE2 X Po W (.Call (.Name x p) (e :: es) [] pos) (tMake C sp dvs E t) := by
  refine ⟨fun pins GP s σ H Q I g hn h => wpAny_Call_Name_kw (glob2 I hg hm ?_ hdb)⟩
  refine PySem.W.callWith_K (h₀ := X.base) I.ok.mod.kin M.kp (hsz hn (wpAny_mono (ha.run pos pins GP s σ H _ I g hn h) (fun us s1 ⟨GP1, ⟨vs, H1, I1, r, q⟩, g1⟩ hn1 => ⟨I1.kIn, ?_⟩) fun _ _ x _ => x)) he hpl
  exact run_make2 M F hr hb hd hs hW I1 g1 hn1 r q
/-- a, b = x, y with plain local names -/
theorem ps2_par {i j : Nat} {x y : Str} {a b : Expr} {ta : TA} {px py pt : Pos} {kt k2 pt2} (hc : X.calm = true) (hN : X.N.Nodup) (hi : X.N[i]? = some x) (hj : X.N[j]? = some y) (hij : i ≠ j)
    (hx : X.env.scope.names.lookup x = some .local) (hy : X.env.scope.names.lookup y = some .local) (ha : PA2 X Po W [a, b] ta)
    (hw : swappedStores [.Tuple [.Name x px, .Name y py] kt pt] (.Tuple [a, b] k2 pt2) X.env = pure (some [x, y]))
    (hs : swapsWithSole [.Tuple [.Name x px, .Name y py] kt pt] (.Tuple [a, b] k2 pt2) pos.line X.env = pure false := by rfl) :
    PS2 X Po W (.Assign [.Tuple [.Name x px, .Name y py] kt pt] (.Tuple [a, b] k2 pt2) pos) (tPar i j ta) := by
  refine ⟨fun pins GP s σ H D I g hn h => ?_⟩
  rw [exec_Assign_arm]
  refine wpAny_bind (wpAny_standAt ?_)
  rw [hs]
  refine wpAny_bind (wpAny_pure ?_)
  rw [if_neg (by decide)]
  refine wpAny_bind (Tuple_ (thn (ha.run _ pins GP s σ H _ I g hn h) fun us s1 ⟨GP1, ⟨vs, H1, I1, r1, v, w, e1, q1⟩, g1⟩ => ?_))
  subst e1
  obtain ⟨u1, u2, rfl, rv, rw'⟩ : ∃ u1 u2, us = [u1, u2] ∧ RelV v u1 ∧ RelV w u2 := by
    cases r1 with
    | cons p q =>
      cases q with
      | cons p' q' =>
        cases q'
        exact ⟨_, _, rfl, p, p'⟩
  have ok := I1.ok
  refine wpAny_newObj_type ?_ (by show 2 ≤ sizeLine; decide)
  have I2 : L2.Inv X (pins ++ GP1) σ H1 { s1 with heap := s1.heap.push { cls := .type "tuple", data := .seq [u1, u2].toArray } } := I1.kept (t' := s1.toks) fun b o e => Heap.get?_push_of_some _ e
  have hT : ∀ G, ({ s1 with heap := s1.heap.push { cls := .type "tuple", data := .seq [u1, u2].toArray }, gens := G } : Shared).heap = s1.heap.push { cls := .type "tuple", data := .seq [u1, u2].toArray } := fun _ => rfl
  rw [hw]
  refine wpAny_bind (wpAny_pure ?_)
  show wpAny (mm X.prog X.w) X.A (do rule "assign.swapped-stores"; let items ← unpackItems (.ref s1.heap.objs.size) 2 none; assignInOrder [fun v => bindName X.env y v, fun v => bindName X.env x v] items.reverse; pure Flow.next) _ _ _
  -- the rest changes the heap alone
  refine wpAny_mono (unere (lift (M := model X.prog X.w) (Q := fun f s' => f = Flow.next ∧ L2.Inv X (pins ++ GP1) ((σ.set i (some v)).set j (some w)) H1 s') (E := noX) ?_)) (fun f s' ⟨t1, l, e1, J⟩ => ?_) fun _ _ ⟨_, _, z⟩ => z.elim
  · have I2' := Gp.Inv.gens I2 (blankA_bare s1.gens)
    refine wpAny_bind (wpAny_rule (wpAny_bind (unpackItems_tuple (items := #[u1, u2]) (ok.hd hc) (IsTup.new s1.heap _) fun h' hx' => ?_)))
    have I3 := I2'.kept (h' := h') (t' := s1.toks) fun b o e => hx' b o (Nat.ne_of_lt (Heap.lt_size e)) e
    show wpAny _ _ (assignInOrder [fun v => bindName X.env y v, fun v => bindName X.env x v] [u2, u1] >>= fun _ => pure Flow.next) _ _ _
    refine wpAny_bind (assignInOrder_cons (wpAny_bindName (store_ok I3 hN hj (.inl hy) rw' (fun s2 I4 => ?_) (.inr hy))))
    refine assignInOrder_cons (wpAny_bindName (store_ok I4 hN hi (.inl hx) rv (fun s3 I5 => assignInOrder_nil (wpAny_pure ?_)) (.inr hx)))
    rw [List.set_comm _ _ (Ne.symm hij)] at I5
    exact ⟨rfl, I5⟩
  · subst e1
    exact ⟨GP1, ⟨_, H1, l.inv I1.bare J, q1⟩, (g1.gens rfl : Gs Po GP1 { s1 with heap := _ }).like l⟩
end

/-! ### for -/
section
variable {prog : Program} {w : World} {A : Around} {s : Shared}
theorem mm_forLoop {R : Result → Shared → Prop} {tg : Expr} {it : Value} {body orelse : List Stmt} {env : Env} (I : Nat → Shared → Prop)
    (turn : ∀ n s, I n s → wpAny (mm prog w) A (pyNext it) (fun r s1 => match r with
      | none => wpAny (mm prog w) A (execs orelse env) (fun f s3 => R (.ok f) s3) (notedBy (mm prog w) A env fun e s' => R (.error e) s') s1
      | some v => wpAny (mm prog w) A (letOwnedTupleGo tg it v) (fun _ s1' => wpAny (mm prog w) A (assign tg env v) (fun _ s2 => wpAny (mm prog w) A (execs body env) (fun f s3 => match f with
            | .next | .cont => ∃ m, m < n ∧ I m s3
            | .brk => R (.ok .next) s3
            | .ret v => R (.ok (.ret v)) s3) (notedBy (mm prog w) A env fun e s' => R (.error e) s') s2) (notedBy (mm prog w) A env fun e s' => R (.error e) s') s1') (notedBy (mm prog w) A env fun e s' => R (.error e) s') s1) (notedBy (mm prog w) A env fun e s' => R (.error e) s') s)
    (n : Nat) (h : I n s) : codeAny (mm prog w) A (.forLoop tg it body orelse env) R s := by
  induction n using Nat.strongRecOn generalizing s with
  | ind n ih =>
    refine mm_tree ?_
    show wpAny _ A ((forTurn tg it body orelse env).onRaise (fun x => do noteFrame x env; theTreesLotGoes x)) _ _ s
    refine wpAny_noted ?_
    unfold forTurn
    refine wpAny_bind (wpAny_standAt (wpAny_bind (wpAny_onRaise (wpAny_mono (turn n s h) (fun r s1 h1 => ?_) fun _ _ q => wpAny_standAt q))))
    cases r with
    | none =>
      refine wpAny_pure (And.intro rfl (mm_tree ?_))
      show wpAny _ A ((execs orelse env).onRaise (fun x => do noteFrame x env; theTreesLotGoes x) >>= fun f => pure (Fin.done f)) _ _ s1
      exact wpAny_bind (wpAny_noted (wpAny_mono h1 (fun f s3 q => wpAny_pure q) fun _ _ q => q))
    | some v =>
      refine wpAny_bind (wpAny_mono h1 (fun _ s2 h2 => wpAny_bind (wpAny_mono h2 (fun _ s3 h3 => wpAny_bind (wpAny_mono h3 (fun f s4 h4 => ?_) fun _ _ q => q)) fun _ _ q => q)) fun _ _ q => q)
      cases f with
      | next => obtain ⟨m, hm, q⟩ := h4; exact wpAny_pure (And.intro rfl (ih m hm q))
      | cont => obtain ⟨m, hm, q⟩ := h4; exact wpAny_pure (And.intro rfl (ih m hm q))
      | brk => exact wpAny_pure h4
      | ret v => exact wpAny_pure h4
end
end Em
end
section
set_option linter.all false
set_option maxRecDepth 100000
set_option maxHeartbeats 2000000
/-! M6: for over any iterable, for over a generator, in a plain def at the erased model. -/
namespace Em
open PySem PySem.Spec PyProof.Rows L2 GenW Gp Er Gm

section
variable {X : Cx} {Po : Dg} {W : WX}
/-- the pins in another order -/
theorem pins_perm {ps qs : List (Addr × Obj)} {σ : L2.St} {H : Hp} {s : Shared} (I : L2.Inv X ps σ H s) (h : ∀ p ∈ qs, p ∈ ps) : L2.Inv X qs σ H s := I.pins_of fun p hp => I.pin p (List.mem_append_right _ (h p hp))
theorem sp_perm {ps qs : List (Addr × Obj)} {D : Ends} {f : Flow} {s : Shared} (x : SP X ps D f s) (h : ∀ p ∈ qs, p ∈ ps) : SP X qs D f s := by
  cases f with
  | next => obtain ⟨σ, H, I, q⟩ := x; exact ⟨σ, H, pins_perm I h, q⟩
  | brk => obtain ⟨σ, H, I, q⟩ := x; exact ⟨σ, H, pins_perm I h, q⟩
  | cont => obtain ⟨σ, H, I, q⟩ := x; exact ⟨σ, H, pins_perm I h, q⟩
  | ret u => obtain ⟨v, σ, H, I, r, q⟩ := x; exact ⟨v, σ, H, pins_perm I h, r, q⟩
theorem ps2_for {tg iter : Expr} {body : List Stmt} {wi : TI} {g : TG} {tb : TS} {pos : Pos} (hs : OnStack X) (hc : X.calm = true) (hi : ∀ pn, PI (X.tr pn noX) tg iter wi) (hg : ∀ pn, PG (X.tr pn noX) tg g) (hb : ∀ Z : Dg, Z.po = Po.po → PSs2 X Z W body tb)
    (hf : ∀ x, foldedSetIterable iter X.env x = pure x := by intro _; rfl) : PS2 X Po W (.For tg iter body [] pos) (tFor wi g tb) := by
  refine ⟨fun pins GP s σ H D I G hn h => ?_⟩
  refine wpAny_For (hsz hn (wpAny_mono (liftt noX I fun s J => (hi _).run [] s σ H _ J h) (fun v s1 ⟨u1, l1, h1⟩ hn1 => hsz hn1 (wpAny_mono (unere (lift2 l1 h1)) (fun itv s2 ⟨u2, l2, h2⟩ hn2 => ?_) fun _ _ ⟨_, _, q⟩ => q.elim)) fun _ _ ⟨_, _, q⟩ => q.elim)) hf
  obtain ⟨it, fp, tn, J, H2, e, I2, T, st2, f2, Wv, ⟨m0, w0⟩, turn⟩ := h2
  subst e
  replace I2 : L2.Inv X (pins ++ GP) σ H2 s2 := (l2.inv I.bare I2).ofTry I.ok
  rw [← l2.heap] at st2
  have G2 : Gs Po GP s2 := G.like l2
  -- the iterator's objects: below this line
  obtain ⟨n2, en2⟩ : ∃ n2, n2 = s2.heap.objs.size := ⟨_, rfl⟩
  have fplt : ∀ b ∈ fp, b < n2 := fun b hb => by
    obtain ⟨o, e, _⟩ := T.obj _ _ st2 b hb
    rw [en2]; exact Heap.lt_size e
  have fpGP : ∀ p ∈ GP, p.1 ∉ fp := fun p hp hm => (f2 p.1 hm).2.2.2.2.2 p (by
    show p ∈ (X.pn ++ (pins ++ GP)) ++ []
    exact List.mem_append_left _ (List.mem_append_right _ (List.mem_append_right _ hp))) rfl
  -- delegates within the loop: not of the iterator's objects
  let Z : Dg := ⟨Po.po, n2, fun b => (Po.f b ∨ Po.n ≤ b) ∧ b ∉ fp⟩
  have toZ : Gs Z GP s2 := ⟨G2.g0, fun p hp => .inl ⟨G2.low p hp, fpGP p hp⟩⟩
  have off : ∀ {GP' : List (Addr × Obj)} {s' : Shared}, Gs Z GP' s' → ∀ p ∈ GP', p.1 ∉ fp := fun {GP' s'} g' p hp hm => by
    rcases g'.low p hp with ⟨_, z⟩ | z
    · exact z hm
    · exact absurd (Nat.lt_of_lt_of_le (fplt _ hm) z) (Nat.lt_irrefl _)
  have back : ∀ {GP' : List (Addr × Obj)} {s' : Shared}, Gs Z GP' s' → Gs Po GP' s' := fun {GP' s'} g' => ⟨g'.g0, fun p hp => by
    rcases g'.low p hp with ⟨z, _⟩ | z
    · exact z
    · exact .inr (Nat.le_trans (by rw [← en2] at hn2; exact hn2) z)⟩
  have stat : ∀ {GP' : List (Addr × Obj)} {s' : Shared} {H' : Hp}, Gs Z GP' s' → (∀ b ∈ fp, H' b = none) → ∀ b ∈ fp, FpOk X (pins ++ GP') H' b := fun {GP' s' H'} g' hnn b hb => by
    obtain ⟨q1, q2, q3, q4, q5, q6⟩ := f2 b hb
    refine ⟨hnn b hb, q2, q3, q4, q5, fun p hp => ?_⟩
    rcases List.mem_append.mp hp with z | z
    · exact q6 p (by
        show p ∈ (X.pn ++ (pins ++ GP)) ++ []
        exact List.mem_append_left _ (List.mem_append_left _ z))
    · rcases List.mem_append.mp z with z | z
      · exact q6 p (by
          show p ∈ (X.pn ++ (pins ++ GP)) ++ []
          exact List.mem_append_left _ (List.mem_append_right _ (List.mem_append_left _ z)))
      · intro z2
        exact off g' p z (z2 ▸ hb)
  have pass : ∀ {e : Value} {s' : Shared}, XE2 X Po pins W e s' → notedBy (mm X.prog X.w) X.A X.env (fun e s' => cameBackBy (mm X.prog X.w) X.A X.env (XE2 X Po pins W) e s') e s' := fun x => x.noted hs.stk hs.frm
  refine mm_forLoop (fun n s' => ∃ i σ' H' GP', L2.Inv X (pins ++ GP') σ' H' s' ∧ Gs Z GP' s' ∧ n2 ≤ s'.heap.objs.size ∧ tn i s'.heap ∧ (∀ b ∈ fp, H' b = none) ∧ Wv i n σ' H') ?_ m0 ⟨0, σ, H2, GP, I2, toZ, Nat.le_of_eq en2, st2, fun b hb => (f2 b hb).1, w0⟩
  rintro n s3 ⟨i, σ3, H3, GP3, I3, g3, hn3, st3, fr3, w3⟩
  refine hsz hn3 ?_
  rcases turn i n σ3 H3 w3 with ⟨stop, qn⟩ | ⟨go, N, hN, step⟩
  · refine wpAny_mono (unere (lift (T.done X rfl rfl rfl hc i (pins ++ GP3) { s3 with gens := blankA s3.gens } σ3 H3 noX (Gp.Inv.gens I3 (blankA_bare _)) (stat g3 fr3) st3 stop))) (fun r s4 ⟨u4, l4, hr, I4⟩ hn4 => ?_) fun _ _ ⟨_, _, q⟩ => q.elim
    subst hr
    exact wpAny_execs_nil ⟨GP3, ⟨σ3, H3, l4.inv I3.bare I4, qn⟩, (back g3).like l4⟩
  · refine wpAny_mono (unere (lift (T.item X rfl rfl rfl hc i (pins ++ GP3) { s3 with gens := blankA s3.gens } σ3 H3 noX (Gp.Inv.gens I3 (blankA_bare _)) (stat g3 fr3) st3 go))) (fun r s4 ⟨u4, l4, u, hr, h4⟩ hn4 => ?_) fun _ _ ⟨_, _, q⟩ => q.elim
    subst hr
    refine hsz hn4 (wpAny_mono (unere (lift2 l4 h4)) (fun _ s5 ⟨u5, l5, x, H5, I5, r5, y5, st5, fr5⟩ hn5 => ?_) fun _ _ ⟨_, _, q⟩ => q.elim)
    replace I5 := l5.inv I3.bare I5
    rw [← l5.heap] at st5
    have g5 : Gs Z GP3 s5 := g3.like l5
    have I5' := I5.pinned (stat g5 fr5) (T.obj _ _ st5)
    refine hsz hn5 (wpAny_mono (liftt noX I5' fun s J => (hg _).run [] s σ3 H5 x u _ J r5 (step x H5 y5)) (fun _ s6 ⟨u6, l6, σ6, H6, I6, q6⟩ hn6 => ?_) fun _ _ ⟨_, _, q⟩ => q.elim)
    replace I6 := (l6.inv I5'.bare I6).ofTry I5.ok
    have g6 : Gs Z GP3 s6 := g5.like l6
    have I6' : L2.Inv X ((pins ++ pinsAt fp s5.heap) ++ GP3) σ6 H6 s6 := pins_perm I6 fun p hp => by
      rcases List.mem_append.mp hp with z | z
      · rcases List.mem_append.mp z with z | z
        · exact List.mem_append_left _ (List.mem_append_left _ z)
        · exact List.mem_append_right _ z
      · exact List.mem_append_left _ (List.mem_append_right _ z)
    refine hsz hn6 (wpAny_mono ((hb Z rfl).run (pins ++ pinsAt fp s5.heap) GP3 s6 σ6 H6 _ I6' g6 hn6 q6) (fun f s7 ⟨GP7, q7, g7⟩ hn7 => ?_) fun e s7 ⟨GP7, x7, g7⟩ hn7 => pass ⟨GP7, x7.sub fun p hp => ?_, back g7⟩)
    · have again : ∀ {σ7 : L2.St} {H7 : Hp}, L2.Inv X ((pins ++ pinsAt fp s5.heap) ++ GP7) σ7 H7 s7 → N σ7 H7 → ∃ m, m < n ∧ ∃ i σ' H' GP', L2.Inv X (pins ++ GP') σ' H' s7 ∧ Gs Z GP' s7 ∧ n2 ≤ s7.heap.objs.size ∧ tn i s7.heap ∧ (∀ b ∈ fp, H' b = none) ∧ Wv i m σ' H' := fun {σ7 H7} I7 n7 => by
        obtain ⟨m', hm, w7⟩ := hN σ7 H7 n7
        have pin : ∀ b ∈ fp, ∀ o, s5.heap.get? b = some o → _ := fun b hb o e => I7.pin (b, o) (List.mem_append_right _ (List.mem_append_left _ (List.mem_append_right _ (mem_pinsAt hb e))))
        refine ⟨m', hm, i + 1, σ7, H7, GP7, pins_perm I7 fun p hp => ?_, g7, hn7, T.keep _ _ _ st5 fun b hb o e => (pin b hb o e).1, fun b hb => ?_, w7⟩
        · rcases List.mem_append.mp hp with z | z
          · exact List.mem_append_left _ (List.mem_append_left _ z)
          · exact List.mem_append_right _ z
        · obtain ⟨o, e, _⟩ := T.obj _ _ st5 b hb
          exact (pin b hb o e).2.1
      have sub : ∀ p ∈ pins ++ GP7, p ∈ (pins ++ pinsAt fp s5.heap) ++ GP7 := fun p hp => by
        rcases List.mem_append.mp hp with z | z
        · exact List.mem_append_left _ (List.mem_append_left _ z)
        · exact List.mem_append_right _ z
      cases f with
      | next => obtain ⟨σ7, H7, I7, n7⟩ := q7; exact again I7 n7
      | cont => obtain ⟨σ7, H7, I7, n7⟩ := q7; exact again I7 n7
      | brk => obtain ⟨σ7, H7, I7, q7⟩ := q7; exact ⟨GP7, ⟨σ7, H7, pins_perm I7 sub, q7⟩, back g7⟩
      | ret v => obtain ⟨x7, σ7, H7, I7, r7, q7⟩ := q7; exact ⟨GP7, ⟨x7, σ7, H7, pins_perm I7 sub, r7, q7⟩, back g7⟩
    · rcases List.mem_append.mp hp with z | z
      · exact List.mem_append_left _ (List.mem_append_left _ z)
      · exact List.mem_append_right _ z
end
end Em
end
section
set_option linter.all false
set_option maxRecDepth 100000
set_option maxHeartbeats 2000000
/-! M7: for over a generator in a plain def, at the erased model. -/
namespace Em
open PySem PySem.Spec PyProof.Rows L2 GenW Gp Er Gm

section
variable {prog : Program} {w : World} {A : Around} {E : Value → Shared → Prop} {s : Shared}
theorem mm_pyNext {a : Addr} {g : Nat} {gs : GenState} {fin : Result → Shared → Prop} {yl : Value → Shared → GenState → Prop} {Q : Option Value → Shared → Prop} (hh : A.handled = none) (hl : s.heap.NoLimit) (hroom : A.depth < recursionLimit) (hg : IsG0 s.heap a g) (hgs : s.gens[g]? = some gs)
    (hgo : Gp.Goes (mm prog w) A.in1 fin yl gs (s.setGen g .running)) (hF : ∀ r s₁, fin r s₁ → r = .ok (.ret .none) ∨ r = .ok .next)
    (hY : ∀ v s₁ gs', gs'.bare = true → (∃ k l c p fs cl, gs' = GenState.suspended k l c p fs cl) → yl v s₁ gs' → s.gens.size ≤ s₁.gens.size → Q (some v) (s₁.setGen g gs'))
    (hP : ∀ r s₁, fin r s₁ → s.gens.size ≤ s₁.gens.size → ∀ h', (∀ b o, s₁.heap.get? b = some o → h'.get? b = some o) → Q none { s₁.setGen g .finished with heap := h' }) : wpAny (mm prog w) A (pyNext (.ref a)) Q E s := by
  unfold pyNext
  refine wpAny_bind (wpAny_attempt (unere (mm_next hh hl hroom hg hgs hgo hF (fun v s₁ gs' hb hsu hv hs => ?_) fun r s₁ hf hs e h' hx hk => ?_)))
  · exact wpAny_pure (hY v s₁ gs' hb hsu hv hs)
  · obtain ⟨ea, eo, evs, rfl, hoa, hcls, _, _⟩ := hx
    exact wpAny_bind (wpAny_isInstance (T := "StopIteration") (b := true) ⟨_, hoa, hcls⟩ isSubtype_stop (wpAny_pure (hP r s₁ hf hs h' hk)))
end

/-! ### the call of a generator def -/
section
variable {X : Cx} {k : Nat} {f : Addr} {fd : FuncData} {ps : List Str} {sp : YSp} {dvs : List V} {ds : List Value} {x : Str} {p pos : Pos} {t : TA}
def tCallY (sp : YSp) (dvs : List V) (t : TA) : TYen := fun σ H cont => t σ H fun vs H1 => ∃ its, sp (vs ++ dvs) H1 its ∧ cont its H1
/-- f(e, ..) of a generator def -/
theorem pyen_call {e : Expr} {es : List Expr} (F : Gm.YFn X.prog X.w X.K X.mg X.base k f fd ps sp) (hr : Room k X.A) (hg : Gl X x) (hm : X.mg x = some (.ref f)) (hk : PySem.W.keepIn X.K (.ref f) = true) (hb : Binds X.K fd ps ds) (hd : Vals dvs ds)
    (ha : PA X (e :: es) t) (hdb : (x == ("__debug__" : Str)) = false := by decide) (he : starEach (e :: es) X.env = (false, eval e X.env) :: starEach es X.env := by rfl) (hpl : (backTo pos (starEach es X.env)).any (·.1) = false := by rfl) :
    PYen X k (.Call (.Name x p) (e :: es) [] pos) (tCallY sp dvs t) := by
  refine ⟨fun pins s σ H cont I h => ?_⟩
  refine wpAny_Call_Name_kw (ld_glob I hg hm ?_ hdb)
  refine PySem.W.callWith_K (h₀ := X.base) I.ok.mod.kin hk (GenW.wpAny_gsz (n := s.gens.size) (Nat.le_refl _) (hsz (n := s.heap.objs.size) (Nat.le_refl _) (wpAny_mono (ha.run pos pins s σ H _ I h) (fun us s1 ⟨vs, H1, I1, r, its, q, qc⟩ hh hz => ⟨I1.kIn, ?_⟩) fun _ _ z _ _ => z))) he hpl
  have r2 : Vals (vs ++ dvs) (us ++ ds) := r.append hd
  have hl2 : (us ++ ds).length = ps.length := by rw [← r2.length]; exact F.len _ _ _ q
  refine wpAny_call (codeAny_mono (F.run X.A X.stack s1 H1 ⟨us, []⟩ (us ++ ds) (vs ++ dvs) its hr I1.env0 (hb s1 us I1.kIn hl2) r2 q) fun r s' hq => ?_)
  cases r with
  | error e => exact False.elim hq
  | ok fl =>
    cases fl with
    | ret u => exact ⟨H1, s1, its, I1, hz, hh, hq, qc⟩
    | next => exact False.elim hq
    | brk => exact False.elim hq
    | cont => exact False.elim hq
end

def HSub (H H' : Hp) : Prop := ∀ b o, H b = some o → H' b = some o
def tForY (ty : TYen) (g : TG) (tb : TS) : TS := fun D σ H => ty σ H fun its H1 => ∃ Wv : List Item → L2.St → Hp → Prop, Wv its σ H1 ∧ (∀ σ H, Wv [] σ H → ∀ H', HSub H H' → D.nx σ H') ∧
  ∀ it r σ H, Wv (it :: r) σ H → ∀ x Hg H', it x Hg → HSub H H' → TSub Hg H' → g x σ H' fun σ2 H2 => tb { D with nx := fun σ3 H3 => TSub H' H3 ∧ Wv r σ3 H3, ct := fun σ3 H3 => TSub H' H3 ∧ Wv r σ3 H3, bk := D.nx } σ2 H2
section
variable {X : Cx} {Po : Dg} {W : WX} {k : Nat}
theorem ps2_forY {tg iter : Expr} {body : List Stmt} {pos : Pos} {ty : TYen} {g : TG} {tb : TS} (hs : OnStack X) (hr : Room (k + 1) X.A) (hy : ∀ pn, PYen (X.tr pn noX) k iter ty) (hg : ∀ pn, PG (X.tr pn noX) tg g) (hb : ∀ pn xe, Takes (X.tr pn xe) W → PSs (X.tr pn xe) body tb)
    (hf : ∀ x, foldedSetIterable iter X.env x = pure x := by intro _; rfl) : PS2 X Po W (.For tg iter body [] pos) (tForY ty g tb) := by
  refine ⟨fun pins GP s σ H D I G hn hq => ?_⟩
  refine wpAny_For (hsz hn (wpAny_mono (unere (lift (M := model X.prog X.w) ((hy _).run [] { s with gens := blankA s.gens } σ H _ (Gp.Inv.gens (I.toTry noX) (blankA_bare _)) hq))) (fun u s1 ⟨u1, l1, H1, sc, its, Ic, hscz, hsch, M, Wv, w0, wend, turn⟩ hn1 => ?_) fun _ _ ⟨_, _, z⟩ => z.elim)) hf
  obtain ⟨a, gn, c, go, pv, rfl, ha, hgo, isg, hnc, hgs, hgz, hgq, hsl, hos, hbr, hkp, hpv, wake⟩ := M
  have I1 : L2.Inv X (pins ++ GP) σ H1 sc := Ic.ofTry I.ok
  rw [← l1.heap] at hgo
  have hkp1 : ∀ b o, sc.heap.get? b = some o → s1.heap.get? b = some o := fun b o e => by rw [l1.heap]; exact hkp b o e
  have hbr1 : AllBare s1.gens := l1.bare I.bare hbr
  have hgs1 := like_fresh l1 hgs
  have J1 : L2.Inv X (pins ++ GP) σ H1 s1 := I1.call' (ch := []) (l1.os.trans hos) (Un.kept hkp1) (I1.hok.kept hkp1) hbr1 fun b z => by cases z
  refine unere (lift_same (a := .ref a) (fun G => wpAny_pyIter_gen (s := { s1 with gens := G }) (isg _ hgo) ⟨rfl, rfl⟩) ?_)
  obtain ⟨Xg, xo, hA⟩ := wake X.A.in1 ⟨hr.hd, by have := hr.dp; show X.A.depth + 3 * k + 5 < _; omega, by have := hr.un; show X.A.units + 1 + 16 * k + 200 < _; omega⟩ I1.ok.frames
  have fsn : ∀ b ∈ X.fs, b < sc.heap.objs.size := fun b hb => by
    obtain ⟨_, o, ho, _⟩ := I1.ok.funs.mem hb
    exact Nat.lt_of_lt_of_le (Heap.lt_size ho) I1.sz
  have h0 : Hand X (pins ++ GP) sc.heap.objs.size a gn go (tupsOf H1) pv σ H1 s1 := by
    refine ⟨J1.pins_of fun p hp => ?_, fun p hp => Heap.lt_size (I1.pin p hp).1, I1.lt, fun x c e => ?_, ha, fun p hp => ⟨(hpv p hp).1, (hpv p hp).2.1⟩, ?_, tupsOf_tups, fun b xs e => tupsOf_at.mp e⟩
    · rcases List.mem_append.mp hp with z | z
      · exact J1.pin p (List.mem_append_right _ z)
      · rcases List.mem_cons.mp z with z | z
        · rw [z]
          exact ⟨hgo, I1.hok.fresh ha, Nat.ne_of_gt (Nat.lt_of_lt_of_le I1.lt ha), I1.nofs ha, hnc⟩
        · obtain ⟨q1, q2, q3, q4⟩ := hpv p z
          exact ⟨by rw [l1.heap]; exact q3, I1.hok.fresh q1, Nat.ne_of_gt (Nat.lt_of_lt_of_le I1.lt q1), I1.nofs q1, q4⟩
    · obtain ⟨v, q⟩ := I1.cell x c e
      exact q.lt
    · exact Nat.le_trans ha (Nat.le_of_lt (Heap.lt_size hgo))
  obtain ⟨go0, nm, qn, ego, gocls, godat, goslots⟩ := isg _ hgo
  have : go0 = go := by rw [hgo] at ego; cases ego; rfl
  subst this
  have G1 : Gs Po GP s1 := G.like l1
  -- a's line: above what the caller has
  obtain ⟨nn, enn⟩ : ∃ nn, nn = sc.heap.objs.size := ⟨_, rfl⟩
  rw [← enn] at h0 hA
  have nle : Po.n ≤ nn := by
    rw [enn]; exact Nat.le_trans hn hsch
  have pass : ∀ {e : Value} {s' : Shared}, XE2 X Po pins W e s' → notedBy (mm X.prog X.w) X.A X.env (fun e s' => cameBackBy (mm X.prog X.w) X.A X.env (XE2 X Po pins W) e s') e s' := fun x => x.noted hs.stk hs.frm
  have gk0 : ∀ (i : Nat) k l c p fs cl, gn < i → u1.gens[i]? = some (GenState.suspended k l c p fs cl) → s1.gens[i]? = some (GenState.suspended k l c p fs cl) := fun i k' l' c' p' fs' cl' hi h => by
    exfalso
    rw [Array.getElem?_eq_none (by omega)] at h
    cases h
  refine mm_forLoop (fun m s' => ∃ (its : List Item) (σ : L2.St) (H : Hp) (Hg : Hp) (pv : List (Addr × Obj)) (gl : List Nat) (gs : GenState) (sy : Shared), its.length = m ∧ Hand X (pins ++ GP) nn a gn go0 Hg pv σ H s' ∧ s'.gens[gn]? = some gs ∧ Asleep Xg nn X.A.in1 gn its Hg pv gl sy gs ∧
    (∀ (i : Nat) k l c p fs cl, gn < i → sy.gens[i]? = some (GenState.suspended k l c p fs cl) → s'.gens[i]? = some (GenState.suspended k l c p fs cl)) ∧ Td (PoG Po.po GP) (gn :: gl) s' ∧ Wv its σ H) ?_ its.length ⟨its, σ, H1, tupsOf H1, pv, [], .fresh c, u1, rfl, h0, hgs1, hA, gk0, G1.td.mono fun _ z => (by cases z), w0⟩
  rintro m s2 ⟨its, σ, H, Hg, pv, gl, gs, sy, rfl, hd, hgs, hA, hgk, td, wv⟩
  have hgl : gn < s2.gens.size := (Array.getElem?_eq_some_iff.mp hgs).1
  have I2 := hd.inv
  have e0 := I2.env0
  have hW : Woke Xg nn X.A.in1 gn Hg pv sy (s2.setGen gn .running) := by
    refine ⟨?_, hd.sz, by rw [GenW.setGen_size]; exact hgl, fun p hp => (I2.pin p (List.mem_append_right _ (List.mem_append_right _ (List.mem_cons_of_mem _ hp)))).1, fun i k' l c' p' fs cl hi h => ?_⟩
    · rw [xo.prog, xo.w, xo.K, xo.mg, xo.base, xo.outer]
      exact ⟨e0.frames, e0.mod, fun b o e => ⟨(e0.bs b o e).1, none_sub hd.tup hd.sub (e0.bs b o e).2⟩, e0.bsz, e0.funs, fun b h => none_sub hd.tup hd.sub (e0.frf b h), hok_sub e0.hok hd.tup hd.sub, allBare_setGen e0.bare rfl⟩
    · show (s2.gens.setIfInBounds gn _)[i]? = _
      rw [Array.getElem?_setIfInBounds, if_neg fun z => by omega]
      exact hgk i k' l c' p' fs cl hi h
  have hgoes := asleep_iff.mp hA _ (PoG Po.po GP) hW (td.set (fun i hi hne => (List.mem_cons.mp hi).resolve_left hne) fun _ m => absurd m no_mrk_run)
  have xp : Xg.prog = X.prog := xo.prog
  have xw : Xg.w = X.w := xo.w
  rw [xp, xw] at hgoes
  have hgo2 : s2.heap.get? a = some go0 := (I2.pin (a, go0) (List.mem_append_right _ (List.mem_append_right _ List.mem_cons_self))).1
  have isg2 : IsG0 s2.heap a gn := ⟨go0, nm, qn, hgo2, gocls, godat, .inl goslots⟩
  have sle : X.s_0.heap.objs.size ≤ nn := by rw [enn]; exact I1.sz
  cases its with
  | nil =>
    refine mm_pyNext hr.hd I2.nolimit hr.depth isg2 hgs hgoes (fun r s₁ hf => hf.1) (fun v s₁ gs' _ _ hv _ => hv.elim) fun r s₁ hf hsz' h' hk => ?_
    obtain ⟨_, ⟨Hg', B⟩, tdn⟩ := hf
    have hd' := hd.after (s0 := s2.setGen gn .running) (s1 := s₁) (s2 := { s₁.setGen gn .finished with heap := h' }) xp xw xo.outer sle rfl rfl B hk rfl (allBare_setGen B.bare rfl)
    exact wpAny_execs_nil ⟨GP, ⟨σ, _, hd'.pins0, wend σ H wv _ fun b o e => mrg_l e⟩, ⟨⟨G.all, (tdn.set (g := gn) (x := .finished) (fun _ z _ => z) fun _ m => absurd m no_mrk_fin).gens rfl⟩, G.low⟩⟩
  | cons it r =>
    refine mm_pyNext hr.hd I2.nolimit hr.depth isg2 hgs hgoes (fun r s₁ hf => hf.elim) (fun v s₁ gs' hbare hsu hv hsz' => ?_) fun r s₁ hf => hf.elim
    obtain ⟨x, Hg', pv', gl', rv, hit, B, hA', tdn, hcov, hown⟩ := hv
    have hd' := hd.after (s0 := s2.setGen gn .running) (s1 := s₁) (s2 := s₁.setGen gn gs') xp xw xo.outer sle rfl rfl B (fun b o e => e) rfl (allBare_setGen B.bare hbare)
    have I3 := hd'.inv
    have td3 : Td (PoG Po.po GP) (gn :: gl') (s₁.setGen gn gs') := tdn.set (fun _ z _ => List.mem_cons_of_mem _ z) fun _ _ => .inl List.mem_cons_self
    have cov3 : Cov (gn :: gl') pv' (s₁.setGen gn gs') := by
      intro i hi y it' e m
      have e : (s₁.gens.setIfInBounds gn gs')[i]? = some y := e
      rw [Array.getElem?_setIfInBounds] at e
      split at e
      · split at e
        · cases e; exact hown it' m
        · cases e
      · rename_i hne
        exact hcov i ((List.mem_cons.mp hi).resolve_left (Ne.symm hne)) y it' e m
    have hgo3 : (s₁.setGen gn gs').heap.get? a = some go0 := (I3.pin (a, go0) (List.mem_append_right _ (List.mem_append_right _ List.mem_cons_self))).1
    refine go_of hgo3 gocls godat (by decide) ?_
    have st := turn it r σ H wv x Hg' _ hit (fun b o e => mrg_l e) hd'.sub
    -- leaving the loop amid it: the sleepers' delegates stay pinned
    let GP' : List (Addr × Obj) := GP ++ pv'.filter fun p => isG p.2
    have pv_in : ∀ p ∈ GP', p ∈ (pins ++ GP) ++ (a, go0) :: pv' := fun p hp => by
      rcases List.mem_append.mp hp with z | z
      · exact List.mem_append_left _ (List.mem_append_right _ z)
      · exact List.mem_append_right _ (List.mem_cons_of_mem _ (List.mem_filter.mp z).1)
    have pins_in : ∀ p ∈ pins ++ GP', p ∈ (pins ++ GP) ++ (a, go0) :: pv' := fun p hp => by
      rcases List.mem_append.mp hp with z | z
      · exact List.mem_append_left _ (List.mem_append_left _ z)
      · exact pv_in p z
    have out : ∀ {u s' : Shared}, Like (s₁.setGen gn gs').gens u s' → Gs Po GP' s' := fun {u s'} l => by
      refine ⟨⟨fun p hp => ?_, fun i y it' e m => ?_⟩, fun p hp => ?_⟩
      · rcases List.mem_append.mp hp with z | z
        · exact G.all p z
        · exact (List.mem_filter.mp z).2
      · have e5 := like_mrk l e m
        rcases td3 i y it' e5 m with z | z
        · obtain ⟨o, z1, z2⟩ := cov3 i z y it' e5 m
          exact .inr (.inr ⟨o, List.mem_append_right _ (List.mem_filter.mpr ⟨z1, z2⟩)⟩)
        · rcases z with z | ⟨o, z⟩
          · exact .inr (.inl z)
          · exact .inr (.inr ⟨o, List.mem_append_left _ z⟩)
      · rcases List.mem_append.mp hp with z | z
        · exact G.low p z
        · exact .inr (Nat.le_trans nle (hd'.npv p (List.mem_filter.mp z).1).1)
    have tk : Takes (X.tr (X.pn ++ ((pins ++ GP) ++ (a, go0) :: pv')) fun u s' => XEp X ((pins ++ GP) ++ (a, go0) :: pv') W u s') W := fun u s' xx => XEp.of_tr I3.ok xx
    -- the target
    refine wpAny_mono (liftt noX I3 fun s J => (hg _).run [] s σ _ x v _ J rv st) (fun _ s4 ⟨u4, l4, σ4, H4, I4, q4⟩ => ?_) fun _ _ ⟨_, _, z⟩ => z.elim
    have I4' : L2.Inv X ((pins ++ GP) ++ (a, go0) :: pv') σ4 H4 s4 := (l4.inv I3.bare I4).ofTry I3.ok
    -- the body
    refine wpAny_mono (unere (lift2 l4 ((hb _ _ tk).run [] u4 σ4 H4 _ (by
        have z : L2.Inv (X.tr (X.pn ++ ((pins ++ GP) ++ (a, go0) :: pv')) fun u s' => XEp X ((pins ++ GP) ++ (a, go0) :: pv') W u s') [] σ4 H4 u4 := (I4.ofTry I3.ok).toTry _
        exact z) q4))) (fun fl s5 ⟨u5, l5, q5⟩ => ?_) fun e s5 ⟨u5, l5, x5⟩ => pass ⟨GP', (XEp.like x5 l5 I3.bare).sub pins_in, out l5⟩
    have q5' : SP X ((pins ++ GP) ++ (a, go0) :: pv') _ fl s5 := of_sp I3.ok l5 I3.bare q5
    obtain ⟨k6, l6, c6, p6, fs6, cl6, hsu⟩ := hsu
    have again : ∀ {σ5 : L2.St} {H5 : Hp}, L2.Inv X ((pins ++ GP) ++ (a, go0) :: pv') σ5 H5 s5 → TSub (mrg H Hg') H5 → Wv r σ5 H5 → ∃ m, m < (it :: r).length ∧ ∃ (its : List Item) (σ : L2.St) (H : Hp) (Hg : Hp) (pv : List (Addr × Obj)) (gl : List Nat) (gs : GenState) (sy : Shared), its.length = m ∧ Hand X (pins ++ GP) nn a gn go0 Hg pv σ H s5 ∧ s5.gens[gn]? = some gs ∧ Asleep Xg nn X.A.in1 gn its Hg pv gl sy gs ∧
        (∀ (i : Nat) k l c p fs cl, gn < i → sy.gens[i]? = some (GenState.suspended k l c p fs cl) → s5.gens[i]? = some (GenState.suspended k l c p fs cl)) ∧ Td (PoG Po.po GP) (gn :: gl) s5 ∧ Wv its σ H := fun {σ5 H5} I5 ts w5 => by
      refine ⟨r.length, Nat.lt_succ_self _, r, σ5, H5, Hg', pv', gl', gs', s₁, rfl, ⟨I5, hd'.low, hd'.loc, hd'.cel, hd'.na, hd'.npv, ?_, hd'.tup, fun b xs e => ts b xs (hd'.sub b xs e)⟩, ?_, hA', fun i k' l c' p' fs cl hi h => ?_, fun i y it' e m => td3 i y it' (like_mrk l5 e m) m, w5⟩
      · have := Heap.lt_size (I5.pin (a, go0) (List.mem_append_right _ (List.mem_append_right _ List.mem_cons_self))).1
        exact Nat.le_trans hd'.na (Nat.le_of_lt this)
      · subst hsu
        refine l5.sleeps gn _ _ _ _ _ _ ?_
        show (s₁.gens.setIfInBounds gn _)[gn]? = _
        rw [Array.getElem?_setIfInBounds, if_pos rfl, if_pos (Nat.lt_of_lt_of_le hgl hsz')]
      · refine l5.sleeps i _ _ _ _ _ _ ?_
        show (s₁.gens.setIfInBounds gn _)[i]? = _
        rw [Array.getElem?_setIfInBounds, if_neg fun z => by omega]
        exact h
    cases fl with
    | next => obtain ⟨σ5, H5, I5, ts, w5⟩ := q5'; exact again I5 ts w5
    | cont => obtain ⟨σ5, H5, I5, ts, w5⟩ := q5'; exact again I5 ts w5
    | brk => obtain ⟨σ5, H5, I5, q5⟩ := q5'; exact ⟨GP', ⟨σ5, H5, pins_perm I5 pins_in, q5⟩, out l5⟩
    | ret v => obtain ⟨x5, σ5, H5, I5, r5, q5⟩ := q5'; exact ⟨GP', ⟨x5, σ5, H5, pins_perm I5 pins_in, r5, q5⟩, out l5⟩
end
end Em
end
section
set_option linter.all false
set_option maxRecDepth 100000
set_option maxHeartbeats 2000000
/-! M8: try with clauses that give the exception a name, at the erased model; all that the body raises is caught. -/
namespace Em
open PySem PySem.Spec PyProof.Rows L2 GenW Gp Er Gm

abbrev Clause := Value × Nat × (Addr → Value → Option Addr → TS)
/-- what the clauses wish of an exception of the body, one after the other; none passes -/
def wishes (K : PySem.W.Frag) (D : Ends) : List Clause → WX
  | [] => fun _ _ _ _ => False
  | (c, i, ts) :: r => wAs K c i ts (wishes K D r) D
inductive HdsAs (X : Cx) : List ExceptHandler → List Clause → Prop
  | nil : HdsAs X [] []
  | cons {x n : Str} {c : Value} {i : Nat} {ts : Addr → Value → Option Addr → TS} {b₀ : Stmt} {suite : List Stmt} {np pos' : Pos} {hds : List ExceptHandler} {l : List Clause} (hi : X.N[i]? = some n) (hln : X.env.kindOf n = some .local) (hc : Names X x c)
      (hsu : ∀ (a : Addr) (oe : Obj) (cls : Value) (d : Option Addr) (pn : List (Addr × Obj)), Zc cls d oe → (∃ vs, oe.data = .fields vs) → PSs (X.suite a ((a, oe) :: pn)) (b₀ :: suite) (ts a cls d)) (r : HdsAs X hds l) :
      HdsAs X (.ExceptHandler (some (.Name x np)) (some n) (b₀ :: suite) pos' :: hds) ((c, i, ts) :: l)
/-- what is done with it -/
def caught (u : Value) (env : Env) (hds : List ExceptHandler) : Sem Flow := do
  noteFrame u env
  setFlight u none
  handleBy u env hds
section
variable {X : Cx} {pins : List (Addr × Obj)} {hds : List ExceptHandler} {l : List Clause} {D : Ends}
theorem catch_as (hs : OnStack X) (hN : X.N.Nodup) (hh : HdsAs X hds l) {u : Value} {s' : Shared} (x : XEp X pins (wishes X.K D l) u s') : wpAny (model X.prog X.w) X.A (caught u X.env hds) (SP X pins D) noX s' := by
  obtain ⟨a, B, sI, σ', H', cls, d, rfl, J, nb, up, sky, na, os, ag, w⟩ := x
  have ok := J.ok
  have hfr : X.A.frames = some (X.env :: X.outer) := by rw [ok.frames, hs.stk]
  rw [hs.stk] at sky
  have land := Sky.land (M := model X.prog X.w) (E₁ := noX) (Q := fun _ s3 => wpAny (model X.prog X.w) X.A (handleBy (.ref a) X.env hds) (SP X pins D) noX s3) Zc.steady hfr hs.frm sky fun h3 fl3 up3 => ?_
  · refine wpAny_bind (wpAny_mono land (fun _ s2 h2 => wpAny_bind (wpAny_mono h2 (fun _ s3 h3 => h3) fun _ _ z => z)) fun _ _ z => z)
  have J3 : L2.Inv X pins σ' H' { s' with heap := h3 } := J.landed nb fl3.1 (up.trans up3) os ag
  obtain ⟨oe3, vs3, he3, hz3, hd3⟩ := fl3.there
  have nfr : a ∉ frs (X.env :: X.outer) := fun hm => by
    obtain ⟨_, o', e', hnf⟩ := fl3.2.2.1.mem hm
    have e' : h3.get? a = some o' := e'
    rw [he3] at e'
    cases e'
    exact hnf _ hd3
  have nL : a ≠ X.env.locals := fun z => nfr (List.mem_filterMap.mpr ⟨X.env, List.mem_cons_self, by rw [hs.frm, z]⟩)
  have nF : a ∉ X.fs := fun hm => by
    obtain ⟨e, he, q⟩ := List.mem_filterMap.mp hm
    exact nfr (List.mem_filterMap.mpr ⟨e, List.mem_cons_of_mem _ he, q⟩)
  have S3 := J3.suite he3 hd3 na nL nF
  induction hh with
  | nil => exact w.elim
  | @cons x n c i ts b₀ suite np pos' hds2 l2 hi hln hc hsu r ih =>
    obtain ⟨b, hb1, hyes, hno⟩ := w
    refine wpAny_handleBy_cons (codeAny_handlers_test ?_) (by intro q; cases q)
    have LT : PySem.W.Looks (model X.prog X.w) h3 (typeOf (.ref a)) cls := fun A Q E s k q => wpAny_typeOf_ref (k _ _ he3) (by rw [hz3.1]; exact q)
    have LM := PySem.W.exm_one (M := model X.prog X.w) (J3.kIn) LT hb1
    have test : ∀ {Q : Value → Shared → Prop} {E : Value → Shared → Prop}, Q c { s' with heap := h3 } → wpAny (model X.prog X.w) (X.A.mark (some (.ref a))) (eval (.Name x np) X.env) Q E { s' with heap := h3 } := fun {Q E} q => by
      obtain ⟨hg, hdbg, hm | ⟨hm, hv, hnn⟩⟩ := hc
      · exact ld_glob (X := X.suite a ((a, oe3) :: (X.pn ++ pins))) S3 hg hm q hdbg
      · exact ld_blt (X := X.suite a ((a, oe3) :: (X.pn ++ pins))) S3 hg hm hv q hnn hdbg
    refine test (LM.here ?_)
    cases b with
    | true =>
      refine codeAny_handlers_suite_as ?_
      refine HandSPX.lands_againZ fl3 fun h4 fl4 up4 => ?_
      have J4 : L2.Inv X pins σ' H' { s' with heap := h4 } := J.landed nb fl4.1 ((up.trans up3).trans up4) os ag
      obtain ⟨oe4, vs4, he4, hz4, hd4⟩ := fl4.there
      have S4 := J4.suite he4 hd4 na nL nF
      refine store_ok (X := X.suite a ((a, oe4) :: (X.pn ++ pins))) (v := .ref a) S4 hN hi (.inl hln) rfl (fun s5 S5 => ?_) (.inr hln)
      refine wpAny_mono ((hsu a oe4 cls d (X.pn ++ pins) hz4 ⟨_, hd4⟩).run [] s5 _ H' _ S5 (hyes rfl a na)) (fun f s6 hsp => ?_) (fun _ _ z => False.elim z)
      have close : ∀ {σ6 : L2.St} {H6 : Hp} {Q : Shared → Prop}, L2.Inv (X.suite a ((a, oe4) :: (X.pn ++ pins))) [] σ6 H6 s6 → (∀ s7, L2.Inv X pins (σ6.set i none) H6 s7 → Q s7) →
          wpAny (model X.prog X.w) X.A (do bindName X.env n .none; unbindBehindTheSuite X.env n pos') (fun _ s7 => Q s7) noX s6 := fun {σ6 H6 Q} S6 hq => gone_ok (S6.unsuite ok) hN hi hln hq
      cases f with
      | next => obtain ⟨σ6, H6, S6, q6⟩ := hsp; exact close S6 fun s7 J7 => ⟨_, _, J7, q6⟩
      | brk => obtain ⟨σ6, H6, S6, q6⟩ := hsp; exact close S6 fun s7 J7 => ⟨_, _, J7, q6⟩
      | cont => obtain ⟨σ6, H6, S6, q6⟩ := hsp; exact close S6 fun s7 J7 => ⟨_, _, J7, q6⟩
      | ret u => obtain ⟨v6, σ6, H6, S6, r6, q6⟩ := hsp; exact close S6 fun s7 J7 => ⟨_, _, _, J7, r6, q6⟩
    | false =>
      show wpAny _ X.A (handleBy (.ref a) X.env hds2) _ _ _
      exact ih (hno rfl)
end
section
variable {X : Cx} {Po : Dg} {W : WX} {body : List Stmt} {h₀ : ExceptHandler} {hds : List ExceptHandler} {l : List Clause} {pos : Pos} {tb : WX → TS}
theorem ps2_try (hs : OnStack X) (hN : X.N.Nodup) (hb : ∀ V : WX, PSs2 X Po V body (tb V)) (hh : HdsAs X (h₀ :: hds) l) : PS2 X Po W (.Try body (h₀ :: hds) [] [] pos) (fun D σ H => tb (wishes X.K D l) D σ H) := by
  refine ⟨fun pins GP s σ H D I g hn h => ?_⟩
  rw [arm_exec_Try]
  refine wpAny_bind (wpAny_standAt ?_)
  unfold tryStmt
  simp only [List.isEmpty_nil, if_true, List.isEmpty_cons, Bool.false_and, Bool.false_eq_true, if_false]
  refine wpAny_bind (wpAny_attempt (wpAny_mono ((hb (wishes X.K D l)).run pins GP s σ H D I g hn h) (fun f s1 hq => ?_) fun e s1 hx => ?_))
  · obtain ⟨GP1, q, g1⟩ := hq
    cases f with
    | next => exact wpAny_execs_nil ⟨GP1, q, g1⟩
    | brk => exact wpAny_pure ⟨GP1, q, g1⟩
    | cont => exact wpAny_pure ⟨GP1, q, g1⟩
    | ret v => exact wpAny_pure ⟨GP1, q, g1⟩
  · obtain ⟨GP1, x, g1⟩ := hx
    have hb1 : AllBare s1.gens := by
      obtain ⟨_, _, _, _, _, _, _, _, _, _, _, _, _, _, ag, _⟩ := x
      exact ag
    have x0 : XEp X (pins ++ GP1) (wishes X.K D l) e { s1 with gens := blankA s1.gens } := by
      obtain ⟨a, B, sI, σ, H, cls, d, e, J, nb, up, sky, na, os, ag, w⟩ := x
      exact ⟨a, B, sI, σ, H, cls, d, e, J, nb, up, sky, na, os, blankA_bare _, w⟩
    refine wpAny_mono (unere (lift (M := model X.prog X.w) (catch_as hs hN hh x0))) (fun f s2 ⟨u2, l2, q2⟩ => ⟨GP1, ?_, g1.like l2⟩) fun _ _ ⟨_, _, z⟩ => z.elim
    exact sp_like l2 hb1 q2
end
end Em
end
section
set_option linter.all false
set_option maxRecDepth 100000
set_option maxHeartbeats 1000000
/-! S1: a run of the erased model is one of the program's own, step by step. -/
namespace Er
open PySem PyProof.Rows

/-- as the erased model has it: no cleanup -/
def zG : GenState → GenState
  | .suspended k _ c p fs cl => .suspended (fun r => er (k r)) (if cl then mkd else []) c p (fs.map erF) false
  | x => x
def zS (s : Shared) : Shared := { s with gens := s.gens.map zG }
def zT (t : Thread) : Thread := ⟨er t.cur, t.code, t.pos, t.stack.map erF⟩
def zStep : Step → Step
  | .go s t => .go (zS s) (zT t)
  | .halt o s => .halt o (zS s)
/-- asleep at a yield with cleanup: it delegates -/
def okG : GenState → Prop
  | .suspended _ _ c _ fs true => fs.any Frame.guarded = false ∧ ∃ it rest kw, c = .builtin "proto.yield_from" ⟨.ref it :: rest, kw⟩
  | _ => True
def OkS (s : Shared) : Prop := ∀ (i : Nat) (x : GenState), s.gens[i]? = some x → okG x
def loudYield : Sem PySem.Fin → Bool
  | .yield _ true _ _ => true
  | _ => false

theorem zG_seen (x : GenState) : (zG x).seen = x.seen := by
  cases x with
  | suspended k l c p fs cl => show (GenStatus.suspended, some ((c, p) :: (fs.map erF).map Frame.where_)) = _; rw [map_where]; rfl
  | _ => rfl
theorem zS_get {s : Shared} (g : Nat) : (zS s).gens[g]? = s.gens[g]?.map zG := by
  show (s.gens.map zG)[g]? = _
  rw [Array.getElem?_map]
theorem map_set {A : Array GenState} {g : Nat} {x : GenState} : (A.map zG).setIfInBounds g (zG x) = (A.setIfInBounds g x).map zG := by
  apply Array.ext_getElem?
  intro i
  rw [Array.getElem?_map, Array.getElem?_setIfInBounds, Array.getElem?_setIfInBounds, Array.getElem?_map, Array.size_map]
  by_cases e : g = i
  · rw [if_pos e, if_pos e]
    split <;> rfl
  · rw [if_neg e, if_neg e]
theorem topHandled_map (fs : List Frame) : topHandled (fs.map erF) = topHandled fs := topHandled_er fs

section
variable {M : Model}
theorem step_z {s : Shared} {t : Thread} (he : t.atItsEnd = false) (hy : loudYield t.cur = false) (hl : (zT t).loud = false) : step (M2 M).den M.prog M.w (zS s) (zT t) = zStep (step M.den M.prog M.w s t) := by
  obtain ⟨heap, gens, drawn, toks, os⟩ := s
  obtain ⟨cur, code, pos, stack⟩ := t
  cases cur with
  | pure f =>
    cases f with
    | again c =>
      cases stack with
      | nil => cases code <;> cases c <;> rfl
      | cons F fs =>
        cases F with
        | gen g k l c' p => cases code <;> cases c <;> rfl
        | ret k h g l c' p kp =>
          cases code <;> cases c <;> rfl
    | done f =>
      cases stack with
      | nil => cases he
      | cons F fs =>
        cases F with
        | gen g k l c' p =>
          show Step.go ⟨heap, (gens.map zG).setIfInBounds g .finished, drawn, toks, os⟩ _ = Step.go ⟨heap, (gens.setIfInBounds g .finished).map zG, drawn, toks, os⟩ _
          rw [← map_set]; rfl
        | ret k h g l c' p kp => rfl
  | raise e =>
    cases stack with
    | nil => cases he
    | cons F fs =>
      cases F with
      | gen g k l c' p =>
        show Step.go ⟨heap, (gens.map zG).setIfInBounds g .finished, drawn, toks, os⟩ _ = Step.go ⟨heap, (gens.setIfInBounds g .finished).map zG, drawn, toks, os⟩ _
        rw [← map_set]; rfl
      | ret k h g l c' p kp => rfl
  | unsupported w => rfl
  | finish e => cases he
  | rule _ k => rfl
  | «at» p k => rfl
  | load a p k =>
    show (match heap.get? a with | some o => Step.go _ _ | none => Step.halt _ _) = zStep (match heap.get? a with | some o => Step.go _ _ | none => Step.halt _ _)
    cases heap.get? a <;> rfl
  | update a p f k =>
    show (if (heap.get? a).isSome then Step.go _ _ else Step.halt _ _) = zStep (if (heap.get? a).isSome then Step.go _ _ else Step.halt _ _)
    cases (heap.get? a).isSome <;> rfl
  | alloc o k => rfl
  | loadIfAlive a k => rfl
  | point l k => rfl
  | register a k => rfl
  | fresh k => rfl
  | ask k => rfl
  | choose src n k =>
    show (if n = 0 then Step.halt _ _ else Step.go _ _) = zStep (if n = 0 then Step.halt _ _ else Step.go _ _)
    by_cases e : n = 0
    · rw [if_pos e, if_pos e]; rfl
    · rw [if_neg e, if_neg e]; rfl
  | os q l k => rfl
  | call c h g l k => rfl
  | handled own k =>
    have h1 : ∀ b : Bool, topHandled (if b then (match splitAtGen (stack.map erF) with | some (fs, _, _) => fs | none => stack.map erF) else stack.map erF) = topHandled (if b then (match splitAtGen stack with | some (fs, _, _) => fs | none => stack) else stack) := by
      intro b
      cases b with
      | false => exact topHandled_er stack
      | true =>
        rw [if_pos rfl, if_pos rfl, split_er]
        cases splitAtGen stack with
        | none => exact topHandled_er stack
        | some x => exact topHandled_er x.1
    exact congrArg (fun z => Step.go (zS ⟨heap, gens, drawn, toks, os⟩) ⟨er (k z), code, pos, stack.map erF⟩) (h1 own)
  | genState g k =>
    show (match (gens.map zG)[g]? with | none => Step.halt _ _ | some st => Step.go _ ⟨er (k _), _, _, _⟩) = zStep (match gens[g]? with | none => Step.halt _ _ | some st => Step.go _ ⟨k _, _, _, _⟩)
    rw [Array.getElem?_map]
    cases gens[g]? with
    | none => rfl
    | some x =>
      cases x with
      | suspended k' l c p fs cl =>
        show Step.go _ ⟨er (k (GenStatus.suspended, some ((c, p) :: (fs.map erF).map Frame.where_))), _, _, _⟩ = _
        rw [map_where]; rfl
      | _ => rfl
  | stack k =>
    show Step.go _ ⟨er (k ((code, pos) :: (stack.map erF).map Frame.where_)), _, _, _⟩ = _
    rw [map_where]; rfl
  | newGen c k =>
    show Step.go ⟨heap, (gens.map zG).push (.fresh c), drawn, toks, os⟩ ⟨er (k (gens.map zG).size), _, _, _⟩ = Step.go ⟨heap, (gens.push (.fresh c)).map zG, drawn, toks, os⟩ ⟨er (k gens.size), _, _, _⟩
    rw [Array.map_push, Array.size_map]; rfl
  | resume g r l k =>
    show (match (gens.map zG)[g]? with | none => Step.halt _ _ | some (.fresh c) => _ | some (.suspended kk _ c p frames _) => _ | some .running => _ | some .finished => _) = zStep (match gens[g]? with | none => Step.halt _ _ | some (.fresh c) => _ | some (.suspended kk _ c p frames _) => _ | some .running => _ | some .finished => _)
    rw [Array.getElem?_map]
    cases gens[g]? with
    | none => rfl
    | some x =>
      cases x with
      | fresh c =>
        cases r with
        | send v =>
          cases v with
          | none =>
            show Step.go ⟨heap, (gens.map zG).setIfInBounds g .running, drawn, toks, os⟩ _ = Step.go ⟨heap, (gens.setIfInBounds g .running).map zG, drawn, toks, os⟩ _
            rw [← map_set]; rfl
          | _ => rfl
        | throw e =>
          show Step.go ⟨heap, (gens.map zG).setIfInBounds g .finished, drawn, toks, os⟩ _ = Step.go ⟨heap, (gens.setIfInBounds g .finished).map zG, drawn, toks, os⟩ _
          rw [← map_set]; rfl
      | suspended kk l' c p fs cl =>
        show Step.go ⟨heap, (gens.map zG).setIfInBounds g .running, drawn, toks, os⟩ ⟨er (kk r), c, p, fs.map erF ++ .gen g (fun x => er (k x)) l code pos :: stack.map erF⟩ = Step.go ⟨heap, (gens.setIfInBounds g .running).map zG, drawn, toks, os⟩ ⟨er (kk r), c, p, (fs ++ .gen g k l code pos :: stack).map erF⟩
        rw [← map_set, List.map_append]; rfl
      | running => rfl
      | finished => rfl
  | «yield» v g0 l kk =>
    cases g0 with
    | true => cases hy
    | false =>
      show (match splitAtGen (stack.map erF) with | some (frames, (g, k, c, p), rest) => Step.go _ _ | none => Step.halt _ _) = zStep (match splitAtGen stack with | some (frames, (g, k, c, p), rest) => Step.go _ _ | none => Step.halt _ _)
      rw [split_er]
      cases hs : splitAtGen stack with
      | none => rfl
      | some x =>
        obtain ⟨frames, ⟨g, k, c, p⟩, rest⟩ := x
        show Step.go ⟨heap, (gens.map zG).setIfInBounds g (.suspended (fun r => er (kk r)) [] code pos (frames.map erF) (false || (frames.map erF).any Frame.guarded)), drawn, toks, os⟩ _ = Step.go ⟨heap, (gens.setIfInBounds g (.suspended kk l code pos frames (false || frames.any Frame.guarded))).map zG, drawn, toks, os⟩ _
        have hq : frames.any Frame.guarded = false := by
          have h2 : Thread.loud ⟨.yield v false [] (fun x => er (kk x)), code, pos, stack.map erF⟩ = false := hl
          rw [Thread.loud_yield v false [] _ code pos (by rw [split_er, hs]; rfl)] at h2
          rw [any_guarded, Bool.false_or] at h2
          exact h2
        rw [any_guarded, hq, ← map_set]; rfl
  | thread k => rfl
  | fork c k => rfl
  | await a t d l k => rfl
end
end Er
end
section
set_option linter.all false
set_option maxRecDepth 100000
set_option maxHeartbeats 1000000
/-! S2: steps of the program's own machine: a yield with cleanup that delegates to a generator; the end. -/
namespace Er
open PySem PyProof.Rows

theorem calm_z {t : Thread} (hy : loudYield t.cur = false) (h : (zT t).calm = true) : t.calm = true := by
  obtain ⟨cur, code, pos, stack⟩ := t
  cases cur with
  | «yield» v g0 l k =>
    cases g0 with
    | true => cases hy
    | false =>
      have h' : Thread.calm ⟨.yield v false [] (fun x => er (k x)), code, pos, stack.map erF⟩ = true := h
      show Thread.calm ⟨.yield v false l k, code, pos, stack⟩ = true
      simp only [Thread.calm, Thread.atCollectorCode, Thread.yieldsInsideHandler, split_er] at h' ⊢
      cases hs : splitAtGen stack with
      | none => rw [hs] at h'; exact h'
      | some x =>
        obtain ⟨frames, b, rest⟩ := x
        rw [hs] at h'
        obtain ⟨g, kk, c, p⟩ := b
        simp only [Option.map_some, any_guarded] at h'
        exact h'
  | pure f => cases f <;> exact h
  | _ => exact h

section
variable {M : Model}
/-- the machine at a yield over a generator -/
theorem loud_step {s : Shared} {v : Value} {l : List Value} {k : Resume → Sem PySem.Fin} {code : Code} {pos : Pos} {stack : List Frame} (hz : s.asleep) {it : Addr} {o : Obj} {rest : List Value} {kw : List (Str × Value)} (hc : code = .builtin "proto.yield_from" ⟨.ref it :: rest, kw⟩)
    (ho : s.heap.get? it = some o) (hg : isG o = true) {frames : List Frame} {b} {more} (hs : splitAtGen stack = some (frames, b, more)) (hq : frames.any Frame.guarded = false) :
    sstep M.den M.prog M.w (.single s ⟨.yield v true l k, code, pos, stack⟩) = (step M.den M.prog M.w s ⟨.yield v true l k, code, pos, stack⟩).lift := by
  obtain ⟨hr, hct⟩ := hz
  have h1 : (Config.single s ⟨.yield v true l k, code, pos, stack⟩).collect? M.w.params = none := by
    simp [Config.collect?, Config.single, (nothing_to_collect _ _ _ s ⟨.yield v true l k, code, pos, stack⟩ hr).1]
  have h2 : (Config.single s ⟨.yield v true l k, code, pos, stack⟩).collectable = [] := by
    simp [Config.collectable, Config.single, (nothing_to_collect M.w.params _ _ s ⟨.yield v true l k, code, pos, stack⟩ hr).2]
  have h3 : ∀ pr, (Config.single s ⟨.yield v true l k, code, pos, stack⟩).moves pr = [.run 0] := fun pr => by
    simp [Config.moves, Config.single, movesFrom, Thread.moves]
  have hp : (Config.single s ⟨.yield v true l k, code, pos, stack⟩).pick M.w = .ok (.run 0, .single s ⟨.yield v true l k, code, pos, stack⟩) := by
    simp only [Config.pick, h1, h2, Config.pickThread, h3]
    cases M.w.params.lifetimes <;> simp
  have hd : delegateShows s (.ref it) = false := by
    have hg' : o.genNumber?.isSome = true := hg
    unfold delegateShows
    simp only [ho]
    cases e : o.genNumber? with
    | none => rw [e] at hg'; cases hg'
    | some n =>
      show s.heap.life.registered.contains it = false
      rw [hr]; rfl
  have hcl : closingShows s frames code true = false := by
    subst hc
    show (frames.any Frame.guarded || (true && delegateShows s (.ref it))) = false
    rw [hq, hd]; rfl
  have hl : ∀ others, lifeStep M.den M.prog M.w others s ⟨.yield v true l k, code, pos, stack⟩ = step M.den M.prog M.w s ⟨.yield v true l k, code, pos, stack⟩ := by
    intro others
    have hsp : Thread.special ⟨.yield v true l k, code, pos, stack⟩ = true := by
      simp [Thread.special, Thread.yieldsInsideHandler]
    simp [lifeStep, hsp, collectorTurn?, hs, hcl, Thread.atItsEnd, stepCounting, hct]
  have hrun : (Config.single s ⟨.yield v true l k, code, pos, stack⟩).run M.den M.prog M.w 0 = (step M.den M.prog M.w s ⟨.yield v true l k, code, pos, stack⟩).lift := by
    simp only [Config.run, Config.single]
    simp [hl, others_single, frozenBadly, ThreadState.insideWrite, Thread.finalizes]
    split <;> simp_all [Step.lift, Config.single] <;> split <;> simp
  simp only [sstep, hp, Config.move]
  exact hrun
/-- the machine at the end -/
theorem end_step {s : Shared} {t : Thread} {o : Outcome} (hz : s.asleep) (ht : t = ⟨t.cur, t.code, t.pos, []⟩) (hc : (∃ f, t.cur = .pure (.done f) ∧ o = .done f) ∨ ∃ e, t.cur = .raise e ∧ o = .uncaught e)
    (hw : leftWithCleanup (forgetSuspended (M.w.params.lifetimes == .anyTime) s).gens = false) :
    sstep M.den M.prog M.w (.single s t) = .halt o (forgetSuspended (M.w.params.lifetimes == .anyTime) s) := by
  have hcalm : t.calm = true := by
    rw [ht]
    rcases hc with ⟨f, e, _⟩ | ⟨f, e, _⟩ <;> (rw [e]; rfl)
  have hend : t.atItsEnd = true := by
    rw [ht]
    rcases hc with ⟨f, e, _⟩ | ⟨f, e, _⟩ <;> (rw [e]; rfl)
  have hl : ∀ others, lifeStep M.den M.prog M.w others s t = .halt o (forgetSuspended (M.w.params.lifetimes == .anyTime) s) := by
    intro others
    rw [lifeStep_calm0 M.den M.prog M.w others s t hcalm hz, hend, if_pos rfl, ht]
    generalize forgetSuspended (M.w.params.lifetimes == .anyTime) s = u at hw ⊢
    obtain ⟨heap, gens, drawn, toks, os⟩ := u
    rcases hc with ⟨f, e, e2⟩ | ⟨f, e, e2⟩
    · rw [e, e2]
      simp only [step, finish, hw]
      rfl
    · rw [e, e2]
      simp only [step, finish, hw]
      rfl
  simp only [sstep, pick_single M.w s t hcalm hz.1, Config.move]
  obtain ⟨cur, code, pos, stack⟩ := t
  have hst : stack = [] := congrArg Thread.stack ht
  subst hst
  rcases hc with ⟨f, e, e2⟩ | ⟨f, e, e2⟩
  · have e : cur = .pure (.done f) := e
    subst e
    simp only [Config.run, Config.single]
    simp [hl, others_single, frozenBadly, ThreadState.insideWrite, Thread.finalizes]
  · have e : cur = .raise f := e
    subst e
    simp only [Config.run, Config.single]
    simp [hl, others_single, frozenBadly, ThreadState.insideWrite, Thread.finalizes]
end
end Er
end
section
set_option linter.all false
set_option maxRecDepth 100000
set_option maxHeartbeats 1000000
/-! S3: what ends well at the erased model ends so on the machine. -/
namespace Er
open PySem PyProof.Rows

/-- who delegates and sleeps does it to what is a generator still -/
def Tidy (u : Shared) : Prop := ∀ (i : Nat) (k : Resume → Sem PySem.Fin) (it : Addr) (rest : List Value) (kw : List (Str × Value)) (p : Pos) (fs : List Frame) (cl : Bool),
  u.gens[i]? = some (GenState.suspended k mkd (.builtin "proto.yield_from" ⟨.ref it :: rest, kw⟩) p fs cl) → ∃ o, u.heap.get? it = some o ∧ isG o = true

theorem ok_set {gens : Array GenState} {g : Nat} {x : GenState} (h : ∀ (i : Nat) (x : GenState), gens[i]? = some x → okG x) (hx : okG x) : ∀ (i : Nat) (y : GenState), (gens.setIfInBounds g x)[i]? = some y → okG y := by
  intro i y hy
  rw [Array.getElem?_setIfInBounds] at hy
  split at hy
  · split at hy
    · cases hy; exact hx
    · cases hy
  · exact h i y hy
section
variable {M : Model}
theorem ok_step {s s2 : Shared} {t t2 : Thread} (hy : loudYield t.cur = false) (hl : (zT t).loud = false) (h : step M.den M.prog M.w s t = .go s2 t2) (ok : OkS s) : OkS s2 := by
  obtain ⟨heap, gens, drawn, toks, os⟩ := s
  obtain ⟨cur, code, pos, stack⟩ := t
  have key : ∀ g x, okG x → OkS ⟨heap, gens.setIfInBounds g x, drawn, toks, os⟩ := fun g x hx => ok_set ok hx
  cases cur with
  | «yield» v g0 l kk =>
    cases g0 with
    | true => cases hy
    | false =>
      have h2 : Thread.loud ⟨.yield v false [] (fun x => er (kk x)), code, pos, stack.map erF⟩ = false := hl
      simp only [step] at h
      cases hs : splitAtGen stack with
      | none => rw [hs] at h; cases h
      | some x =>
        obtain ⟨frames, ⟨g, k, c, p⟩, rest⟩ := x
        rw [hs] at h
        rw [Thread.loud_yield v false [] _ code pos (by rw [split_er, hs]; rfl), any_guarded, Bool.false_or] at h2
        dsimp only at h
        rw [h2] at h
        cases h
        exact key _ _ trivial
  | newGen c k =>
    cases h
    intro i x hx
    have hx : (gens.push (.fresh c))[i]? = some x := hx
    rw [Array.getElem?_push] at hx
    split at hx
    · cases hx; trivial
    · exact ok i x hx
  | _ =>
    simp only [step, finish] at h
    repeat' split at h
    all_goals first
      | (cases h; exact ok)
      | (cases h; exact key _ _ trivial)
      | (cases h; done)
      | (rename_i hh; cases hh; done)
      | (simp_all; done)
theorem clean_end {s : Shared} {all : Bool} (hr : s.asleep) (ok : OkS s) (T : Tidy (zS s)) : leftWithCleanup (forgetSuspended all s).gens = false := by
  unfold leftWithCleanup
  rw [Array.any_eq_false]
  intro i hi
  have e := (Array.getElem?_eq_some_iff.mpr ⟨hi, rfl⟩ : (forgetSuspended all s).gens[i]? = some _)
  generalize (forgetSuspended all s).gens[i] = y at e ⊢
  have e0 : (s.gens.map _)[i]? = some y := e
  rw [Array.getElem?_map] at e0
  cases q : s.gens[i]? with
  | none => rw [q] at e0; cases e0
  | some x =>
    rw [q] at e0
    have okx := ok i x q
    cases x with
    | suspended k l c p fs cl =>
      cases cl with
      | false => cases e0; exact Bool.false_ne_true
      | true =>
        obtain ⟨h1, it, rest, kw, h2⟩ := okx
        subst h2
        obtain ⟨o, ho, hg⟩ := T i _ it rest kw p _ _ (by rw [zS_get, q]; rfl)
        have ho : s.heap.get? it = some o := ho
        have hcl : closingShows s fs (.builtin "proto.yield_from" ⟨.ref it :: rest, kw⟩) true = false := by
          have hd : delegateShows s (.ref it) = false := by
            have hg' : o.genNumber?.isSome = true := hg
            unfold delegateShows
            simp only [ho]
            cases e : o.genNumber? with
            | none => rw [e] at hg'; cases hg'
            | some n =>
              show s.heap.life.registered.contains it = false
              rw [hr.1]; rfl
          show (fs.any Frame.guarded || (true && delegateShows s (.ref it))) = false
          rw [h1, hd]; rfl
        simp only [Option.map_some, hcl, Bool.not_false, Bool.or_true, if_true] at e0
        cases e0
        exact Bool.false_ne_true
    | fresh c => cases e0; exact Bool.false_ne_true
    | running => cases e0; exact Bool.false_ne_true
    | finished => cases e0; exact Bool.false_ne_true

theorem run_go {s s2 : Shared} {t t2 : Thread} {n : Nat} {den p w} (h : step den p w s t = .go s2 t2) : runN den p w (n + 1) s t = runN den p w n s2 t2 := by simp only [runN, h]
theorem run_halt {s s2 : Shared} {t : Thread} {n : Nat} {o} {den p w} (h : step den p w s t = .halt o s2) : runN den p w (n + 1) s t = .halted o s2 := by simp only [runN, h]
theorem no_out {r : Result} {o : Outcome} (h : o = outcomeOf r) : o.ends = true := by rw [h]; cases r <;> rfl

theorem sim : ∀ (n : Nat) (s : Shared) (t : Thread) (r : Result) (u : Shared), s.asleep → OkS s → runN (M2 M).den M.prog M.w n (zS s) (zT t) = .halted (outcomeOf r) u →
    (∀ k s₁ t₁, runN (M2 M).den M.prog M.w k (zS s) (zT t) = .running s₁ t₁ → t₁.calm = true) → Tidy u →
    ∃ m s', schedN M.den M.prog M.w m (.single s t) = .halted (outcomeOf r) s' ∧ s'.heap = u.heap ∧ s'.os = u.os := by
  intro n
  induction n using Nat.strongRecOn with
  | ind n ih =>
    intro s t r u hz ok hrun hcalm T
    cases n with
    | zero => cases hrun
    | succ n =>
      cases hy : loudYield t.cur with
      | true =>
        obtain ⟨cur, code, pos, stack⟩ := t
        cases cur with
        | «yield» v g0 l k =>
          cases g0 with
          | false => cases hy
          | true =>
            -- the erased model: look, load, yield
            have s1 : step (M2 M).den M.prog M.w (zS s) (zT ⟨.yield v true l k, code, pos, stack⟩) = .go (zS s) ⟨chkD v mkd (fun x => er (k x)) (deleg ((code, pos) :: (stack.map erF).map Frame.where_)), code, pos, stack.map erF⟩ := rfl
            rw [run_go s1] at hrun
            cases n with
            | zero => cases hrun
            | succ n =>
              cases hd : deleg ((code, pos) :: (stack.map erF).map Frame.where_) with
              | none =>
                rw [hd] at hrun
                rw [run_halt (o := .unsupported "") (s2 := zS s) rfl] at hrun
                injection hrun with e _
                cases no_out e
              | some it =>
                have hcode : ∃ rest kw, code = .builtin "proto.yield_from" ⟨.ref it :: rest, kw⟩ := by
                  unfold deleg at hd
                  split at hd
                  · rename_i it' rest kw p' more hh
                    cases hd
                    injection hh with h1 h2
                    injection h1 with h1 h3
                    exact ⟨rest, kw, h1⟩
                  · cases hd
                obtain ⟨rest, kw, hcode⟩ := hcode
                rw [hd] at hrun
                cases ho : s.heap.get? it with
                | none =>
                  have s2 : ∃ w0, step (M2 M).den M.prog M.w (zS s) ⟨chkD v mkd (fun x => er (k x)) (some it), code, pos, stack.map erF⟩ = .halt (.stuck w0) (zS s) := by
                    apply Exists.intro
                    show (match s.heap.get? it with | some o => Step.go _ _ | none => Step.halt _ _) = _
                    rw [ho]
                    exact rfl
                  obtain ⟨w0, s2⟩ := s2
                  rw [run_halt s2] at hrun
                  injection hrun with e _
                  cases no_out e
                | some o =>
                  have s2 : step (M2 M).den M.prog M.w (zS s) ⟨chkD v mkd (fun x => er (k x)) (some it), code, pos, stack.map erF⟩ = .go (zS s) ⟨chkO v mkd (fun x => er (k x)) (isG o), code, pos, stack.map erF⟩ := by
                    show (match s.heap.get? it with | some o => Step.go _ _ | none => Step.halt _ _) = _
                    rw [ho]
                    rfl
                  rw [run_go s2] at hrun
                  cases n with
                  | zero => cases hrun
                  | succ n =>
                    cases hg : isG o with
                    | false =>
                      rw [hg] at hrun
                      rw [run_halt (o := .unsupported "") (s2 := zS s) rfl] at hrun
                      injection hrun with e _
                      cases no_out e
                    | true =>
                      rw [hg] at hrun s2
                      have c2 := hcalm 2 _ _ (by rw [run_go s1, hd, run_go s2]; rfl)
                      have c2 : Thread.calm ⟨.yield v false mkd (fun x => er (k x)), code, pos, stack.map erF⟩ = true := c2
                      cases hs : splitAtGen stack with
                      | none =>
                        have s3 : ∃ w0, step (M2 M).den M.prog M.w (zS s) ⟨chkO v mkd (fun x => er (k x)) true, code, pos, stack.map erF⟩ = .halt (.stuck w0) (zS s) := by
                          apply Exists.intro
                          show (match splitAtGen (stack.map erF) with | some (frames, (g, k, c, p), rest) => Step.go _ _ | none => Step.halt _ _) = _
                          rw [split_er, hs]
                          rfl
                        obtain ⟨w0, s3⟩ := s3
                        rw [run_halt s3] at hrun
                        injection hrun with e _
                        cases no_out e
                      | some x =>
                        obtain ⟨frames, ⟨g, k2, c3, p3⟩, more⟩ := x
                        have hq : frames.any Frame.guarded = false := by
                          rw [Thread.calm_eq] at c2
                          have c3 := (Bool.and_eq_true_iff.mp c2).1
                          rw [Thread.loud_yield v false mkd _ code pos (by rw [split_er, hs]; rfl), any_guarded, Bool.false_or] at c3
                          cases q : frames.any Frame.guarded with
                          | false => rfl
                          | true => rw [q] at c3; cases c3
                        have s3 : step (M2 M).den M.prog M.w (zS s) ⟨chkO v mkd (fun x => er (k x)) true, code, pos, stack.map erF⟩ = .go (zS ⟨s.heap, s.gens.setIfInBounds g (.suspended k l code pos frames true), s.drawn, s.toks, s.os⟩) (zT ⟨k2 (.yielded v), c3, p3, more⟩) := by
                          show (match splitAtGen (stack.map erF) with | some (frames, (g, k, c, p), rest) => Step.go _ _ | none => Step.halt _ _) = _
                          rw [split_er, hs]
                          show Step.go ⟨s.heap, (s.gens.map zG).setIfInBounds g (.suspended (fun r => er (k r)) mkd code pos (frames.map erF) (false || (frames.map erF).any Frame.guarded)), s.drawn, s.toks, s.os⟩ _ = Step.go ⟨s.heap, (s.gens.setIfInBounds g (.suspended k l code pos frames true)).map zG, s.drawn, s.toks, s.os⟩ _
                          rw [any_guarded, hq, ← map_set]
                          rfl
                        rw [run_go s3] at hrun
                        have r1 : step M.den M.prog M.w s ⟨.yield v true l k, code, pos, stack⟩ = .go ⟨s.heap, s.gens.setIfInBounds g (.suspended k l code pos frames true), s.drawn, s.toks, s.os⟩ ⟨k2 (.yielded v), c3, p3, more⟩ := by
                          show (match splitAtGen stack with | some (frames, (g, k, c, p), rest) => Step.go _ _ | none => Step.halt _ _) = _
                          rw [hs]
                          rfl
                        have r2 := loud_step (M := M) (v := v) (l := l) (k := k) (pos := pos) hz hcode ho hg hs hq
                        rw [r1] at r2
                        have r2 : sstep M.den M.prog M.w (.single s ⟨.yield v true l k, code, pos, stack⟩) = .go (.single ⟨s.heap, s.gens.setIfInBounds g (.suspended k l code pos frames true), s.drawn, s.toks, s.os⟩ ⟨k2 (.yielded v), c3, p3, more⟩) := r2
                        have okx : okG (.suspended k l code pos frames true) := ⟨hq, it, rest, kw, hcode⟩
                        obtain ⟨m, s', h1, h2, h3⟩ := ih n (by omega) ⟨s.heap, s.gens.setIfInBounds g (.suspended k l code pos frames true), s.drawn, s.toks, s.os⟩ ⟨k2 (.yielded v), c3, p3, more⟩ r u hz (ok_set ok okx) hrun (fun j s₁ t₁ hj => hcalm (j + 3) s₁ t₁ (by rw [run_go s1, hd, run_go s2, run_go s3]; exact hj)) T
                        exact ⟨m + 1, s', by simp only [schedN, r2]; exact h1, h2, h3⟩
        | _ => cases hy
      | false =>
        have c0 := hcalm 0 _ _ rfl
        have l0 : (zT t).loud = false := by
          rw [Thread.calm_eq] at c0
          have := (Bool.and_eq_true_iff.mp c0).1
          cases q : (zT t).loud with
          | false => rfl
          | true => rw [q] at this; cases this
        cases he : t.atItsEnd with
        | true =>
          obtain ⟨cur, code, pos, stack⟩ := t
          cases cur with
          | pure f =>
            cases f with
            | again c => cases he
            | done f =>
              cases stack with
              | cons F fs => cases he
              | nil =>
                have a1 : step (M2 M).den M.prog M.w (zS s) (zT ⟨.pure (.done f), code, pos, []⟩) = finish (.done f) (zS s) := rfl
                cases hw : leftWithCleanup (zS s).gens with
                | true =>
                  unfold finish at a1
                  rw [hw, if_pos rfl] at a1
                  rw [run_halt a1] at hrun
                  injection hrun with e _
                  cases no_out e
                | false =>
                  unfold finish at a1
                  rw [hw, if_neg Bool.false_ne_true] at a1
                  rw [run_halt a1] at hrun
                  injection hrun with e e2
                  subst e2
                  have z := end_step (M := M) (t := ⟨.pure (.done f), code, pos, []⟩) (o := .done f) hz rfl (.inl ⟨f, rfl, rfl⟩) (clean_end hz ok T)
                  exact ⟨1, forgetSuspended (M.w.params.lifetimes == .anyTime) s, by simp only [schedN, z]; exact congrArg (SRun.halted · _) e, rfl, rfl⟩
          | raise x =>
            cases stack with
            | cons F fs => cases he
            | nil =>
              have a1 : step (M2 M).den M.prog M.w (zS s) (zT ⟨.raise x, code, pos, []⟩) = finish (.uncaught x) (zS s) := rfl
              cases hw : leftWithCleanup (zS s).gens with
              | true =>
                unfold finish at a1
                rw [hw, if_pos rfl] at a1
                rw [run_halt a1] at hrun
                injection hrun with e _
                cases no_out e
              | false =>
                unfold finish at a1
                rw [hw, if_neg Bool.false_ne_true] at a1
                rw [run_halt a1] at hrun
                injection hrun with e e2
                subst e2
                have z := end_step (M := M) (t := ⟨.raise x, code, pos, []⟩) (o := .uncaught x) hz rfl (.inr ⟨x, rfl, rfl⟩) (clean_end hz ok T)
                exact ⟨1, forgetSuspended (M.w.params.lifetimes == .anyTime) s, by simp only [schedN, z]; exact congrArg (SRun.halted · _) e, rfl, rfl⟩
          | finish e =>
            have a1 : ∃ o, step (M2 M).den M.prog M.w (zS s) (zT ⟨.finish e, code, pos, stack⟩) = .halt o (zS s) ∧ ∀ r, o ≠ outcomeOf r := by
              show ∃ o, (if leftWithCleanup (zS s).gens then Step.halt _ _ else Step.halt _ _) = _ ∧ _
              split
              · exact ⟨_, rfl, fun r => by cases r <;> nofun⟩
              · exact ⟨_, rfl, fun r => by cases r <;> nofun⟩
            obtain ⟨o, a1, a2⟩ := a1
            rw [run_halt a1] at hrun
            injection hrun with e1 _
            exact absurd e1 (a2 r)
          | _ => cases he
        | false =>
          have a1 := step_z (M := M) (s := s) he hy l0
          have hc := calm_z hy c0
          cases hs : step M.den M.prog M.w s t with
          | halt o s2 =>
            rw [hs] at a1
            rw [run_halt a1] at hrun
            injection hrun with e e2
            rcases sstep_single M.den M.prog M.w s t hc hz with z | z
            · rw [hs] at z
              have z : sstep M.den M.prog M.w (.single s t) = .halt o s2 := z
              exact ⟨1, s2, by simp only [schedN, z]; exact congrArg (SRun.halted · _) e, by rw [← e2]; rfl, by rw [← e2]; rfl⟩
            · rw [hs] at z
              injection z with z1 _
              rw [z1] at e
              cases no_out e
          | go s2 t2 =>
            rw [hs] at a1
            have a1 : step (M2 M).den M.prog M.w (zS s) (zT t) = .go (zS s2) (zT t2) := a1
            rw [run_go a1] at hrun
            rcases sstep_single M.den M.prog M.w s t hc hz with z | z
            · rw [hs] at z
              have z : sstep M.den M.prog M.w (.single s t) = .go (.single s2 t2) := z
              obtain ⟨m, s', h1, h2, h3⟩ := ih n (by omega) s2 t2 r u (Shared.asleep_of_life (step_life M.den M.prog M.w s s2 t t2 hs) hz) (ok_step hy l0 hs ok) hrun (fun j s₁ t₁ hj => hcalm (j + 1) s₁ t₁ (by rw [run_go a1]; exact hj)) T
              exact ⟨m + 1, s', by simp only [schedN, z]; exact h1, h2, h3⟩
            · rw [hs] at z
              cases z
end
end Er
end
section
set_option linter.all false
set_option maxRecDepth 100000
set_option maxHeartbeats 1000000
/-! S4: the end of a law whose run delegates to generators: what is promised at the erased model, of the machine. -/
namespace Er
open PySem PySem.W PySem.Calls PyProof.Rows

theorem tidy_forget {a b : Shared} (h : a.forget = b.forget) (T : Tidy b) : Tidy a := by
  obtain ⟨eh, _⟩ := Shared.forget_eq h
  have eg : a.gens.map GenState.forget = b.gens.map GenState.forget := congrArg Shared.gens h
  intro i k it rest kw p fs cl e
  have e1 : (a.gens.map GenState.forget)[i]? = some (GenState.forget (.suspended k mkd (.builtin "proto.yield_from" ⟨.ref it :: rest, kw⟩) p fs cl)) := by
    rw [Array.getElem?_map, e]; rfl
  rw [eg, Array.getElem?_map] at e1
  cases q : b.gens[i]? with
  | none => rw [q] at e1; cases e1
  | some x =>
    rw [q] at e1
    cases x with
    | suspended k2 l2 c2 p2 fs2 cl2 =>
      have e2 := Option.some.inj e1
      injection e2 with _ el ec _ _ _
      subst ec el
      obtain ⟨o, ho, hg⟩ := T i _ it rest kw _ _ _ q
      exact ⟨o, by rw [eh]; exact ho, hg⟩
    | fresh c => cases e1
    | running => cases e1
    | finished => cases e1
theorem thread_ends_er {prog : Program} {w : World} {t : Sem PySem.Fin} {s : Shared} {R : Result → Shared → Prop} (hz : s.asleep) (hg : s.gens = #[])
    (h : wpAny (mm prog w) callerA (er t) (fun fin u => ∃ f, fin = .done f ∧ R (.ok f) u ∧ AllBare u.gens ∧ Tidy u) (fun e u => R (.error e) u ∧ AllBare u.gens ∧ Tidy u) s) :
    ∃ n r s' u, schedN (denote table) prog w n (.single s ⟨t, .builtin "claim.caller" {}, default, []⟩) = .halted (outcomeOf r) s' ∧ s'.heap.life = s.heap.life ∧ s'.heap = u.heap ∧ s'.os = u.os ∧ R r u := by
  have h1 := wp_of_wpAny_done (M := mm prog w) (R := fun r u => (R r u ∧ Tidy u) ∧ leftWithCleanup u.gens = false) caller_in
    (wpAny_mono h (fun fin u ⟨f, e, a, b, c⟩ => ⟨f, e, ⟨a, c⟩, leftWithCleanup_false_of_bare b⟩) fun e u ⟨a, b, c⟩ => ⟨⟨a, c⟩, leftWithCleanup_false_of_bare b⟩) default
  obtain ⟨n, r, u, hn, hR, hT⟩ := (wp_iff_halts (M := mm prog w) (R := fun r u => R r u ∧ Tidy u) ..).mp h1
  obtain ⟨v, hr, hf, hc⟩ := runNI_real _ _ _ hn (outcomeOf_ends r)
  have es : zS s = s := by
    obtain ⟨hp, gn, d, tk, o⟩ := s
    have hg : gn = #[] := hg
    subst hg
    show Shared.mk hp ((#[] : Array GenState).map zG) d tk o = Shared.mk hp #[] d tk o
    rw [Array.map_empty]
  obtain ⟨m, s', h2, h3, h4⟩ := sim (M := model prog w) n s ⟨t, .builtin "claim.caller" {}, default, []⟩ r v hz (fun i x e => by rw [hg] at e; simp at e) (by rw [es]; exact hr) (by rw [es]; exact hc) (tidy_forget hf hT)
  obtain ⟨eh, _, _, eo, _⟩ := Shared.forget_eq hf
  exact ⟨m, r, s', u, h2, by rw [h3]; exact runN_life (s := s) _ _ _ hr, h3.trans eh, h4.trans eo, hR⟩

theorem callFrom_er {c : ClaimW} {tree : List Value → Sem PySem.Fin} {w : World} {s : Shared} {free : Addr → Prop} {G : Prop} {kept : Heap → Prop} (hz : s.asleep) (hg : s.gens = #[])
    (spec : ∀ args, c.pre args = true → WData.layableAll args = true → ∀ ord : List DictEntry → List DictEntry, (∀ l, (ord l).Perm l) → ∃ vs s₁, layAllW c.records (classAt s.heap) w.params ord args s = some (vs, s₁) ∧
      wpAny (mm c.prog w) callerA (er (tree vs)) (fun fin u => ∃ f, fin = .done f ∧ (c.Ends s args vs s₁ (.ok f) u ∧ u.os = s.os ∧ kept u.heap) ∧ AllBare u.gens ∧ Tidy u) (fun e u => (c.Ends s args vs s₁ (.error e) u ∧ u.os = s.os ∧ kept u.heap) ∧ AllBare u.gens ∧ Tidy u) s₁) :
    c.CallFrom (fun vs => ⟨tree vs, .builtin "claim.caller" {}, default, []⟩) w free G kept s := by
  intro args hpre hlay ord hord
  obtain ⟨vs, s₁, hlaid, hcode⟩ := spec args hpre hlay ord hord
  have hal := layAllW_rest _ _ _ hlaid
  obtain ⟨n, r, s', u, hs, hlife, eh, eo, hcase, hos, hk⟩ := thread_ends_er (prog := c.prog) (w := w) (t := tree vs) (s := s₁) (R := fun r u => c.Ends s args vs s₁ r u ∧ u.os = s.os ∧ kept u.heap) (Shared.asleep_of_life hal.2.2.2 hz) (hal.1.trans hg) hcode
  have hcase := hcase.congr eh
  refine ⟨vs, s₁, hlaid, n, _, s', hs, ?_, (fun _ i x hx => by rw [hg] at hx; simp at hx), by rw [eh]; exact hk, congrArg Life.seen (hlife.trans hal.2.2.2), Shared.rest_eq (eo.trans hos)⟩
  rcases hcase with ⟨v, rfl, a1, a2, a3, a4, a5⟩ | ⟨e, ob, cls, rfl, a1, a2, a3, a4, a5⟩
  · exact .inl ⟨v, rfl, a1, a2, a3, fun b o y _ => a4 b o y, a5⟩
  · exact .inr ⟨e, ob, cls, rfl, a1, a2, a3, a4, fun b o y _ => a5 b o y⟩

/-- the walk of a law at the erased model -/
abbrev WalkE (q : Program) (loose : List Str) (XP : (Str → Option Value) → Heap → Prop) (YP : World → Heap → Prop) (r : RowW) (d : DefRec) (kwd : List (Str × Expr)) : Prop :=
  ∀ (w : World) (s₀ s₁ : Shared) (mg mb : Str → Option Value), Ground q loose r.records XP w s₀ mg mb s₁.heap → YP w s₁.heap → ∀ (a : Addr) (o : Obj) (pm cd doc dV kV : Value), s₁.heap.get? a = some o →
    o.data = .func { docDef d.name d.params d.body d.scope pm cd doc with defaults := dV, kwdefaults := kV } → s₁.heap.CodeRec cd d.name → Dflts mg s₁.heap d.params kwd dV kV → mg d.name = some (.ref a) → s₁.gens = #[] →
    ∀ (args : List WData) (vals : List Value) (as : List Addr), r.claim.pre args = true → WData.layableAll args = true → ReadsAllW r.records (classAt s₀.heap) s₁.heap vals args as → WellAll w.params s₁.heap vals args → (∀ a ∈ as, (a == sysModules) = false) →
      wpAny (mm r.prog w) callerA (PySem.call (.ref a) vals) (fun v u => GoodWG r.claim (classAt s₀.heap) (ExcName.means s₀.heap) args s₁ (.ok (.ret v)) u ∧ Tidy u) (fun e u => GoodWG r.claim (classAt s₀.heap) (ExcName.means s₀.heap) args s₁ (.error e) u ∧ Tidy u) s₁

theorem er_tree {prog : Program} {w : World} {A : Around} {s : Shared} {mg : Str → Option Value} {n : Str} {f : Value} {vs : List Value} {Q : PySem.Fin → Shared → Prop} {E : Value → Shared → Prop} (hg : s.heap.Ns mainGlobals mg) (hf : mg n = some f)
    (h : wpAny (mm prog w) A (PySem.call f vs) (fun v s' => Q (.done (.ret v)) s') E s) :
    wpAny (mm prog w) A (er (do match ← nsGet mainNs n with
      | some f => do ret (← PySem.call f vs)
      | none => unsupported "claim.caller:no-such-global")) Q E s := by
  rw [er_bind]
  refine wpAny_bind ?_
  have h1 : ∀ G, wpAny (model prog w) A (nsGet mainNs n) (fun x s' => x = mg n ∧ s' = { s with gens := G }) (fun _ _ => False) { s with gens := G } := fun G => wpAny_nsGet (s := { s with gens := G }) hg ⟨rfl, rfl⟩
  refine wpAny_mono (lift (h1 (blankA s.gens))) (fun x s' ⟨u, l, e1, e2⟩ => ?_) fun _ _ ⟨_, _, q⟩ => q.elim
  subst e1 e2
  have : s' = s := by rw [l.eq, rest_blank]
  subst this
  rw [hf]
  show wpAny (mm prog w) A (er (PySem.call f vs >>= fun v => ret v)) Q E s'
  rw [er_bind]
  refine wpAny_bind ?_
  have e : er (PySem.call f vs) = PySem.call f vs := by
    show er (Sem.call _ _ _ _ _) = Sem.call _ _ _ _ _
    show Sem.call _ _ _ _ _ = Sem.call _ _ _ _ _
    congr 1
    funext r
    cases r with
    | error e => rfl
    | ok f => cases f <;> rfl
  rw [e]
  exact wpAny_mono h (fun _ _ x => wpAny_pure x) fun _ _ x => x

theorem PySem.W.holds_open {r : OpenRow} {q : Program} {loose : List Str} {Xt : Shared → Bool} {XP : (Str → Option Value) → Heap → Prop} {α : Type} {Yf : Shared → α} {Ya : World → α} {YP : World → Heap → Prop} {d : DefRec} {kwd : List (Str × Expr)} {N : Nat}
    (left : LeftO r.prog q loose Xt Yf Ya N) (hY : ∀ w s, Yf s = Ya w → YP w s.heap) (hYk : ∀ w h h', YP w h → (∀ b o, h.get? b = some o → h'.get? b = some o) → YP w h')
    (hX : ∀ s, Xt s = true → XP (s.heap.nsMap mainGlobals) s.heap) (hXk : ∀ mg h h', XP mg h → (∀ b o, h.get? b = some o → h'.get? b = some o) → XP mg h')
    (hdef : defOf q r.name = some (d, kwd)) (hp : r.prog.theDef r.name = some (d.params, d.body, d.scope)) (hk : kwWritten? d.params.kwonlyargs d.params.kw_defaults = some kwd) (hRf : ∀ s, Xt s = true → RecFacts r.records s.heap)
    (hwr : (!r.writes || r.records.isEmpty) = true) (k1 : r.wellSaid = true) (ok : (chainsOk q && opensWell r.prog && (frees r.toRowW && r.within.isEmpty)) = true) (hb : r.prog.bare) (hw : r.toRowW.promised)
    (walk : WalkE q loose XP YP r.toRowW d kwd) : r.Holds := by
  obtain ⟨ok, k5⟩ := Bool.and_eq_true_iff.mp ok
  obtain ⟨hch, o1⟩ := Bool.and_eq_true_iff.mp ok
  obtain ⟨k5, k6⟩ := Bool.and_eq_true_iff.mp k5
  obtain ⟨hsame, hu, ha, hap, hm⟩ := frees_parts k5
  refine ⟨k1, hw, ⟨hb, o1, by show r.makers.map _ = []; rw [hm]; rfl⟩, hw.witness, fun w => ⟨(left.behind hX hch w).1, fun z hz => ?_⟩⟩
  obtain ⟨s₀, hf, hg0, s, hT, hz, hgens, hg, G1, y⟩ := (left.behind (XP := fun mg h => XP mg h ∧ RecFacts r.records h) (fun s hs => ⟨hX s hs, hRf s hs⟩) hch w).2 z hz
  have G0 : Ground q loose [] XP w s (s.heap.nsMap mainGlobals) (s.heap.nsMap builtinsNs) s.heap := ⟨G1.T, G1.B, G1.D, G1.TE, G1.TD, G1.W, G1.X.1, G1.cls, G1.has, G1.apart, G1.once, G1.K⟩
  have RF := G1.X.2
  have hgens : s.gens = #[] := Array.eq_empty_of_size_eq_zero (beq_iff_eq.mp hgens)
  refine ⟨s₀, hf, hg0, s, hT, fun n hn => ?_, RF.1, RF.2.1, ?_⟩
  · obtain rfl : n = r.name := by
      split at hn
      · simpa using hn
      · cases hn
    exact pinned_of_view hg G0 hdef hp hk
  refine callFrom_er (c := r.claim) hz hgens fun args hpre hlay ord hord => ?_
  have G : Ground q loose r.records XP w s _ _ s.heap := RF.ground G0
  obtain ⟨⟨vs, s₁⟩, hlaid⟩ := Option.isSome_iff_exists.mp (layAllW_isSome (P := w.params) (ord := ord) G.has args r.args s (pre_splitW hpre).1)
  have keeps := layAllW_keeps _ _ _ hlaid
  have hal := layAllW_rest _ _ _ hlaid
  obtain ⟨as, hrd, hin, hold⟩ := reads_layAllW hord _ _ _ hlaid hlay s₁.heap (fun _ _ e => e)
  have L : Laid r.records w s s₁ args vs as := ⟨⟨ord, hord, hlaid⟩, hrd, hin, hold, keeps, hal.1.trans hgens, hal.2.2.1⟩
  have G₁ := G.keeps hXk keeps
  obtain ⟨a, o, pm, cd, doc, dV, kV, h1, h2, h3, h4, h5⟩ := G₁.fn hdef
  have h := walk w s s₁ _ _ G₁ (hYk _ _ _ (hY w s y) keeps) a o pm cd doc dV kV h2 h3 h4 h5 (defOf_name hdef ▸ h1) L.gens args vs as hpre hlay L.reads L.well (L.low G.low)
  have hi := ident_freeW hu ha hap
  have hwi : r.claim.within = [] := List.isEmpty_iff.mp k6
  have nm : ∀ u : Shared, OldK s₁.heap u.heap → r.writes = true → _ := fun u ho q => And.intro (namesKept_of hT hg r.keeps keeps ho.old) (noTable (h := s.heap) (h' := u.heap) hwr q)
  refine ⟨vs, s₁, hlaid, er_tree G₁.T.g h1 (wpAny_mono h (fun v u ⟨g, t⟩ => ⟨.ret v, rfl, ?_, ?_, t⟩) fun e u ⟨g, t⟩ => ⟨?_, ?_, t⟩)⟩
  · have z := g.laid (c := r.claim) hsame hwi hi L
    exact ⟨z.1, z.2.1, nm u g.2.1⟩
  · exact (g.laid (c := r.claim) hsame hwi hi L).2.2
  · have z := g.laid (c := r.claim) hsame hwi hi L
    exact ⟨z.1, z.2.1, nm u g.2.1⟩
  · exact (g.laid (c := r.claim) hsame hwi hi L).2.2
end Er
end
section
set_option linter.all false
set_option maxRecDepth 100000
set_option maxHeartbeats 2000000
/-! M9: the end of a law, from the promise of its def at the erased model. -/
namespace Em
open PySem PySem.Spec PyProof.Rows L2 GenW Gp Er Gm

theorem tidy_of {outer : List Env} {n : Nat} {H' : Hp} {GP : List (Addr × Obj)} {s : Shared} (gp : GpOk outer n H' s.heap GP) (g : Gs0 (fun _ => False) GP s) : Tidy s := by
  intro i k it rest kw p fs cl e
  rcases g.td i _ it e ⟨k, rest, kw, p, fs, cl, rfl⟩ with z | z | ⟨o, z⟩
  · cases z
  · cases z
  · exact ⟨o, (gp _ z).1, g.all _ z⟩
theorem law_end {P : Program} {w : World} {K : PySem.W.Frag} {mg mb : Str → Option Value} {k : Nat} {fa a : Addr} {fd : FuncData} {x : Str} {sp : Sp} {s₁ : Shared} {vs : List Value} {ns : List Int}
    (KX : K.In s₁.heap) (hns : s₁.heap.Ns mainGlobals mg) (hb : s₁.heap.Ns builtinsNs mb) (hbb : ∀ x : Str, x ≠ "__name__" → mb x = bootBuiltins x) (hlim : s₁.heap.NoLimit) (hg : s₁.gens = #[])
    (ha : s₁.heap.get? a = some { cls := .type "list", data := .seq vs.toArray }) (hi : IntsAre vs ns) (hl : ns.length ≤ sizeLine) (hr : Room k callerA)
    (F : ∀ base : Heap, K.In base → base.Ns mainGlobals mg → FnOk2 P w K mg base k fa fd [x] sp) (hbind : ∀ (s : Shared) (u : Value), BindsTo s fd ⟨[u], []⟩ [(x, u)])
    (hsp : ∀ H : Hp, Only H → SqL K H a (ns.map V.int) → sp [.ref a] H (fun v _ => v = .bl true) fun _ _ _ => False) :
    codeAny (mm P w) callerA (.call (.ref fa) ⟨[.ref a], []⟩) (fun r s' => r = .ok (.ret (.bool true)) ∧ (OldK s₁.heap s'.heap ∧ s'.os = s₁.os ∧ AllBare s'.gens) ∧ Tidy s') s₁ := by
  have rv := vals_ints hi
  have lenV := hi.length
  have td0 : Td (fun _ => False) [] s₁ := fun i y it e m => by rw [hg] at e; simp at e
  -- from an abstract heap in which at most the script is tracked
  have core : ∀ H : Hp, Only H → SqL K H a (ns.map V.int) → HOk P w H s₁.heap → (∀ b, H b ≠ none → b = a) → (H a ≠ none → K.lookup a = none) →
      codeAny (mm P w) callerA (.call (.ref fa) ⟨[.ref a], []⟩) (fun r s' => r = .ok (.ret (.bool true)) ∧ (OldK s₁.heap s'.heap ∧ s'.os = s₁.os ∧ AllBare s'.gens) ∧ Tidy s') s₁ := by
    intro H hO hS hok hA hK
    have at_a : ∀ {b : Addr}, H b ≠ none → s₁.heap.get? b = some { cls := .type "list", data := .seq vs.toArray } := fun {b} z => by
      rw [hA b z]
      exact ha
    have und : ∀ {b : Addr} {o : Obj} {es : Array DictEntry} {ep : Nat}, s₁.heap.get? b = some o → o.data = .dict es ep → H b = none := fun {b o es ep} e d => by
      cases q : H b with
      | none => rfl
      | some u =>
        have e2 := at_a (b := b) (by rw [q]; simp)
        rw [e] at e2
        cases e2
        have d' : Data.seq vs.toArray _ = Data.dict es ep := d
        cases d'
    have ns_of : ∀ {b : Addr} {m : Str → Option Value}, s₁.heap.Ns b m → (hidT s₁.heap H).Ns b m := fun {b m} ⟨o, es, ep, e, d, r⟩ => ⟨o, es, ep, hidT_get e (und e d), d, r⟩
    have hKb : K.In (hidT s₁.heap H) := fun b o e => hidT_get (KX b o e) (by
      cases q : H b with
      | none => rfl
      | some u =>
        have e' : b = a := hA b (by rw [q]; simp)
        subst e'
        rw [hK (by rw [q]; simp)] at e
        cases e)
    obtain ⟨mc, l1, l2⟩ := hlim
    have hM : Mod K mg (hidT s₁.heap H) := ⟨hKb, ns_of hns, ⟨mb, ns_of hb, hbb⟩, ⟨mc, ns_of l1, l2⟩⟩
    have nob : ∀ b : Addr, b ∉ ([] : List Addr) := fun b z => by cases z
    have e0 : Env0 P w K mg (hidT s₁.heap H) callerA [] s₁ H := ⟨rfl, hM, fun b o e => of_hidT e, Nat.le_of_eq (hidT_size _ _), trivial, fun b z => absurd z (nob b), hok, .of_eq hg⟩
    refine codeAny_mono ((F _ hKb (ns_of hns)).run callerA [] s₁ H ⟨[.ref a], []⟩ [.ref a] [.ref a] _ _ (fun _ => False) hr e0 (hbind s₁ (.ref a)) (.cons rfl .nil) (hsp H hO hS) td0) fun r s' h => ?_
    cases r with
    | error e => obtain ⟨_, _, _, _, _, _, _, _, _, _, _, _, _, z, _⟩ := h; exact z.elim
    | ok fl =>
      cases fl with
      | next => exact False.elim h
      | brk => exact False.elim h
      | cont => exact False.elim h
      | ret u =>
        obtain ⟨v, H', GP, os, bare, un, hok', r', q, gp, g⟩ := h
        have q' : v = .bl true := q
        subst q'
        obtain rfl : u = Value.bool true := r'
        refine ⟨rfl, ⟨OldK.of_keep fun b o e => ?_, os, bare⟩, tidy_of gp g⟩
        cases q : H b with
        | none => exact un.keep b o e q (nob b) (nob b)
        | some u =>
          rcases hO b with z | ⟨ob, xs, z⟩
          · rw [q] at z; cases z
          · obtain ⟨e1, _⟩ := hok b _ z
            obtain ⟨e2, _⟩ := hok' b _ (un.frzs b ob _ z)
            rw [e] at e1
            cases e1
            exact e2
  cases hk : K.lookup a with
  | some o =>
    have e := KX a o hk
    rw [ha] at e
    cases e
    exact core (fun _ => none) (fun _ => .inl rfl) (.inr ⟨_, vs.toArray, _, hk, rfl, rfl, rfl, by rw [List.size_toArray, lenV]; exact hl, by simpa using rv⟩) (fun b u z => (by have z' : (none : Option HO) = some u := z; cases z')) (fun b z => absurd rfl z) fun z => absurd rfl z
  | none =>
    refine core (fun b => if b = a then some (.frz { cls := .type "list", data := .seq vs.toArray } (.lst (ns.map V.int))) else none) (fun b => ?_) (.inl (.inr ⟨{ cls := .type "list", data := .seq vs.toArray }, if_pos rfl⟩)) (fun b u z => ?_) (fun b z => ?_) fun _ => hk
    · by_cases hb : b = a
      · exact .inr ⟨_, _, if_pos hb⟩
      · exact .inl (if_neg hb)
    · by_cases hb : b = a
      · have z' := (if_pos hb).symm.trans z
        cases z'
        subst hb
        exact ⟨ha, by rw [List.length_map]; exact hl, vs, _, rv, ha⟩
      · have z' := (if_neg hb).symm.trans z
        cases z'
    · by_cases hb : b = a
      · exact hb
      · exact absurd (if_neg hb) z
/-- the goal that the head leaves -/
theorem walk2 {l : PySem.W.OpenLaw} {n k : Nat} {q : Program} {loose : List Str} {XP : (Str → Option Value) → Heap → Prop} {YP : World → Heap → Prop} {d : DefRec} {K : Params → PySem.W.Frag} {sp : World → Sp} {x : Str}
    (hn : l.most = some n) (hn2 : n ≤ sizeLine) (hdf : d.params.defaults = []) (hr : Room k callerA) (hY : ∀ (w : World) (h : Heap), YP w h → (K w.params).In h)
    (F : ∀ (w : World) (mg : Str → Option Value) (fa : Addr) (h : Heap), (K w.params).In h → h.Ns mainGlobals mg → mg d.name = some (.ref fa) →
      ∃ fd : FuncData, (∀ (s : Shared) (u : Value), BindsTo s fd ⟨[u], []⟩ [(x, u)]) ∧ ∀ base : Heap, (K w.params).In base → base.Ns mainGlobals mg → FnOk2 l.prog w (K w.params) mg base k fa fd [x] (sp w))
    (hsp : ∀ (w : World) (H : Hp) (a : Addr) (ns : List Int), ns.length ≤ n → Only H → SqL (K w.params) H a (ns.map V.int) → sp w [.ref a] H (fun v _ => v = .bl true) fun _ _ _ => False) :
    WalkE q loose XP YP l.row.toRowW d [] := by
  intro w s₀ s₁ mg mb G Y fa o pm cd doc dV kV ho hd hcd hD hmg hg args vals as hpre hlay hrd hwl hlo
  obtain rfl : dV = .none := PySem.W.Dflts.none hD hdf
  obtain rfl : kV = .none := PySem.W.Dflts.noKw hD
  obtain ⟨a, vs, ns, rfl, rfl, hobj, hints, hlen⟩ := Att.script_of hn hpre hwl
  have KX := hY w _ Y
  obtain ⟨fd, hb, hF⟩ := F w mg fa _ KX G.T.g hmg
  refine wpAny_call (codeAny_mono (law_end KX G.T.g G.T.b G.T.builtins G.T.nolimit hg hobj hints (Nat.le_trans hlen hn2) hr hF hb (fun H hO hS => hsp w H a ns hlen hO hS)) fun r s' hq => ?_)
  obtain ⟨rfl, ⟨h2, h3, h4⟩, h5⟩ := hq
  exact ⟨⟨.inl ⟨.bool true, .bool true, [], rfl, fun _ => rfl, .bool true, Att.post_true l _, fun _ => ⟨List.Pairwise.nil, fun _ hm => (nomatch hm)⟩⟩, h2, h3, h4⟩, h5⟩
end Em
end
section
set_option linter.all false
set_option maxRecDepth 100000
set_option maxHeartbeats 1000000
/-! T1: enumerate over a tuple -/
namespace Em
open PySem PySem.Spec PyProof.Rows L2
theorem iteB {M : Model} {A : Around} {α : Type} {c : Prop} {_ : Decidable c} {a b : Sem α} {Q : α → Shared → Prop} {E : Value → Shared → Prop} {s : Shared} (h1 : wpAny M A a Q E s) (h2 : wpAny M A b Q E s) : wpAny M A (if c then a else b) Q E s := by
  split <;> assumption
theorem nextOf_tuple_item {prog : Program} {w : World} {A : Around} {E : Value → Shared → Prop} {s : Shared} {it t : Addr} {i : Nat} {items : Array Value} {x : Value} {Q : Value → Shared → Prop} (hit : IsTupIter s.heap it t i) (ht : IsTup s.heap t items) (hx : items[i]? = some x)
    (hQ : ∀ h', IsTupIter h' it t (i + 1) → Heap.SameBut it s.heap h' → Q x { s with heap := h' }) : wpAny (model prog w) A (Builtin.SmallTypes.nextOf (.ref it)) Q E s := by
  obtain ⟨o, ho, hc, hd⟩ := id hit
  obtain ⟨ol, hol, _, nl, hdl⟩ := ht
  unfold Builtin.SmallTypes.nextOf
  refine wpAny_bind (wpAny_callSpecial?_slot (IsTupIter.typeIs hit) slot_tupleiter_next (wpAny_call_entry slot_tupleiter_next (IsTupIter.typeIs hit) entry_tupleiter_next ?_ (args_tupleiter_next (.ref it))))
  show wpAny _ A.in1 (field (.ref it) 0 >>= _) _ _ s
  refine wpAny_bind (wpAny_field ho hd rfl ?_)
  show wpAny _ A.in1 (if (Value.ref t == Value.none) = true then _ else _) _ _ s
  rw [if_neg (show ¬ ((Value.ref t == Value.none) = true) from by simp)]
  refine wpAny_bind (wpAny_field ho hd rfl ?_)
  refine wpAny_bind (wpAny_seqItems hol hdl ?_)
  show wpAny _ A.in1 (match items[i]? with | some x => _ | none => _) _ _ s
  rw [hx]
  refine wpAny_bind (wpAny_setField ho hd (by simp) ?_)
  refine wpAny_pure ⟨x, rfl, wpAny_pure (hQ _ ⟨_, Heap.get?_update_self _ ho (Obj.isFreed_of_fields (Obj.data_mapFields hd _)), (Obj.cls_mapFields o _).trans hc, ?_⟩ (Heap.SameBut.update _ _ _))⟩
  rw [Obj.data_mapFields hd]
  simp [rawInt]
theorem nextOf_tuple_end {prog : Program} {w : World} {A : Around} {E : Value → Shared → Prop} {s : Shared} {it t : Addr} {i : Nat} {items : Array Value} {Q : Value → Shared → Prop} (hh : A.handled = none) (hit : IsTupIter s.heap it t i) (ht : IsTup s.heap t items) (hx : items[i]? = none)
    (hE : ∀ (h' : Heap) (e : Addr), Heap.ExtBut it s.heap h' → (∃ o, h'.get? e = some o ∧ o.cls = .type "StopIteration") → E (.ref e) { s with heap := h' }) : wpAny (model prog w) A (Builtin.SmallTypes.nextOf (.ref it)) Q E s := by
  obtain ⟨o, ho, hc, hd⟩ := id hit
  obtain ⟨ol, hol, _, nl, hdl⟩ := ht
  unfold Builtin.SmallTypes.nextOf
  refine wpAny_bind (wpAny_callSpecial?_slot (IsTupIter.typeIs hit) slot_tupleiter_next (wpAny_call_entry slot_tupleiter_next (IsTupIter.typeIs hit) entry_tupleiter_next ?_ (args_tupleiter_next (.ref it))))
  show wpAny _ A.in1 (field (.ref it) 0 >>= _) _ _ s
  refine wpAny_bind (wpAny_field ho hd rfl ?_)
  show wpAny _ A.in1 (if (Value.ref t == Value.none) = true then _ else _) _ _ s
  rw [if_neg (show ¬ ((Value.ref t == Value.none) = true) from by simp)]
  refine wpAny_bind (wpAny_field ho hd rfl ?_)
  refine wpAny_bind (wpAny_seqItems hol hdl ?_)
  show wpAny _ A.in1 (match items[i]? with | some x => _ | none => _) _ _ s
  rw [hx]
  refine wpAny_bind (wpAny_rule ?_)
  refine wpAny_bind (wpAny_setField ho hd (by simp) ?_)
  have hil := Heap.lt_size ho
  unfold Builtin.SmallTypes.stopIteration
  refine wpAny_bind ?_
  unfold newExc
  refine wpAny_bind (wpAny_newObj_type (s := { s with heap := _ }) ?_ (by show sizeOk (.seq #[] _); simp [sizeOk]))
  refine wpAny_bind (wpAny_of_eq (Eq.refl (firstArgMember (.type "StopIteration") [])) (wpAny_newObj_type (s := { s with heap := _ }) ?_ (sizeOk_excFields _ _ _ _ _ _ _ _)))
  unfold raiseNew
  refine wpAny_bind (wpAny_handled ?_)
  have hh' : A.in1.handled = none := hh
  rw [hh']
  refine wpAny_throw (hE _ _ (fun b o' hb e => ?_) ⟨_, Heap.get?_push_size _ rfl, rfl⟩)
  exact Heap.get?_push_of_some _ (Heap.get?_push_of_some _ ((Heap.SameBut.extBut (Heap.SameBut.update _ _ _)) b o' hb e))
theorem draws_tuple {prog : Program} {w : World} {A : Around} (hh : A.handled = none) (it t : Addr) (hne : t ≠ it) (items : Array Value) :
    Draws prog w A it [it, t] items.size (fun i v => items[i]? = some v) fun i h => IsTupIter h it t i ∧ IsTup h t items := by
  refine ⟨fun i h st => ?_, fun i h h' st hk => ?_, fun i s Q E hi st hQ => ?_, fun s Q E st hE => ?_⟩
  · obtain ⟨⟨o, ho, _⟩, _⟩ := st
    exact ⟨o, ho⟩
  · obtain ⟨⟨o, ho, x⟩, ⟨o', ho', x'⟩⟩ := st
    exact ⟨⟨o, hk it (by simp) o ho, x⟩, ⟨o', hk t (by simp) o' ho', x'⟩⟩
  · refine nextOf_tuple_item st.1 st.2 (x := items[i]) (by simp [hi]) fun h' hit' hs => hQ _ h' s.toks (by simp [hi]) ⟨hit', ?_⟩ hs
    obtain ⟨_, ⟨o', ho', x'⟩⟩ := st
    exact ⟨o', hs.extBut t o' hne ho', x'⟩
  · exact nextOf_tuple_end hh st.1 st.2 (by simp) hE
/-- enumerate(a tuple) -/
theorem meets_enum_tup (l : Addr) (items : Array Value) (n : Nat) (dct : Option Addr) (sl : Array (Option Value)) :
    Meets (Builtin.«enumerate.__new__» { pos := [.type "enumerate", .ref l] }) fun _ R s => s.heap.get? l = some { cls := .type "tuple", dict := dct, data := .seq items n, slots := sl } ∧
      R (.ok (.ret (.ref (s.heap.push { cls := .type "tuple_iterator", data := .fields #[.ref l, .int 0 0] }).objs.size)))
        { s with heap := (s.heap.push { cls := .type "tuple_iterator", data := .fields #[.ref l, .int 0 0] }).push { cls := .type "enumerate", data := .fields #[.none, .bool false, .ref s.heap.objs.size, rawInt 0, .none, .none] } } := by
  refine Meets.of_wp fun prog w A R s h => ?_
  obtain ⟨hp, g, d, tk, os⟩ := s
  obtain ⟨hl, h⟩ := h
  have hsub := sub_enumerate
  have hT : hp.IsTuple l items := ⟨_, hl, rfl, n, rfl⟩
  unfold Builtin.«enumerate.__new__»
  refine wpAny_bind ?_
  refine wpAny_bind ?_
  refine wpAny_pure (wpAny_ite_false rfl (wpAny_bind (wpAny_of_eq hsub (wpAny_ite_false rfl (wpAny_pure ?_)))))
  refine wpAny_ite_true rfl (wpAny_bind ?_)
  refine wpAny_bind (wpAny_stack_any fun st => wpAny_pure ?_)
  have fin : wpAny (model prog w) A.in1 (do
      let it ← pyIter (.ref l)
      let r ← Builtin.SmallTypes.newRecord (.type "enumerate") (Builtin.SmallTypes.ownedTupleFields ++ [it, rawInt 0, .none, .none])
      PySem.ret r) (fun fin s' => ∃ v, fin = Fin.done (.ret v) ∧ R (.ok (.ret v)) s') (fun e s' => R (.error e) s') ⟨hp, g, d, tk, os⟩ := by
    refine wpAny_bind (wpAny_pyIter_tuple hT (wpAny_bind ?_))
    unfold Builtin.SmallTypes.newRecord
    dsimp only
    refine wpAny_newObj_type ?_ (by simp [sizeOk, Builtin.SmallTypes.ownedTupleFields, sizeLine_eq])
    exact wpAny_pure ⟨_, rfl, h⟩
  refine iteB (wpAny_bind ?_) (wpAny_bind ?_)
  · refine wpAny_pure ?_
    exact fin
  · refine wpAny_pure ?_
    exact fin
theorem call_enum_tup {prog : Program} {w : World} {A : Around} {E : Value → Shared → Prop} {s : Shared} {l : Addr} {items : Array Value} {Q : Value → Shared → Prop} (hL : IsTup s.heap l items)
    (h : ∀ h', IsEnum h' (s.heap.objs.size + 1) s.heap.objs.size 0 .none → IsTupIter h' s.heap.objs.size l 0 → h'.objs.size = s.heap.objs.size + 2 → (∀ b o, s.heap.get? b = some o → h'.get? b = some o) → Q (.ref (s.heap.objs.size + 1)) { s with heap := h' }) :
    wpAny (model prog w) A (call (.type "enumerate") [.ref l]) Q E s := by
  obtain ⟨⟨c, dct, dt, sl⟩, hl, hc, n, hd⟩ := hL
  cases (show c = _ from hc)
  cases (show dt = _ from hd)
  refine callType_new F.called_enumerate (by decide) (F.typeCall_enumerate_1 (.ref l)) (F.newCall_enumerate_1 (.ref l)) (fun obj => F.args_object_init_2 obj (.ref l)) F.entry_enumerate_new (meets_enum_tup l items n dct sl) ⟨hl, ?_⟩
  have hz := Heap.size_push s.heap { cls := .type "tuple_iterator", data := .fields #[.ref l, .int 0 0] }
  have e1 : (((s.heap.push { cls := .type "tuple_iterator", data := .fields #[.ref l, .int 0 0] }).push { cls := .type "enumerate", data := .fields #[.none, .bool false, .ref s.heap.objs.size, rawInt 0, .none, .none] }).get? (s.heap.objs.size + 1)) =
      some { cls := .type "enumerate", data := .fields #[.none, .bool false, .ref s.heap.objs.size, rawInt 0, .none, .none] } := by
    rw [← hz]
    exact Heap.get?_push_size _ rfl
  show Shared.TypeIs _ (.ref (s.heap.push _).objs.size) "enumerate" ∧ Q (.ref (s.heap.push _).objs.size) _
  rw [hz]
  refine ⟨⟨_, e1, rfl⟩, h _ e1 ⟨_, Heap.get?_push_of_some _ (Heap.get?_push_size _ rfl), rfl, rfl⟩ (by rw [Heap.size_push, hz]) fun b o e => Heap.get?_push_of_some _ (Heap.get?_push_of_some _ e)⟩
/-- enumerate over a tuple: a new tuple (i, x) each -/
def IteT (K : PySem.W.Frag) (a : Addr) : It where
  go i H := ∃ xs x, SqT K H a xs ∧ xs[i]? = some x
  yld i H v H' := ∃ T x, v = V.ref T ∧ H T = none ∧ H' = upd H T (.tup [.int (i : Nat), x]) ∧ ∀ xs, SqT K H a xs → xs[i]? = some x
  stop i H := ∃ xs, SqT K H a xs ∧ xs.length = i
theorem tup_it {h : Heap} {a it : Addr} {i : Nat} {items : Array Value} (p : IsTup h a items) (q : IsTupIter h it a i) : a ≠ it := by
  obtain ⟨o, ho, hc, _⟩ := p
  obtain ⟨o2, ho2, hc2, _⟩ := q
  rintro rfl
  rw [ho] at ho2; cases ho2
  rw [hc] at hc2
  exact absurd hc2 (by decide)
theorem turn_enumT {P : Program} {w : World} {K : PySem.W.Frag} {elts : List Expr} {kk : Nat} {tpos : Pos} (a e it : Addr) :
    Turn P w K (.Tuple elts kk tpos) (IteT K a) [e, it] e fun i h => (∃ old, IsEnum h e it (i : Nat) old) ∧ IsTupIter h it a i ∧ e ≠ it where
  mem := List.mem_cons_self
  obj i h st b hb := by
    obtain ⟨⟨old, he⟩, ⟨o, ho, hc, hd⟩, _⟩ := st
    rcases List.mem_cons.mp hb with rfl | hb
    · exact ⟨_, he, fun v q => nomatch q⟩
    · cases List.mem_singleton.mp hb
      exact ⟨o, ho, fun v q => by rw [hd] at q; cases q⟩
  keep i h h' st k := by
    obtain ⟨⟨old, he⟩, ⟨o, ho, hc, hd⟩, hne⟩ := st
    exact ⟨⟨old, k e (by simp) _ he⟩, ⟨o, k it (by simp) _ ho, hc, hd⟩, hne⟩
  item X hP hw hK hc i pins s σ H E I hf st hg := by
    subst hP hw hK
    obtain ⟨⟨old, he⟩, hit, hne⟩ := st
    obtain ⟨xs, x, hq, hx⟩ := hg
    obtain ⟨its, rv, p, hz⟩ := Inv.tuple I hq
    obtain ⟨u, hu, ru⟩ := Vals.get rv hx
    have hel := Heap.lt_size he
    have hil : it < s.heap.objs.size := let ⟨_, q, _⟩ := hit; Heap.lt_size q
    have hae : a ≠ e := by
      obtain ⟨o, ho, hc', _⟩ := p
      rintro rfl
      rw [he] at ho; cases ho
      exact absurd (show Value.type "enumerate" = .type "tuple" from hc') (by decide)
    have hlt : i < its.toArray.size := by
      rw [List.size_toArray]
      exact (List.getElem?_eq_some_iff.mp hu).1
    refine wpAny_pyNext_enum_itemD (draws_tuple (A := X.A.in1) (show X.A.in1.handled = none from I.ok.hd hc) it a (tup_it p hit) its.toArray) he ⟨hit, p⟩ hlt hne (by simp [hne, hae.symm]) fun y h' tk hy ho st' hT hsz hk => ⟨_, rfl, ?_⟩
    have ey : y = u := by
      have hy : its.toArray[i]? = some y := hy
      rw [List.getElem?_toArray, hu] at hy
      exact (Option.some.inj hy).symm
    subst ey
    refine wpAny_letOwnedTupleGo_enum ho fun h'' he' sb => ?_
    have hT2 := (sb.2 s.heap.objs.size (Nat.ne_of_gt hel)).trans hT
    have I1 := Inv.turnedNew I (h' := h'') (t' := tk + 1) (ob := .tup [.int (i : Nat), x]) (fun b ob hb q => (sb.2 b fun z => hb (by simp [z])).trans (hk b ob (fun z => hb (by simp [z])) (fun z => hb (by simp [z])) q)) hf (Nat.le_refl s.heap.objs.size)
      ⟨by show 2 ≤ sizeLine; decide, [.int (i : Nat) tk, y], .cons ⟨tk, rfl⟩ (.cons ru .nil), _, hT2, rfl, 0, rfl⟩
    refine ⟨V.ref s.heap.objs.size, _, I1, rfl, ⟨_, x, rfl, HOk.fresh I.hok (Nat.le_refl _), rfl, fun ys hy => ?_⟩, ⟨⟨y, ?_⟩, ?_, hne⟩, fun b hb => ?_⟩
    · rw [Inv.tuple_inj I hy hq]; exact hx
    · have e1 : ((i + 1 : Nat) : Int) = (i : Int) + 1 := by omega
      rw [e1]; exact he'
    · obtain ⟨o, q, z⟩ := st'.1
      exact ⟨o, (sb.2 it (Ne.symm hne)).trans q, z⟩
    · have hb' : b < s.heap.objs.size := by
        rcases List.mem_cons.mp hb with rfl | hb
        · exact hel
        · cases List.mem_singleton.mp hb; exact hil
      rw [upd_ne (Nat.ne_of_lt hb')]
      exact (hf b hb).1
  done X hP hw hK hc i pins s σ H E I hf st hg := by
    subst hP hw hK
    obtain ⟨⟨old, he⟩, hit, hne⟩ := st
    obtain ⟨xs, hq, hx⟩ := hg
    obtain ⟨its, rv, p, hz⟩ := Inv.tuple I hq
    obtain ⟨f0, f1, f2, f3, f4, f5⟩ := hf it (by simp)
    have hl := rv.length
    have dr := draws_tuple (prog := X.prog) (w := X.w) (A := X.A.in1) (show X.A.in1.handled = none from I.ok.hd hc) it a (tup_it p hit) its.toArray
    exact wpAny_pyNext_enum_endD dr he ⟨(by rw [List.size_toArray, ← hl, hx]; exact hit), p⟩ fun h' eb => ⟨rfl, Inv.turned I (fun b o hb q => eb b o hb q) f0 f1 f3 f4 f5⟩
  self A i s Q E st h := by
    obtain ⟨⟨_, he⟩, _⟩ := st
    exact wpAny_pyIter_enum he h
def iEnumT (K : PySem.W.Frag) (ta : TA) : TI := fun σ H R => ta σ H fun vs H1 => ∃ a xs, vs = [V.ref a] ∧ SqT K H1 a xs ∧ R (IteT K a) H1
theorem pi_enumT {X : Cx} {e : Expr} {ta : TA} {p pos tpos : Pos} {elts : List Expr} {kk : Nat} (hg : Gl X "enumerate") (hm : X.mg "enumerate" = none) (ha : PA X [e] ta) (hs : starEach [e] X.env = [(false, eval e X.env)] := by rfl) :
    PI X (.Tuple elts kk tpos) (.Call (.Name "enumerate" p) [e] [] pos) (iEnumT X.K ta) := by
  refine ⟨fun pins s σ H R I h => PyProof.Rows.Call_ (ld_blt I hg hm PyProof.Rows.boot_enumerate (PyProof.Rows.callWith_type1 (thn (ha.run pos pins s σ H _ I h) fun us s1 ⟨vs, H1, I1, r1, a, xs, ex, hq, q⟩ => ?_) hs rfl) (by decide) (by decide)) rfl⟩
  subst ex
  cases r1 with | cons r rr => ?_
  cases rr
  cases r
  obtain ⟨its, rv, p', hz⟩ := Inv.tuple I1 hq
  refine call_enum_tup p' fun h' he hit hsz hk => wpAny_pyIter_enum he ?_
  have I2 := Inv.kept (t' := s1.toks) I1 hk
  refine ⟨s1.heap.objs.size + 1, [s1.heap.objs.size + 1, s1.heap.objs.size], _, IteT X.K a, H1, rfl, I2, turn_enumT a _ _, ⟨⟨.none, he⟩, hit, Nat.succ_ne_self _⟩, fun b hb => ?_, q⟩
  have hle : s1.heap.objs.size ≤ b := by
    rcases List.mem_cons.mp hb with rfl | hb
    · exact Nat.le_succ _
    · cases List.mem_singleton.mp hb; exact Nat.le_refl _
  exact Inv.fpOk I1 hle (HOk.fresh I1.hok hle)
end Em
end
section
set_option linter.all false
set_option maxRecDepth 100000
set_option maxHeartbeats 1000000
/-! C3: comprehensions over texts -/
namespace Cm
open PySem L2
theorem lc_str {x : Str} {g : TG} {tt : TT} {te : TE} {vs : List Nat} {σ : St} {H1 : Hp} {D : Addr} {Qd : Hp → Prop} (Pv : Nat → Hp → Prop) (h0 : Pv 0 (upd H1 D (.lst [])))
    (hs : ∀ (i c : Nat) (H : Hp), x.cps[i]? = some c → Pv i H → g (.str ⟨#[c]⟩) (wipe σ vs) H fun σ2 H2 => wipe σ2 vs = wipe σ vs ∧ tt σ2 H2 fun b H3 =>
      if b = true then te σ2 H3 fun y H4 => ∃ acc, H4 D = some (.lst acc) ∧ acc.length < sizeLine ∧ Pv (i + 1) (upd H4 D (.lst (acc ++ [y]))) else Pv (i + 1) H3)
    (hd : ∀ H, Pv x.cps.size H → Qd H) :
    ∃ W : Nat → Nat → Hp → Prop, (∃ m, W 0 m (upd H1 D (.lst []))) ∧ ∀ i m H, W i m H → ((Its x).stop i H ∧ Qd H) ∨ ((Its x).go i H ∧ ∃ Nx : Hp → Prop, (∀ H', Nx H' → ∃ m', m' < m ∧ W (i + 1) m' H') ∧ ∀ v H', (Its x).yld i H v H' →
      g v (wipe σ vs) H' fun σ2 H2 => wipe σ2 vs = wipe σ vs ∧ tt σ2 H2 fun b H3 => if b = true then te σ2 H3 fun y H4 => ∃ acc, H4 D = some (.lst acc) ∧ acc.length < sizeLine ∧ Nx (upd H4 D (.lst (acc ++ [y]))) else Nx H3) := by
  refine ⟨fun i m H => m = x.cps.size - i ∧ i ≤ x.cps.size ∧ Pv i H, ⟨_, rfl, Nat.zero_le _, h0⟩, ?_⟩
  rintro i m H ⟨rfl, hi, p⟩
  by_cases hlt : i < x.cps.size
  · refine .inr ⟨hlt, Pv (i + 1), fun H' p' => ⟨_, by omega, rfl, hlt, p'⟩, ?_⟩
    rintro v H' ⟨rfl, c, hc, rfl⟩
    exact hs i c H' hc p
  · have e : i = x.cps.size := by omega
    subst e
    exact .inl ⟨Nat.le_refl _, hd H p⟩
theorem small_le {n : Nat} (h : n ≤ 1000) : n ≤ sizeLine := Nat.le_of_lt (small1000 h)
end Cm
namespace Cm
open PySem L2
theorem ix_kd {X : Cx} {d : Addr} {es : Array DictEntry} {n : Nat} (D : KDict X.K X.w d es n) : IxR X (fun x y H Q => ∃ (z : Str) (u0 : Value) (v0 : V), x = .ref d ∧ y = .str z ∧ PySem.W.nsIn X.K d z = some (some u0) ∧ RelV v0 u0 ∧ Q v0 H) := by
  intro value slice pins s σ H x y v u Q I rx ry h hs
  obtain ⟨z, u0, v0, rfl, rfl, e, r, q⟩ := h
  cases (show v = Value.ref d from rx)
  have ho := Inv.kIn I d _ D.at_
  exact PyProof.Rows.tail_any (T := "dict") ⟨_, ho, rfl⟩ PySem.F.slot_dict_getitem.lookup (op_item_kd D pins s σ H (.ref d) (.str z) _ u Q I rfl ry ⟨z, u0, v0, rfl, rfl, e, r, q⟩) hs
end Cm
end
section
set_option linter.all false
set_option maxRecDepth 100000
set_option maxHeartbeats 1000000
/-! C4: rows of a block, as numbers and statements -/
namespace Cm
open PySem L2
mutual
def rowsS (p : List Int) : Stm → List (List Int × Stm)
  | .ask _ _ _ _ x => rowsL (p ++ [0]) 0 x
  | .iff _ x y => rowsL (p ++ [0]) 0 x ++ rowsL (p ++ [1]) 0 y
  | .whl _ x => rowsL (p ++ [0]) 0 x
  | .tms _ x => rowsL (p ++ [0]) 0 x
  | _ => []
def rowsL (p : List Int) (i : Nat) : List Stm → List (List Int × Stm)
  | [] => []
  | s :: r => (p ++ [(i : Int)], s) :: (rowsS (p ++ [(i : Int)]) s ++ rowsL p (i + 1) r)
end
mutual
def Stm.depth : Stm → Nat
  | .ask _ _ _ _ x => depths x + 1
  | .iff _ x y => max (depths x) (depths y) + 1
  | .whl _ x => depths x + 1
  | .tms _ x => depths x + 1
  | _ => 0
def depths : List Stm → Nat
  | [] => 0
  | s :: r => max s.depth (depths r)
end
mutual
def Stm.slim : Stm → Prop
  | .ask _ _ _ _ x => x.length ≤ 500 ∧ slims x
  | .iff _ x y => (x.length ≤ 500 ∧ slims x) ∧ y.length ≤ 500 ∧ slims y
  | .whl _ x => x.length ≤ 500 ∧ slims x
  | .tms _ x => x.length ≤ 500 ∧ slims x
  | _ => True
def slims : List Stm → Prop
  | [] => True
  | s :: r => s.slim ∧ slims r
end
def Stm.word : Stm → Str
  | .ask k _ _ _ _ => askW k
  | .move _ _ => "move"
  | .part _ _ => "part"
  | .tell _ _ => "tell"
  | .iff _ _ _ => "if"
  | .whl _ _ => "while"
  | .tms _ _ => "times"
  | .fin => "end"
def Stm.inner : Stm → List (List Stm)
  | .ask _ _ _ _ x => [x]
  | .iff _ x y => [x, y]
  | .whl _ x => [x]
  | .tms _ x => [x]
  | _ => []
def rowsI (p : List Int) (n : Nat) : List (List Stm) → List (List Int × Stm)
  | [] => []
  | x :: r => rowsL (p ++ [(n : Int)]) 0 x ++ rowsI p (n + 1) r
theorem rowsS_inner (p : List Int) (s : Stm) : rowsS p s = rowsI p 0 s.inner := by
  cases s <;> simp [rowsS, rowsI, Stm.inner]
theorem depths_at : ∀ {x : List Stm} {i : Nat} {s : Stm}, x[i]? = some s → s.depth ≤ depths x
  | s0 :: r, 0, s, h => by
    cases h
    exact Nat.le_max_left ..
  | s0 :: r, i + 1, s, h => Nat.le_trans (depths_at (x := r) (i := i) (by simpa using h)) (Nat.le_max_right ..)
theorem slims_at : ∀ {x : List Stm} {i : Nat} {s : Stm}, x[i]? = some s → slims x → s.slim
  | s0 :: r, 0, s, h, g => by
    cases h
    exact g.1
  | s0 :: r, i + 1, s, h, g => slims_at (x := r) (i := i) (by simpa using h) g.2
theorem inner_depth {s : Stm} {x : List Stm} (h : x ∈ s.inner) : depths x + 1 ≤ s.depth := by
  cases s <;> simp only [Stm.inner, List.mem_cons, List.not_mem_nil, or_false, false_or] at h
  case iff a u v => rcases h with rfl | rfl <;> simp only [Stm.depth] <;> omega
  all_goals first | (subst h; simp only [Stm.depth]; omega) | cases h
theorem inner_slim {s : Stm} {x : List Stm} (h : x ∈ s.inner) (g : s.slim) : x.length ≤ 500 ∧ slims x := by
  cases s <;> simp only [Stm.inner, List.mem_cons, List.not_mem_nil, or_false, false_or] at h <;> simp only [Stm.slim] at g
  case iff a u v => rcases h with rfl | rfl; exact g.1; exact g.2
  all_goals first | (subst h; exact g) | cases h
theorem rowsL_drop {p : List Int} {x : List Stm} {i : Nat} {s : Stm} (h : x[i]? = some s) : rowsL p i (x.drop i) = (p ++ [(i : Int)], s) :: (rowsI (p ++ [(i : Int)]) 0 s.inner ++ rowsL p (i + 1) (x.drop (i + 1))) := by
  have hi := (List.getElem?_eq_some_iff.mp h).1
  rw [List.drop_eq_getElem_cons hi, ← rowsS_inner]
  have : x[i] = s := (List.getElem?_eq_some_iff.mp h).2
  rw [this]
  simp only [rowsL]
theorem rowsI_drop {p : List Int} {x : List (List Stm)} {n : Nat} {y : List Stm} (h : x[n]? = some y) : rowsI p n (x.drop n) = rowsL (p ++ [(n : Int)]) 0 y ++ rowsI p (n + 1) (x.drop (n + 1)) := by
  have hi := (List.getElem?_eq_some_iff.mp h).1
  rw [List.drop_eq_getElem_cons hi]
  have : x[n] = y := (List.getElem?_eq_some_iff.mp h).2
  rw [this]
  simp only [rowsI]
theorem toDs_at : ∀ {x : List Stm} {i : Nat} {s : Stm}, x[i]? = some s → (toDs x)[i]? = some s.toD
  | s0 :: r, 0, s, h => by
    cases h
    simp [toDs]
  | s0 :: r, i + 1, s, h => by
    have := toDs_at (x := r) (i := i) (s := s) (by simpa using h)
    simpa [toDs] using this
theorem askW_in (k : Nat) : askW k = "send" ∨ askW k = "keyed" ∨ askW k = "look" := by
  match k with
  | 0 => exact .inl rfl
  | 1 => exact .inr (.inl rfl)
  | _ + 2 => exact .inr (.inr rfl)
/-- a row handed out -/
def rowIt (p : List Int) (s : Stm) : Gp.Item := fun v Hg => ∃ (t tp : Addr) (u : V), v = .ref t ∧ Hg t = some (.tup [.ref tp, u]) ∧ Hg tp = some (.tup (p.map V.int)) ∧ Td Hg u s.toD
theorem rowIt_mono (p : List Int) (s : Stm) : Gm.Mono (rowIt p s) := by
  rintro v Hg Hg' hs ⟨t, tp, u, rfl, a, b, c⟩
  exact ⟨t, tp, u, rfl, hs _ _ a, hs _ _ b, c.mono hs⟩
def rowIts (l : List (List Int × Stm)) : List Gp.Item := l.map fun r => rowIt r.1 r.2
theorem rowIts_mono {l : List (List Int × Stm)} : ∀ it ∈ rowIts l, Gm.Mono it := fun it h => by
  obtain ⟨r, _, rfl⟩ := List.mem_map.mp h
  exact rowIt_mono _ _
/-- for over enumerate(a tuple), in a generator -/
theorem yfor_enum {K : PySem.W.Frag} {a : Addr} {xs : List V} {g : TG} {tb : Gp.TY} {D : Gp.YEnds} {its : List Gp.Item} {σ : St} {H1 : Hp} (Pv : Nat → List Gp.Item → St → Hp → Prop) (h0 : Pv 0 its σ H1) (hl : ∀ i its σ H, i ≤ xs.length → Pv i its σ H → SqT K H a xs)
    (hs : ∀ i x its σ H T, xs[i]? = some x → Pv i its σ H → H T = none → (∀ zs, SqT K H a zs → zs[i]? = some x) → g (.ref T) σ (upd H T (.tup [.int (i : Nat), x])) fun σ2 H2 => tb { D with nx := Pv (i + 1), ct := Pv (i + 1), bk := D.nx } its σ2 H2)
    (hd : ∀ its σ H, Pv xs.length its σ H → D.nx its σ H) :
    ∃ W : Nat → Nat → List Gp.Item → L2.St → Hp → Prop, (∃ m, W 0 m its σ H1) ∧ ∀ i m its σ H, W i m its σ H → ((Em.IteT K a).stop i H ∧ D.nx its σ H) ∨ ((Em.IteT K a).go i H ∧ ∃ N : List Gp.Item → L2.St → Hp → Prop, (∀ its' σ' H', N its' σ' H' → ∃ m', m' < m ∧ W (i + 1) m' its' σ' H') ∧
      ∀ x H', (Em.IteT K a).yld i H x H' → g x σ H' fun σ2 H2 => tb { D with nx := N, ct := N, bk := D.nx } its σ2 H2) := by
  refine ⟨fun i m its σ H => m = xs.length - i ∧ i ≤ xs.length ∧ Pv i its σ H, ⟨_, rfl, Nat.zero_le _, h0⟩, ?_⟩
  rintro i m its σ H ⟨rfl, hi, p⟩
  have q := hl i its σ H hi p
  by_cases hlt : i < xs.length
  · refine .inr ⟨⟨xs, xs[i], q, List.getElem?_eq_getElem hlt⟩, Pv (i + 1), fun its' σ' H' p' => ⟨_, by omega, rfl, hlt, p'⟩, ?_⟩
    rintro v H' ⟨T, x, rfl, hT, rfl, hx⟩
    exact hs i x its σ H T (hx xs q) p hT hx
  · have e : i = xs.length := by omega
    subst e
    exact .inl ⟨⟨xs, q, rfl⟩, hd its σ H p⟩
end Cm
end
section
set_option linter.all false
set_option maxRecDepth 100000
set_option maxHeartbeats 1000000
/-! C5: defs by their bodies, from what stands in the module -/
namespace Cm
open PySem L2
section
variable {P : Program} {w : World} {K : PySem.W.Frag} {mg : Str → Option Value} {base : Heap} {x qual : Str} {st : Stmt} {f : Addr} {fd : FuncData} {N ps : List Str} {k : Nat}
theorem funY {sp : Gp.YSp} (F : Fun K x qual st f fd) (S : Gp.YScope N ps (defScope st)) (len : ∀ vs H its, sp vs H its → vs.length = ps.length)
    (hbody : ∀ (cdv : Value) (A : Around) (outer : List Env) (s : Shared) (H : Hp) (vs : List V) (its : List Gp.Item), Room k (A.deeper (PyProof.Rows.envOfC qual (defScope st) s.heap.objs.size f cdv)) → sp vs H its →
      ∃ t, Gm.YSs (Gp.ycx P w K mg base N qual (defScope st) f cdv A outer s H) s.heap.objs.size (defBody st) t ∧
        ∀ H', (∀ b xs, H b = some (.tup xs) → H' b = some (.tup xs)) → t { nx := fun r _ _ => r = [], rt := fun r v _ => r = [] ∧ v = .non } its (start N vs) H') : Gm.YFn P w K mg base (k + 1) f fd ps sp := by
  obtain ⟨oc, od, kV, doc, pm, an, cdv, ct, osl, e, lk, hcd⟩ := F.ex
  subst e
  exact Gm.yfn_of lk hcd S len fun A outer s H vs its hr h => hbody cdv A outer s H vs its hr h
theorem fun2 {sp : Sp} (F : Fun K x qual st f fd) (S : FnScope N ps (defScope st)) (len : ∀ vs H Q E, sp vs H Q E → vs.length = ps.length)
    (hbody : ∀ (cdv : Value) (A : Around) (outer : List Env) (s : Shared) (H : Hp) (vs : List V) (Q : VK) (E : XK) (Po : Em.Dg), Room k (A.deeper (PyProof.Rows.envOfC qual (defScope st) s.heap.objs.size f cdv)) → sp vs H Q E →
      ∃ t, Em.PSs2 (cxOf (fun _ _ _ _ _ _ => False) P w K mg base N qual (defScope st) f cdv A outer s H E) Po (fun cls d _ H => E cls d H) (defBody st) t ∧ t { nx := fun _ H' => Q .non H', rt := Q } (start N vs) H) :
    Em.FnOk2 P w K mg base (k + 1) f fd ps sp := by
  obtain ⟨oc, od, kV, doc, pm, an, cdv, ct, osl, e, lk, hcd⟩ := F.ex
  subst e
  exact Em.fn2_of lk hcd S len fun A outer s H vs Q E Po hr h => hbody cdv A outer s H vs Q E Po hr h
theorem yfn_none {ps : List Str} : Gm.YFn P w K mg base k f fd ps (fun _ _ _ => False) := ⟨fun _ _ _ h => h.elim, fun _ _ _ _ _ _ _ _ _ _ _ _ h => h.elim⟩
end
end Cm
end
section
set_option linter.all false
set_option maxRecDepth 100000
set_option maxHeartbeats 1000000
/-! C6: tuples whose object is known, tuple.count -/
namespace Cm
open PySem L2
/-- a tuple that has no dict of its own -/
def TupX (K : PySem.W.Frag) (H : Hp) (a : Addr) (xs : List V) : Prop :=
  (∃ o, H a = some (.frz o (.tup xs)) ∧ o.dict = none) ∨ ∃ o its n, K.lookup a = some o ∧ o.cls = .type "tuple" ∧ o.data = .seq its n ∧ its.size ≤ sizeLine ∧ Vals xs its.toList ∧ o.dict = none
theorem TupX.sq {K : PySem.W.Frag} {H : Hp} {a : Addr} {xs : List V} (h : TupX K H a xs) : SqT K H a xs := by
  rcases h with ⟨o, e, _⟩ | ⟨o, its, n, a1, a2, a3, a4, a5, _⟩
  · exact .inl (.inr ⟨o, e⟩)
  · exact .inr ⟨o, its, n, a1, a2, a3, a4, a5⟩
theorem TupX.same {K : PySem.W.Frag} {H H' : Hp} {a : Addr} {xs : List V} (h : TupX K H a xs) (s : Same H H') : TupX K H' a xs := by
  rcases h with ⟨o, e, d⟩ | h
  · exact .inl ⟨o, s _ _ e, d⟩
  · exact .inr h
theorem tyok_tup {X : Cx} : TyOk X "tuple" (fun x H => ∃ a xs, x = .ref a ∧ TupX X.K H a xs) := by
  rintro pins σ H s x v I rx ⟨a, xs, rfl, h⟩
  cases (show v = Value.ref a from rx)
  rcases h with ⟨o, e, d⟩ | ⟨o, its, n, a1, a2, a3, a4, a5, d⟩
  · have q : ObjOk X.prog X.w H s.heap a (.frz o (.tup xs)) := I.hok a _ e
    simp only [ObjOk] at q
    obtain ⟨g, z, its, rv, o2, g2, c2, _⟩ := q
    rw [g] at g2
    cases g2
    exact ⟨⟨o, g, c2⟩, fun b eb => by cases eb; exact ⟨o, g, d⟩⟩
  · have g := Inv.kIn I a o a1
    exact ⟨⟨o, g, a2⟩, fun b eb => by cases eb; exact ⟨o, g, d⟩⟩
theorem countP_eqU {x : V} : ∀ {xs : List V} {us : List Value}, Vals xs us → xs.all flatV = true → us.countP (eqU x) = xs.countP fun y => eqV y x
  | [], _, r, _ => by
    cases r
    rfl
  | y :: xs, _, r, f => by
    cases r with
    | cons a t =>
      rw [List.all_cons, Bool.and_eq_true] at f
      rw [List.countP_cons, List.countP_cons, countP_eqU t f.2, eqU_of a f.1]
def rCntT (K : PySem.W.Frag) : V → List V → Hp → VK → Prop := fun x xs H Q => ∃ (p : Addr) (ys : List V) (y : V), x = .ref p ∧ xs = [y] ∧ SqT K H p ys ∧ flatV y = true ∧ ys.all flatV = true ∧ Q (.int ((ys.countP fun z => eqV z y : Nat) : Int)) H
theorem mt_tcount {X : Cx} : MtR X "tuple.count" (rCntT X.K) := by
  rintro pins s σ H x xs v us Q I rx rxs ⟨p, ys, y, rfl, rfl, hs, fy, fys, q⟩
  cases (show v = Value.ref p from rx)
  cases rxs with | cons ru rt => ?_
  cases rt
  rename_i u
  obtain ⟨its, rv, ⟨⟨cls, dd, data, sl⟩, ho, hc, n, hd⟩, hlen⟩ := Inv.tuple I hs
  cases (show cls = _ from hc)
  cases (show data = _ from hd)
  refine call_meets PySem.F.slot_tuple_count ⟨_, ho, rfl⟩ PySem.F.entry_tuple_count (PySem.F.args_tuple_count_2 (.ref p) u) (SeqAt.tuple_countAt p its.toArray n dd sl u (eqU y)) ⟨ho, fun z hz => mem_eqAt ru fy rv fys z (List.mem_toArray.mp hz), ?_⟩
  refine ⟨.int ((ys.countP fun z => eqV z y : Nat) : Int), H, Inv.tok I (s.toks + 1), ⟨s.toks, ?_⟩, q⟩
  show Value.int ((its.countP (eqU y) : Nat) : Int) s.toks = _
  rw [countP_eqU rv fys]
/-- (a, b), whose object is known -/
def tTupF (t : TA) : TE := fun σ H Q => t σ H fun xs H1 => xs.length ≤ sizeLine ∧ ∀ p o, H1 p = none → o.dict = none → Q (.ref p) (upd H1 p (.frz o (.tup xs)))
theorem frz_ok {P : Program} {w : World} {H : Hp} {h : Heap} {a : Addr} {o : Obj} {xs : List V} {us : List Value} (g : h.get? a = some o) (hc : o.cls = .type "tuple") (hd : ∃ n, o.data = .seq us.toArray n) (z : xs.length ≤ sizeLine) (r : Vals xs us) : ObjOk P w H h a (.frz o (.tup xs)) := by
  simp only [ObjOk]
  exact ⟨g, z, us, r, o, g, hc, hd⟩
theorem pe_tupF {X : Cx} {es : List Expr} {t : TA} {pos : Pos} {x1 : Nat} (h : PA X es t) : PE X (.Tuple es x1 pos) (tTupF t) := by
  refine ⟨fun pins s σ H Q I hq => wpAny_Tuple_spliced (thn (h.run pos pins s σ H _ I hq) fun us s1 ⟨xs, H1, I1, r, z, q⟩ => ?_)⟩
  have hf := HOk.fresh I1.hok (Nat.le_refl s1.heap.objs.size)
  refine ⟨by rw [← r.length]; exact z, V.ref s1.heap.objs.size, _, Inv.laid I1 (fun b u e => Heap.get?_push_of_some { cls := .type "tuple", data := .seq us.toArray } e) (Nat.le_refl _) (frz_ok (Heap.get?_push_size s1.heap rfl) rfl ⟨0, rfl⟩ z r), rfl, q _ _ hf rfl⟩
/-- tuple(a list), whose object is known -/
theorem call_tuple_ofF {X : Cx} : CallR X (.type "tuple") fun xs H Q => ∃ p ys, xs = [V.ref p] ∧ SqL X.K H p ys ∧ ∀ l o, H l = none → o.dict = none → Q (.ref l) (upd H l (.frz o (.tup ys))) := by
  rintro pins s σ H xs us Q I r ⟨p, ys, rfl, hq, q⟩
  cases r with | cons rx rt => ?_
  cases rt
  rename_i u
  cases (show u = Value.ref p from rx)
  obtain ⟨its, r', pl, hz⟩ := Inv.list I hq
  have hlen := r'.length
  refine call_tuple_list (PlainL.isList pl) (fun h' kp => ?_) (by rw [List.size_toArray]; omega)
  have I1 := Inv.kept (t' := s.toks) I kp
  have hf := HOk.fresh I1.hok (Nat.le_refl h'.objs.size)
  exact ⟨V.ref h'.objs.size, _, Inv.laid (s := { s with heap := h' }) (a := h'.objs.size) I1 (fun b o e => Heap.get?_push_of_some { cls := .type "tuple", data := .seq its.toArray } e) (Nat.le_refl _) (frz_ok (Heap.get?_push_size h' rfl) rfl ⟨0, rfl⟩ hz r'), rfl, q _ _ hf rfl⟩
/-- a + b of tuples, a new one's object is known -/
def rCatF (K : PySem.W.Frag) : R2 := fun x y H Q => ∃ a b xs ys, x = .ref a ∧ y = .ref b ∧ SqT K H a xs ∧ SqT K H b ys ∧ xs.length + ys.length ≤ sizeLine ∧ (xs = [] → Q (.ref b) H) ∧ (xs ≠ [] → ys = [] → Q (.ref a) H) ∧
  (xs ≠ [] → ys ≠ [] → ∀ p o, H p = none → o.dict = none → Q (.ref p) (upd H p (.frz o (.tup (xs ++ ys)))))
theorem op_catF {X : Cx} : OpR X (binaryOp .Add) (rCatF X.K) := by
  rintro pins s σ H x y v u Q I rx ry ⟨a, b, xs, ys, rfl, rfl, ha, hb, hz, q0, q1, q2⟩
  cases (show v = Value.ref a from rx)
  cases (show u = Value.ref b from ry)
  obtain ⟨its, r1, p1, z1⟩ := Inv.tuple I ha
  obtain ⟨its2, r2, p2, z2⟩ := Inv.tuple I hb
  by_cases hx : xs = []
  · subst hx
    cases r1
    exact cat_tup0 p1 p2 ⟨V.ref b, H, I, rfl, q0 rfl⟩
  refine HT.cat_tup p1 p2 (fun z => hx (r1.nil_iff.mp z)) (fun z => ⟨V.ref a, H, I, rfl, q1 hx (r2.nil_iff.mp z)⟩) (fun z => ?_) (by rw [← r1.length, ← r2.length]; exact hz)
  exact ⟨V.ref s.heap.objs.size, _, Inv.laid I (fun b ob q => Heap.get?_push_of_some { cls := .type "tuple", data := .seq (its ++ its2).toArray } q) (Nat.le_refl _) (frz_ok (Heap.get?_push_size s.heap rfl) rfl ⟨0, rfl⟩ (by rw [List.length_append]; exact hz) (r1.append r2)), rfl,
    q2 hx (fun w => z (r2.nil_iff.mpr w)) _ _ (HOk.fresh I.hok (Nat.le_refl _)) rfl⟩
end Cm
end
section
set_option linter.all false
set_option maxRecDepth 100000
/-! C6b: tuples whose object is known, while the law draws -/
namespace Cm
open PySem L2
theorem HS.nf {H : Hp} {p q t : Addr} {o : Obj} {xs : List V} (h : HS H p q) (n : H t = some (.frz o (.tup xs))) : t ≠ p ∧ t ≠ q := by
  obtain ⟨a, i, ns, g1, g2, _⟩ := h
  constructor
  · rintro rfl
    rw [g1] at n
    cases n
  · rintro rfl
    rw [g2] at n
    cases n
theorem TupX.keep {K : PySem.W.Frag} {H H' : Hp} {p q t : Addr} {xs : List V} (h : TupX K H t xs) (hH : HS H p q) (k : Keep p q H H') : TupX K H' t xs := by
  rcases h with ⟨o, e, d⟩ | h
  · exact .inl ⟨o, k _ _ e (hH.nf e).1 (hH.nf e).2, d⟩
  · exact .inr h
theorem TupX.keep3 {K : PySem.W.Frag} {H H' : Hp} {p q r t : Addr} {xs ys : List V} (h : TupX K H t xs) (hH : HS H p q) (hr : H r = some (.lst ys)) (k : Keep3 p q r H H') : TupX K H' t xs := by
  rcases h with ⟨o, e, d⟩ | h
  · refine .inl ⟨o, k _ _ e (hH.nf e).1 (hH.nf e).2 (fun z => ?_), d⟩
    subst z
    rw [hr] at e
    cases e
  · exact .inr h
end Cm
end
section
set_option maxRecDepth 100000
set_option maxHeartbeats 4000000
namespace W1
open PySem L2 Cm
section
variable {P : Program} {w : World} {K : PySem.W.Frag} {mg : Str → Option Value} {base : Heap}
def spTurned (K : PySem.W.Frag) : Sp := fun vs H Q _ => ∃ (p q l : Addr) (xs : List V) (many : Nat), vs = [.ref p, .ref l, .int many] ∧ HS H p q ∧ H l = some (.lst xs) ∧ l ≠ p ∧ l ≠ q ∧ xs ≠ [] ∧ xs.length ≤ 500 ∧
  ∀ (i : Nat) (t : Addr) (H' : Hp), i < xs.length → TupX K H' t ((xs.drop i ++ xs.take i).take many) → HS H' p q → Keep p q H H' → Q (.ref t) H'
theorem ok_turned {f fN : Addr} {fd fdN : FuncData} (F : Fun K "_law_turned" "_law_turned" s_law_turned f fd) (T : Bi mg) (N : Dn K mg "_law_next" s_law_next ["_law_h", "_law_cap"] fN fdN) : FnOk P w K mg base CX0 2 f fd ["_law_h", "_law_menu", "_law_many"] (spTurned K) := by
  have GN : FnOk P w K mg base CX0 1 fN fdN ["_law_h", "_law_cap"] spNext := ok_next N.F T
  have nd := sc_law_turned.nd
  refine F.ok sc_law_turned (fun vs H Q E h => ?_) (fun cdv A outer s H vs Q E hr h => ?_)
  · obtain ⟨p, q, l, xs, m, rfl, _⟩ := h
    rfl
  · obtain ⟨p, q, l, xs, m, rfl, hH, hl, n1, n2, hne, hlen, k⟩ := h
    refine ⟨_, pss_cons (ps_set (i := 3) nd rfl (Or.inl rfl) (pe_call GN hr (by rfl) N.g N.F.kp N.b .nil pass0 (pa_cons (pv 0) (pa_cons (pe_callB call_len_seq (by rfl) T.len PySem.boot_len (pa_cons (pv 1) pa_nil)) pa_nil))))
      (pss_one (ps_ret (pe_callTy call_tuple_ofF (by rfl) T.tuple (by decide +kernel) (pa_cons (pe_slice sl_list (pe_op op_cat (pe_slice sl_list (pv 1) (po_some (pv 3)) po_none) (pe_slice sl_list (pv 1) po_none (po_some (pv 3)))) po_none (po_some (pv 2))) pa_nil)))), ?_⟩
    have hpos : 0 < xs.length := List.length_pos_iff.mpr hne
    refine ⟨_, rfl, _, rfl, l, xs, rfl, .inl (SqL.of hl), p, q, _, rfl, by omega, by omega, hH, fun v H1 v0 v1 hH1 k1 => ?_⟩
    obtain ⟨i, rfl⟩ : ∃ i : Nat, v = (i : Int) := ⟨v.toNat, by omega⟩
    have hl1 := k1 _ _ hl n1 n2
    refine ⟨_, rfl, _, rfl, _, rfl, l, xs, rfl, SqL.of hl1, fun t1 m1 => ?_⟩
    rw [cut_from (Nat.le_of_lt (by omega))]
    have s1 := same_upd (o := .lst (xs.drop i)) m1
    refine ⟨_, rfl, _, rfl, _, rfl, l, xs, rfl, SqL.of (s1 _ _ hl1), fun t2 m2 => ?_⟩
    rw [cut_to (Nat.le_of_lt (by omega))]
    have s2 := s1.trans (same_upd (o := .lst (xs.take i)) m2)
    have e1 : upd (upd H1 t1 (.lst (xs.drop i))) t2 (.lst (xs.take i)) t1 = some (.lst (xs.drop i)) := (same_upd (o := .lst (xs.take i)) m2) _ _ upd_same
    have e2 : upd (upd H1 t1 (.lst (xs.drop i))) t2 (.lst (xs.take i)) t2 = some (.lst (xs.take i)) := upd_same
    generalize upd (upd H1 t1 (.lst (xs.drop i))) t2 (.lst (xs.take i)) = H2 at s2 e1 e2
    have hL : (xs.drop i).length + (xs.take i).length = xs.length := by rw [List.length_drop, List.length_take]; omega
    refine ⟨t1, t2, _, _, rfl, rfl, e1, e2, (by rw [hL]; exact Nat.le_of_lt (small1000 (by omega))), fun t3 m3 => ?_⟩
    have s3 := s2.trans (same_upd (o := .lst (xs.drop i ++ xs.take i)) m3)
    have e3 : upd H2 t3 (.lst (xs.drop i ++ xs.take i)) t3 = some (.lst (xs.drop i ++ xs.take i)) := upd_same
    generalize upd H2 t3 (.lst (xs.drop i ++ xs.take i)) = H3 at s3 e3
    refine ⟨_, rfl, _, rfl, t3, _, rfl, SqL.of e3, fun t4 m4 => ?_⟩
    have s4 := s3.trans (same_upd (o := .lst (cutV (xs.drop i ++ xs.take i) none (some (m : Int)))) m4)
    have e4 : upd H3 t4 (.lst (cutV (xs.drop i ++ xs.take i) none (some (m : Int)))) t4 = some (.lst (cutV (xs.drop i ++ xs.take i) none (some (m : Int)))) := upd_same
    generalize upd H3 t4 (.lst (cutV (xs.drop i ++ xs.take i) none (some (m : Int)))) = H4 at s4 e4
    refine ⟨t4, _, rfl, SqL.of e4, fun t ob m5 od => ?_⟩
    have s5 := s4.trans (same_upd (o := .frz ob (.tup (cutV (xs.drop i ++ xs.take i) none (some (m : Int))))) m5)
    refine k i t _ (by omega) (.inl ⟨ob, ?_, od⟩) (hH1.same s5) (k1.trans (Keep.of s5))
    rw [upd_same, cut_any]
end
end W1
end
section
set_option maxRecDepth 100000
set_option maxHeartbeats 4000000
namespace W1
open PySem L2 Cm
section
variable {P : Program} {w : World} {K : PySem.W.Frag} {mg : Str → Option Value} {base : Heap}
/-- drawn lists: two or three unlike names of the menu -/
def NamesOk (names : List Str) : Prop := names.Nodup ∧ (names.length = 2 ∨ names.length = 3) ∧ ∀ x ∈ names, x ∈ menuN
def spLists (K : PySem.W.Frag) : Sp := fun vs H Q _ => ∃ (p q : Addr), vs = [.ref p] ∧ HS H p q ∧ ∀ (names : List Str) (t : Addr) (H' : Hp), NamesOk names → TupX K H' t (names.map V.str) → HS H' p q → Keep p q H H' → Q (.ref t) H'
theorem ok_lists {f fN fT : Addr} {fd fdN fdT : FuncData} (F : Fun K "_law_lists" "_law_lists" s_law_lists f fd) (T : Bi mg) (N : Dn K mg "_law_next" s_law_next ["_law_h", "_law_cap"] fN fdN) (U : Dn K mg "_law_turned" s_law_turned ["_law_h", "_law_menu", "_law_many"] fT fdT) :
    FnOk P w K mg base CX0 3 f fd ["_law_h"] (spLists K) := by
  have GN : FnOk P w K mg base CX0 1 fN fdN ["_law_h", "_law_cap"] spNext := ok_next N.F T
  have GT : FnOk P w K mg base CX0 2 fT fdT ["_law_h", "_law_menu", "_law_many"] (spTurned K) := ok_turned U.F T N
  refine F.ok sc_law_lists (fun vs H Q E h => ?_) (fun cdv A outer s H vs Q E hr h => ?_)
  · obtain ⟨p, q, rfl, _⟩ := h
    rfl
  · obtain ⟨p, q, rfl, hH, k⟩ := h
    have hr1 : Room 1 _ := hr.mono (by decide)
    refine ⟨_, pss_one (ps_ret (pe_call GT hr (by rfl) U.g U.F.kp U.b .nil pass0 (pa_cons (pv 0) (pa_cons (pe_lst (pa_cons pe_str (pa_cons pe_str (pa_cons pe_str (pa_cons pe_str (pa_cons pe_str (pa_cons pe_str (pa_cons pe_str (pa_cons pe_str (pa_cons pe_str pa_nil))))))))))
      (pa_cons (pe_op op_add pe_int (pe_call GN hr1 (by rfl) N.g N.F.kp N.b .nil pass0 (pa_cons (pv 0) (pa_cons pe_int pa_nil)))) pa_nil))))), ?_⟩
    refine ⟨_, rfl, (by show 9 ≤ sizeLine; decide), fun l nl => ?_⟩
    have s1 := same_upd (o := .lst (menuN.map V.str)) nl
    have e1 : upd H l (.lst (menuN.map V.str)) l = some (.lst (menuN.map V.str)) := upd_same
    have npl := hH.np nl
    refine ⟨_, rfl, p, q, 2, rfl, by decide, by decide, hH.same s1, fun v H1 v0 v1 hH1 k1 => ?_⟩
    obtain ⟨i, rfl⟩ : ∃ i : Nat, v = (i : Int) := ⟨v.toNat, by omega⟩
    refine ⟨2, i, rfl, rfl, ?_⟩
    refine ⟨p, q, l, menuN.map V.str, 2 + i, (by rw [Int.natCast_add]; rfl), hH1, k1 _ _ e1 npl.1 npl.2, npl.1, npl.2, (fun z => nomatch z), (by show 9 ≤ 500; decide), fun j t H2 hj ht hH2 k2 => ?_⟩
    have hj9 : j < 9 := hj
    have ok := turn_ok j (2 + i) hj9 (by omega)
    refine k (turn j (2 + i)) t H2 ⟨ok.1, (by rw [ok.2.1]; omega), ok.2.2⟩ ?_ hH2 (((Keep.of s1).trans k1).trans k2)
    unfold turn
    rw [List.map_take, List.map_append, List.map_drop, List.map_take]
    exact ht
def spList (K : PySem.W.Frag) : Sp := fun vs H Q _ => ∃ (p q tl : Addr) (names : List Str), vs = [.ref p, .ref tl] ∧ HS H p q ∧ TupX K H tl (names.map V.str) ∧ 2 ≤ names.length ∧ names.length ≤ 100 ∧
  ∀ (a : Str) (H' : Hp), a ∈ names → HS H' p q → Keep p q H H' → Q (.str a) H'
theorem ok_list {f fN : Addr} {fd fdN : FuncData} (F : Fun K "_law_list" "_law_list" s_law_list f fd) (T : Bi mg) (N : Dn K mg "_law_next" s_law_next ["_law_h", "_law_cap"] fN fdN) : FnOk P w K mg base CX0 2 f fd ["_law_h", "_law_lists_here"] (spList K) := by
  have GN : FnOk P w K mg base CX0 1 fN fdN ["_law_h", "_law_cap"] spNext := ok_next N.F T
  refine F.ok sc_law_list (fun vs H Q E h => ?_) (fun cdv A outer s H vs Q E hr h => ?_)
  · obtain ⟨p, q, tl, names, rfl, _⟩ := h
    rfl
  · obtain ⟨p, q, tl, names, rfl, hH, ht, h2, hm, k⟩ := h
    refine ⟨_, pss_one (ps_ret (pe_ix ix_tup (pe_op op_catT (pv 1) (pe_slice sl_tup (pv 1) po_none (po_some pe_int))) (pe_call GN hr (by rfl) N.g N.F.kp N.b .nil pass0 (pa_cons (pv 0) (pa_cons (pe_op op_add (pe_callB call_len_seq (by rfl) T.len PySem.boot_len (pa_cons (pv 1) pa_nil)) pe_int) pa_nil))) (fun _ _ => rfl))), ?_⟩
    have hL : (names.map V.str).length = names.length := List.length_map ..
    refine ⟨_, rfl, _, rfl, _, rfl, tl, _, rfl, ht.sq, ?_, fun t1 n1 => ?_⟩
    · rintro ⟨_, h⟩
      have : HT.sIx (names.map V.str).length (names.map V.str).length (some 1) = min 1 (names.map V.str).length := HT.sIx_nat _ _ 1
      rw [this, hL] at h
      omega
    have ec : cutV (names.map V.str) none (some 1) = (names.take 1).map V.str := by
      rw [show (1 : Int) = ((1 : Nat) : Int) from rfl, cut_any, List.map_take]
    rw [ec]
    have s1 := same_upd (o := .tup ((names.take 1).map V.str)) n1
    have e1 : upd H t1 (.tup ((names.take 1).map V.str)) t1 = some (.tup ((names.take 1).map V.str)) := upd_same
    generalize upd H t1 (.tup ((names.take 1).map V.str)) = H1 at s1 e1
    have l1 : (names.take 1).length = 1 := by rw [List.length_take]; omega
    refine ⟨tl, t1, _, _, rfl, rfl, (ht.same s1).sq, SqT.of e1, ?_, ?_, fun e => ?_, fun _ t2 n2 => ?_⟩
    · intro e
      rw [List.map_eq_nil_iff] at e
      rw [e] at h2
      exact absurd h2 (by decide)
    · rw [List.length_map, List.length_map, l1]
      exact Nat.le_of_lt (small1000 (by omega))
    · have := congrArg List.length e
      rw [List.length_map, l1] at this
      cases this
    rw [← List.map_append]
    have s2 := s1.trans (same_upd (o := .tup ((names ++ names.take 1).map V.str)) n2)
    have e2 : upd H1 t2 (.tup ((names ++ names.take 1).map V.str)) t2 = some (.tup ((names ++ names.take 1).map V.str)) := upd_same
    generalize upd H1 t2 (.tup ((names ++ names.take 1).map V.str)) = H2 at s2 e2
    refine ⟨_, rfl, _, rfl, tl, _, rfl, .inr ((ht.same s2).sq), _, _, rfl, rfl, p, q, _, rfl, by omega, by omega, hH.same s2, fun v H3 v0 v1 hH3 k3 => ?_⟩
    rw [hL] at v1
    have n3 := (hH.same s2).nt e2
    obtain ⟨a, ha, e⟩ := pickG V.str (names ++ names.take 1) v v0 (by rw [List.length_append, l1]; omega)
    refine ⟨t2, _, _, _, rfl, rfl, SqT.of (k3 _ _ e2 n3.1 n3.2), e, ?_⟩
    refine k a H3 ?_ hH3 ((Keep.of s2).trans k3)
    rcases List.mem_append.mp ha with h | h
    · exact h
    · exact List.mem_of_mem_take h
/-! ### statements and blocks, one calling the other -/
def spBlock (K : PySem.W.Frag) (d : Nat) : Sp := fun vs H Q _ => d ≤ 2 ∧ ∃ (p q tl r : Addr) (names : List Str) (n : Nat), vs = [.ref p, .ref tl, .int (d : Int), .ref r] ∧ HS H p q ∧ TupX K H tl (names.map V.str) ∧ 2 ≤ names.length ∧ names.length ≤ 100 ∧
  H r = some (.lst [.int (n : Int)]) ∧ r ≠ p ∧ r ≠ q ∧
  ∀ (x : List Stm) (t : Addr) (H' : Hp) (m : Nat), wfs names (3 - d) x → sizes x + m = n → x.length ≤ 4 → Td H' (.ref t) (.tuple (toDs x)) → HS H' p q → H' r = some (.lst [.int (m : Int)]) → Keep3 p q r H H' → Q (.ref t) H'
def spStm (K : PySem.W.Frag) (d : Nat) : Sp := fun vs H Q _ => ∃ (p q tl r : Addr) (names : List Str) (n : Nat), vs = [.ref p, .ref tl, .int (d : Int), .ref r] ∧ HS H p q ∧ TupX K H tl (names.map V.str) ∧ 2 ≤ names.length ∧ names.length ≤ 100 ∧
  H r = some (.lst [.int (n : Int)]) ∧ r ≠ p ∧ r ≠ q ∧
  ∀ (x : Stm) (t : Addr) (H' : Hp) (m : Nat), x.wf names (2 - d) → x.size + m = n + 1 → Td H' (.ref t) x.toD → HS H' p q → H' r = some (.lst [.int (m : Int)]) → Keep3 p q r H H' → Q (.ref t) H'
theorem ok_none3 {f : Addr} {fd : FuncData} {k : Nat} {ps : List Str} : FnOk P w K mg base CX0 k f fd ps (spBlock K 3) :=
  ⟨fun _ _ _ _ h => absurd h.1 (by decide), fun _ _ _ _ _ _ _ _ _ _ _ _ _ h => absurd h.1 (by decide)⟩
theorem ok_block {k d : Nat} {f fN fS : Addr} {fd fdN fdS : FuncData} (F : Fun K "_law_block" "_law_block" s_law_block f fd) (T : Bi mg) (N : Dn K mg "_law_next" s_law_next ["_law_h", "_law_cap"] fN fdN)
    (S : Dn K mg "_law_statement" s_law_statement ["_law_h", "_law_lists_here", "_law_deep", "_law_room"] fS fdS) (GS : FnOk P w K mg base CX0 (k + 1) fS fdS ["_law_h", "_law_lists_here", "_law_deep", "_law_room"] (spStm K d)) :
    FnOk P w K mg base CX0 (k + 2) f fd ["_law_h", "_law_lists_here", "_law_deep", "_law_room"] (spBlock K d) := by
  have GN : FnOk P w K mg base CX0 1 fN fdN ["_law_h", "_law_cap"] spNext := ok_next N.F T
  have nd := sc_law_block.nd
  refine F.ok sc_law_block (fun vs H Q E h => ?_) (fun cdv A outer s H vs Q E hr h => ?_)
  · obtain ⟨_, p, q, tl, r, names, n, rfl, _⟩ := h
    rfl
  · obtain ⟨hd, p, q, tl, r, names, n, rfl, hH, ht, h2, hm, hR, rp, rq, kk⟩ := h
    have hr1 : Room 1 _ := hr.mono (by omega)
    refine ⟨_, pss_cons (ps_set (i := 4) nd rfl (Or.inl rfl) (pe_tup pa_nil))
      (pss_cons (ps_for PassesOwn.never rfl (pi_range1 (by rfl) T.range (pa_cons (pe_op op_add (pe_call GN hr1 (by rfl) N.g N.F.kp N.b .nil pass0 (pa_cons (pv 0) (pa_cons pe_int pa_nil))) (pe_callTy call_int1 (by rfl) T.int (by decide +kernel) (pa_cons (pe_cmpR op_eq (pv 2) pe_int (nomark _)) pa_nil))) pa_nil)) (pg_name (i := 5) nd rfl (Or.inl rfl))
        (pss_one (ps_if (pt_cmpR op_gt (pe_ix ix_list (pv 3) pe_int (fun _ _ => rfl)) pe_int (nomark _))
          (pss_cons (ps_asg (pe_op op_sub (pe_ix ix_list (pv 3) pe_int (fun _ _ => rfl)) pe_int) (pg_sub (pv 3) pe_int set_list))
          (pss_one (ps_set (i := 4) nd rfl (Or.inl rfl) (pe_op op_catA (pv 4) (pe_tup (pa_cons (pe_call GS hr (by rfl) S.g S.F.kp S.b .nil pass0 (pa_cons (pv 0) (pa_cons (pv 1) (pa_cons (pv 2) (pa_cons (pv 3) pa_nil))))) pa_nil)))))) pss_nil)))
      (pss_one (ps_ret (pv 4)))), ?_⟩
    refine ⟨(by show 0 ≤ sizeLine; decide), fun t0 n0 => ?_⟩
    have s0 := same_upd (o := .tup []) n0
    have e0 : upd H t0 (.tup []) t0 = some (.tup []) := upd_same
    generalize upd H t0 (.tup []) = H0 at s0 e0
    refine ⟨_, rfl, p, q, 4, rfl, by decide, by decide, hH.same s0, fun v H1 v0 v1 hH1 k1 => ?_⟩
    refine ⟨_, rfl, rfl, .inr ⟨_, rfl, _, _, rfl, rfl, ?_⟩⟩
    obtain ⟨c, hc, hcv⟩ : ∃ c : Nat, c ≤ 4 ∧ v + (if decide (V.int (d : Int) = V.int 0) = true then 1 else 0) = (c : Int) := by
      split
      · exact ⟨(v + 1).toNat, by omega, by omega⟩
      · exact ⟨v.toNat, by omega, by omega⟩
    have n0' := (hH.same s0).nt e0
    refine ⟨_, rfl, ?_, ?_, ?_⟩
    · rw [hcv]
      omega
    · rw [hcv]
      omega
    rw [hcv, Int.toNat_natCast]
    refine (for_range (lo := 0) (n := c) (fun i σ H' => ∃ (x : List Stm) (t : Addr) (m : Nat) (v5 : Option V), σ = [some (.ref p), some (.ref tl), some (.int (d : Int)), some (.ref r), some (.ref t), v5] ∧ wfs names (3 - d) x ∧ sizes x + m = n ∧ x.length ≤ i ∧
      Td H' (.ref t) (.tuple (toDs x)) ∧ HS H' p q ∧ H' r = some (.lst [.int (m : Int)]) ∧ Keep3 p q r H H')
      ⟨[], t0, n, none, rfl, (by simp [wfs]), (by simp [sizes]), Nat.le_refl _, .tup (k1 _ _ e0 n0'.1 n0'.2) .nil, hH1, k1 _ _ (s0 _ _ hR) rp rq, Keep3.of ((Keep.of s0).trans k1)⟩ ?_ ?_)
    · rintro i σ H2 hi ⟨x, t, m, v5, rfl, hw, hs, hlx, hTd, hH2, hR2, hK⟩
      refine ⟨_, rfl, r, _, 0, _, rfl, rfl, SqL.of hR2, rfl, _, _, rfl, rfl, _, rfl, ite2 (fun hc0 => ?_) (fun _ => ?_)⟩
      · have hm0 : 0 < m := by
          have := of_decide_eq_true hc0
          omega
        refine ⟨_, rfl, r, _, 0, _, rfl, rfl, SqL.of hR2, rfl, _, _, rfl, rfl, _, rfl, r, _, 0, 0, rfl, rfl, hR2, rfl, ?_⟩
        have hR3 : upd H2 r (.lst [V.int ((m : Int) - 1)]) r = some (.lst [.int ((m - 1 : Nat) : Int)]) := by rw [upd_same, show ((m : Int) - 1) = ((m - 1 : Nat) : Int) by omega]
        have K3 : Keep3 p q r H2 (upd H2 r (.lst [V.int ((m : Int) - 1)])) := Keep3.upd
        have hH3 : HS (upd H2 r (.lst [V.int ((m : Int) - 1)])) p q := by
          obtain ⟨a', i', ns, g1, g2, g3⟩ := hH2
          exact ⟨a', i', ns, by rw [upd_ne rp.symm]; exact g1, by rw [upd_ne rq.symm]; exact g2, g3⟩
        have tk3 := TK.keep3 hH2 hR2 K3
        have tkH := TK.keep3 hH hR hK
        have ht2 := (ht.keep3 hH hR hK).keep3 hH2 hR2 K3
        have hTd3 := hTd.mono tk3
        show _
        refine ⟨_, rfl, _, rfl, _, rfl, _, rfl, _, rfl, ?_⟩
        refine ⟨p, q, tl, r, names, m - 1, rfl, hH3, ht2, h2, hm, hR3, rp, rq, fun y ty H4 m' wy sy dy hH4 hR4 k4 => ?_⟩
        have tk4 := TK.keep3 hH3 hR3 k4
        refine ⟨(by show 1 ≤ sizeLine; decide), fun tn nn => ?_⟩
        have s5 := same_upd (o := .tup [.ref ty]) nn
        have e5 : upd H4 tn (.tup [.ref ty]) tn = some (.tup [.ref ty]) := upd_same
        generalize upd H4 tn (.tup [.ref ty]) = H5 at s5 e5
        have hTd5 := (hTd3.mono tk4).mono (TK.same s5)
        have dy5 := dy.mono (TK.same s5)
        have wxy : wfs names (3 - d) (x ++ [y]) := wfs_append hw (by rw [show 3 - d = (2 - d) + 1 by omega]; simp only [wfs]; exact ⟨wy, trivial⟩)
        have sxy : sizes (x ++ [y]) + m' = n := by
          rw [sizes_append]
          simp only [sizes]
          omega
        have Kall : Keep3 p q r H H5 := ((hK.trans K3).trans k4).trans (Keep3.of (Keep.of s5))
        cases hTd5 with
        | @tup _ xs _ ex rx =>
          have lx := rx.length
          refine ⟨t, tn, _, _, rfl, rfl, SqT.of ex, SqT.of e5, ?_, fun e => ?_, fun _ e => (nomatch e), fun ne _ tz nz => ?_⟩
          · rw [lx, toDs_length]
            exact Nat.le_of_lt (small1000 (by show x.length + 1 ≤ 1000; omega))
          · subst e
            have hx0 : x = [] := by
              rw [← List.length_eq_zero_iff, ← toDs_length, ← lx]
              rfl
            subst hx0
            exact ⟨[y], tn, m', _, rfl, wxy, sxy, (by show 1 ≤ i + 1; omega), .tup e5 (.cons dy5 .nil), hH4.same s5, s5 _ _ hR4, Kall⟩
          · have s6 := same_upd (o := .tup (xs ++ [V.ref ty])) nz
            refine ⟨x ++ [y], tz, m', _, rfl, wxy, sxy, (by rw [List.length_append]; show x.length + 1 ≤ i + 1; omega), ?_, (hH4.same s5).same s6, s6 _ _ (s5 _ _ hR4), Kall.trans (Keep3.of (Keep.of s6))⟩
            rw [toDs_append]
            exact .tup upd_same ((rx.mono (TK.same s6)).append (.cons (dy5.mono (TK.same s6)) .nil))
      · exact ⟨x, t, m, _, rfl, hw, hs, by omega, hTd, hH2, hR2, hK⟩
    · rintro σ H2 ⟨x, t, m, v5, rfl, hw, hs, hlx, hTd, hH2, hR2, hK⟩
      exact ⟨_, rfl, kk x t H2 m hw hs (by omega) hTd hH2 hR2 hK⟩
end
end W1
end
section
set_option maxRecDepth 100000
set_option maxHeartbeats 8000000
namespace W1
open PySem L2 Cm
section
variable {P : Program} {w : World} {K : PySem.W.Frag} {mg : Str → Option Value} {base : Heap}
/-- the state while a statement is drawn -/
structure Dr (K : PySem.W.Frag) (p q r tl : Addr) (names : List Str) (H H' : Hp) (m : Nat) : Prop where
  hs : HS H' p q
  ls : TupX K H' tl (names.map V.str)
  rm : H' r = some (.lst [.int (m : Int)])
  kp : Keep3 p q r H H'
theorem Dr.next {K : PySem.W.Frag} {p q r tl : Addr} {names : List Str} {H H1 H2 : Hp} {m : Nat} (d : Dr K p q r tl names H H1 m) (rp : r ≠ p) (rq : r ≠ q) (h : HS H2 p q) (k : Keep p q H1 H2) : Dr K p q r tl names H H2 m :=
  ⟨h, d.ls.keep d.hs k, k _ _ d.rm rp rq, d.kp.trans (Keep3.of k)⟩
theorem Dr.same {K : PySem.W.Frag} {p q r tl : Addr} {names : List Str} {H H1 H2 : Hp} {m : Nat} (d : Dr K p q r tl names H H1 m) (s : Same H1 H2) : Dr K p q r tl names H H2 m :=
  ⟨d.hs.same s, d.ls.same s, s _ _ d.rm, d.kp.trans (Keep3.of (Keep.of s))⟩
theorem Dr.blk {K : PySem.W.Frag} {p q r tl : Addr} {names : List Str} {H H1 H2 : Hp} {m m' : Nat} (d : Dr K p q r tl names H H1 m) (h : HS H2 p q) (hr : H2 r = some (.lst [.int (m' : Int)])) (k : Keep3 p q r H1 H2) : Dr K p q r tl names H H2 m' :=
  ⟨h, d.ls.keep3 d.hs d.rm k, hr, d.kp.trans k⟩
theorem ok_stm {k d : Nat} (hk : 1 ≤ k) (hd2 : d ≤ 2) {f fN fL fB : Addr} {fd fdN fdL fdB : FuncData} (F : Fun K "_law_statement" "_law_statement" s_law_statement f fd) (T : Bi mg) (N : Dn K mg "_law_next" s_law_next ["_law_h", "_law_cap"] fN fdN)
    (L : Dn K mg "_law_list" s_law_list ["_law_h", "_law_lists_here"] fL fdL) (B : Dn K mg "_law_block" s_law_block ["_law_h", "_law_lists_here", "_law_deep", "_law_room"] fB fdB) (GB : FnOk P w K mg base CX0 (k + 1) fB fdB ["_law_h", "_law_lists_here", "_law_deep", "_law_room"] (spBlock K (d + 1))) :
    FnOk P w K mg base CX0 (k + 2) f fd ["_law_h", "_law_lists_here", "_law_deep", "_law_room"] (spStm K d) := by
  have GN : FnOk P w K mg base CX0 1 fN fdN ["_law_h", "_law_cap"] spNext := ok_next N.F T
  have GL : FnOk P w K mg base CX0 2 fL fdL ["_law_h", "_law_lists_here"] (spList K) := ok_list L.F T N
  have nd := sc_law_statement.nd
  refine F.ok sc_law_statement (fun vs H Q E h => ?_) (fun cdv A outer s H vs Q E hr h => ?_)
  · obtain ⟨p, q, tl, r, names, n, rfl, _⟩ := h
    rfl
  · obtain ⟨p, q, tl, r, names, n, rfl, hH, ht, h2, hm, hR, rp, rq, kk⟩ := h
    have hr1 : Room 1 _ := hr.mono (by omega)
    have hr2 : Room 2 _ := hr.mono (by omega)
    refine ⟨_, pss_cons (ps_par3 (i := 4) (j := 5) (l := 6) (by rfl) nd rfl rfl rfl (by decide) (by decide) (by decide) rfl rfl rfl
        (pa_cons (pe_call GN hr1 (by rfl) N.g N.F.kp N.b .nil pass0 (pa_cons (pv 0) (pa_cons pe_int pa_nil)))
        (pa_cons (pe_call GL hr2 (by rfl) L.g L.F.kp L.b .nil pass0 (pa_cons (pv 0) (pa_cons (pv 1) pa_nil)))
        (pa_cons (pe_call GL hr2 (by rfl) L.g L.F.kp L.b .nil pass0 (pa_cons (pv 0) (pa_cons (pv 1) pa_nil))) pa_nil))) (by rfl))
      (pss_cons (ps_if (pt_cmpR op_lt (pv 4) pe_int (nomark _))
        (pss_cons (ps_set (i := 7) nd rfl (Or.inl rfl) (pe_ix ix_list (pe_lst (pa_cons pe_str (pa_cons pe_str (pa_cons pe_str (pa_cons pe_str (pa_cons pe_str pa_nil)))))) (pv 4) (fun _ _ => rfl)))
        (pss_cons (ps_set (i := 8) nd rfl (Or.inl rfl) (pe_ifExp (PW.pt (pw_and (pt_cmpR op_lt (pv 2) pe_int (nomark _)) (pw_and1 (pt_cmpR op_eq (pe_call GN hr1 (by rfl) N.g N.F.kp N.b .nil pass0 (pa_cons (pv 0) (pa_cons pe_int pa_nil))) pe_int (nomark _)))))
          (pe_call GB hr (by rfl) B.g B.F.kp B.b .nil pass0 (pa_cons (pv 0) (pa_cons (pv 1) (pa_cons (pe_op op_add (pv 2) pe_int) (pa_cons (pv 3) pa_nil))))) (pe_tup pa_nil)))
        (pss_one (ps_ret (pe_tup (pa_cons (pv 7) (pa_cons (pv 5) (pa_cons (pv 6) (pa_cons (pe_call GL hr2 (by rfl) L.g L.F.kp L.b .nil pass0 (pa_cons (pv 0) (pa_cons (pv 1) pa_nil))) (pa_cons (pv 8) pa_nil))))))))))
        pss_nil)
      (pss_cons (ps_if (pt_cmpR op_lt (pv 4) pe_int (nomark _)) (pss_one (ps_ret (pe_tup (pa_cons pe_str (pa_cons (pv 5) (pa_cons (pv 6) pa_nil)))))) pss_nil)
      (pss_cons (ps_if (pt_cmpR op_eq (pv 4) pe_int (nomark _)) (pss_one (ps_ret (pe_tup (pa_cons pe_str (pa_cons (pv 5) (pa_cons (pv 6) pa_nil)))))) pss_nil)
      (pss_cons (ps_if (PW.pt (pw_or (pt_cmpR op_lt (pv 4) pe_int (nomark _)) (pw_or1 (pt_cmpR op_ge (pv 2) pe_int (nomark _)))))
        (pss_one (ps_ret (pe_tup (pa_cons pe_str (pa_cons (pv 5) (pa_cons (pe_ix ix_list (pe_lst (pa_cons pe_str (pa_cons pe_str pa_nil))) (pe_call GN hr1 (by rfl) N.g N.F.kp N.b .nil pass0 (pa_cons (pv 0) (pa_cons pe_int pa_nil))) (fun _ _ => rfl)) pa_nil)))))) pss_nil)
      (pss_cons (ps_if (pt_cmpR op_eq (pv 4) pe_int (nomark _)) (pss_one (ps_ret (pe_tup (pa_cons pe_str (pa_cons (pv 5)
          (pa_cons (pe_call GB hr (by rfl) B.g B.F.kp B.b .nil pass0 (pa_cons (pv 0) (pa_cons (pv 1) (pa_cons (pe_op op_add (pv 2) pe_int) (pa_cons (pv 3) pa_nil)))))
          (pa_cons (pe_call GB hr (by rfl) B.g B.F.kp B.b .nil pass0 (pa_cons (pv 0) (pa_cons (pv 1) (pa_cons (pe_op op_add (pv 2) pe_int) (pa_cons (pv 3) pa_nil))))) pa_nil))))))) pss_nil)
      (pss_cons (ps_if (pt_cmpR op_eq (pv 4) pe_int (nomark _)) (pss_one (ps_ret (pe_tup (pa_cons pe_str (pa_cons (pv 5)
          (pa_cons (pe_call GB hr (by rfl) B.g B.F.kp B.b .nil pass0 (pa_cons (pv 0) (pa_cons (pv 1) (pa_cons (pe_op op_add (pv 2) pe_int) (pa_cons (pv 3) pa_nil))))) pa_nil)))))) pss_nil)
      (pss_cons (ps_if (pt_cmpR op_eq (pv 4) pe_int (nomark _)) (pss_one (ps_ret (pe_tup (pa_cons pe_str (pa_cons (pe_call GN hr1 (by rfl) N.g N.F.kp N.b .nil pass0 (pa_cons (pv 0) (pa_cons pe_int pa_nil)))
          (pa_cons (pe_call GB hr (by rfl) B.g B.F.kp B.b .nil pass0 (pa_cons (pv 0) (pa_cons (pv 1) (pa_cons (pe_op op_add (pv 2) pe_int) (pa_cons (pv 3) pa_nil))))) pa_nil)))))) pss_nil)
      (pss_one (ps_ret (pe_tup (pa_cons pe_str pa_nil))))))))))), ?_⟩
    have d0 : Dr K p q r tl names H H n := ⟨hH, ht, hR, fun _ _ e _ _ _ => e⟩
    refine ⟨_, rfl, p, q, 14, rfl, by decide, by decide, hH, fun kind H1 v0 v1 hH1 k1 => ?_⟩
    have d1 := d0.next rp rq hH1 k1
    refine ⟨_, rfl, _, rfl, p, q, tl, names, rfl, d1.hs, d1.ls, h2, hm, fun a H2 ma hH2 k2 => ?_⟩
    have d2 := d1.next rp rq hH2 k2
    refine ⟨_, rfl, _, rfl, p, q, tl, names, rfl, d2.hs, d2.ls, h2, hm, fun b H3 mb hH3 k3 => ?_⟩
    have d3 := d2.next rp rq hH3 k3
    refine ⟨_, _, _, rfl, ?_⟩
    refine ⟨_, rfl, _, _, rfl, rfl, _, rfl, ite2 (fun c5 => ?_) (fun c5 => ?_)⟩
    · -- an ask
      have c5 := of_decide_eq_true c5
      obtain ⟨kd, rfl⟩ : ∃ i : Nat, kind = (i : Int) := ⟨kind.toNat, by omega⟩
      have hw : ∃ j, j < 3 ∧ atI (wordsA.map V.str) (kd : Int) = some (.str (askW j)) := wordsA_at (by omega)
      obtain ⟨j, hj, ej⟩ := hw
      refine ⟨(by show 5 ≤ sizeLine; decide), fun t1 n1 => ?_⟩
      have s1 := same_upd (o := .lst (wordsA.map V.str)) n1
      have d4 := d3.same s1
      refine ⟨_, rfl, t1, _, _, _, rfl, rfl, SqL.of upd_same, ej, ?_⟩
      dsimp only [gName]
      refine via_s (fun v H' => ∃ (x : List Stm) (t : Addr) (m : Nat), v = .ref t ∧ wfs names (2 - d) x ∧ sizes x + m = n ∧ Td H' (.ref t) (.tuple (toDs x)) ∧ Dr K p q r tl names H H' m) (fun Q' hq => ?_) ?_
      · refine ⟨_, rfl, _, _, rfl, rfl, _, rfl, ite2 (fun c2 => ?_) (fun c2 => ?_)⟩
        · have c2 : d < 2 := by
            have := of_decide_eq_true c2
            omega
          refine ⟨_, rfl, p, q, 3, rfl, by decide, by decide, d4.hs, fun v H5 v0 v1 hH5 k5 => ?_⟩
          have d5 := d4.next rp rq hH5 k5
          refine ⟨rfl, _, rfl, ite2 (fun _ => ?_) (fun _ => ?_)⟩
          · refine ⟨_, rfl, _, rfl, _, rfl, d, 1, rfl, rfl, _, rfl, ?_⟩
            refine ⟨by omega, p, q, tl, r, names, n, rfl, d5.hs, d5.ls, h2, hm, d5.rm, rp, rq, fun x t H6 m wx sx lx tx hH6 hR6 k6 => ?_⟩
            exact hq _ _ ⟨x, t, m, rfl, (by rw [show 2 - d = 3 - (d + 1) by omega]; exact wx), sx, tx, d5.blk hH6 hR6 k6⟩
          · refine ⟨(by show 0 ≤ sizeLine; decide), fun t nt => ?_⟩
            exact hq _ _ ⟨[], t, n, rfl, (by simp [wfs]), (by simp [sizes]), .tup upd_same .nil, d5.same (same_upd nt)⟩
        · refine ⟨(by show 0 ≤ sizeLine; decide), fun t nt => ?_⟩
          exact hq _ _ ⟨[], t, n, rfl, (by simp [wfs]), (by simp [sizes]), .tup upd_same .nil, d4.same (same_upd nt)⟩
      · rintro _ H5 ⟨x, t, m, rfl, wx, sx, tx, d5⟩
        refine ⟨_, rfl, _, rfl, _, rfl, _, rfl, _, rfl, p, q, tl, names, rfl, d5.hs, d5.ls, h2, hm, fun c H6 mc hH6 k6 => ⟨_, rfl, (by show 5 ≤ sizeLine; decide), fun t' nt => ?_⟩⟩
        have tk6 := TK.keep d5.hs k6
        have d6 := d5.next rp rq hH6 k6
        have s7 := same_upd (o := .tup [V.str (askW j), .str a, .str b, .str c, .ref t]) nt
        have d7 := d6.same s7
        exact kk (.ask j a b c x) t' _ m ⟨hj, ma, mb, mc, wx⟩ (by simp only [Stm.size]; omega) (.tup upd_same (.cons (.str _) (.cons (.str _) (.cons (.str _) (.cons (.str _) (.cons ((tx.mono tk6).mono (TK.same s7)) .nil)))))) d7.hs d7.rm d7.kp
    have c5 : ¬ kind < 5 := fun e => c5 (decide_eq_true e)
    refine ⟨_, rfl, _, _, rfl, rfl, _, rfl, ite2 (fun c7 => ?_) (fun c7 => ?_)⟩
    · refine ⟨_, rfl, _, rfl, (by show 3 ≤ sizeLine; decide), fun t nt => ?_⟩
      have s1 := same_upd (o := .tup [V.str "move", .str a, .str b]) nt
      have d4 := d3.same s1
      exact kk (.move a b) t _ n ⟨ma, mb⟩ (by simp [Stm.size]; omega) (.tup upd_same (.cons (.str _) (.cons (.str _) (.cons (.str _) .nil)))) d4.hs d4.rm d4.kp
    have c7 : ¬ kind < 7 := fun e => c7 (decide_eq_true e)
    refine ⟨_, rfl, rfl, _, rfl, ite2 (fun c8 => ?_) (fun c8 => ?_)⟩
    · refine ⟨_, rfl, _, rfl, (by show 3 ≤ sizeLine; decide), fun t nt => ?_⟩
      have s1 := same_upd (o := .tup [V.str "part", .str a, .str b]) nt
      have d4 := d3.same s1
      exact kk (.part a b) t _ n ⟨ma, mb⟩ (by simp [Stm.size]; omega) (.tup upd_same (.cons (.str _) (.cons (.str _) (.cons (.str _) .nil)))) d4.hs d4.rm d4.kp
    refine ⟨_, rfl, _, _, rfl, rfl, _, rfl, ite2 (fun c10 => ?_) (fun c10 => ?_)⟩
    · refine iteT ?_
      refine ⟨_, rfl, (by show 2 ≤ sizeLine; decide), fun l nl => ?_⟩
      have s1 := same_upd (o := .lst (([("done" : Str), "failed"]).map V.str)) nl
      have e1 : upd H3 l (.lst (([("done" : Str), "failed"]).map V.str)) l = some (.lst (([("done" : Str), "failed"]).map V.str)) := upd_same
      have nl' := d3.hs.np nl
      have d4 := d3.same s1
      refine ⟨_, rfl, p, q, 2, rfl, by decide, by decide, d4.hs, fun v H5 v0 v1 hH5 k5 => ?_⟩
      have d5 := d4.next rp rq hH5 k5
      obtain ⟨u, mu, eu⟩ := pickG V.str [("done" : Str), "failed"] v v0 v1
      refine ⟨l, _, _, _, rfl, rfl, SqL.of (k5 _ _ e1 nl'.1 nl'.2), eu, (by show 3 ≤ sizeLine; decide), fun t nt => ?_⟩
      have d6 := d5.same (same_upd (o := .tup [V.str "tell", .str a, .str u]) nt)
      exact kk (.tell a u) t _ n ⟨ma, by simpa using mu⟩ (by simp [Stm.size]; omega) (.tup upd_same (.cons (.str _) (.cons (.str _) (.cons (.str _) .nil)))) d6.hs d6.rm d6.kp
    refine ⟨_, rfl, _, _, rfl, rfl, _, rfl, ite2 (fun c2 => ?_) (fun c2 => ?_)⟩
    · refine ⟨_, rfl, (by show 2 ≤ sizeLine; decide), fun l nl => ?_⟩
      have s1 := same_upd (o := .lst (([("done" : Str), "failed"]).map V.str)) nl
      have e1 : upd H3 l (.lst (([("done" : Str), "failed"]).map V.str)) l = some (.lst (([("done" : Str), "failed"]).map V.str)) := upd_same
      have nl' := d3.hs.np nl
      have d4 := d3.same s1
      refine ⟨_, rfl, p, q, 2, rfl, by decide, by decide, d4.hs, fun v H5 v0 v1 hH5 k5 => ?_⟩
      have d5 := d4.next rp rq hH5 k5
      obtain ⟨u, mu, eu⟩ := pickG V.str [("done" : Str), "failed"] v v0 v1
      refine ⟨l, _, _, _, rfl, rfl, SqL.of (k5 _ _ e1 nl'.1 nl'.2), eu, (by show 3 ≤ sizeLine; decide), fun t nt => ?_⟩
      have d6 := d5.same (same_upd (o := .tup [V.str "tell", .str a, .str u]) nt)
      exact kk (.tell a u) t _ n ⟨ma, by simpa using mu⟩ (by simp [Stm.size]; omega) (.tup upd_same (.cons (.str _) (.cons (.str _) (.cons (.str _) .nil)))) d6.hs d6.rm d6.kp
    have cd : d < 2 := by
      have : ¬ (2 : Int) ≤ (d : Int) := fun e => c2 (decide_eq_true e)
      omega
    have up : ((d : Int) + 1) = ((d + 1 : Nat) : Int) := by omega
    have wu : 3 - (d + 1) = 2 - d := by omega
    refine ⟨_, rfl, rfl, _, rfl, ite2 (fun c => ?_) (fun c => ?_)⟩
    · -- if
      refine ⟨_, rfl, ?_⟩
      refine ⟨_, rfl, _, rfl, _, rfl, d, 1, rfl, rfl, _, rfl, by omega, p, q, tl, r, names, n, rfl, d3.hs, d3.ls, h2, hm, d3.rm, rp, rq, fun x t1 H5 m wx sx lx tx hH5 hR5 k5 => ?_⟩
      have tk5 := TK.keep3 d3.hs d3.rm k5
      have d5 := d3.blk hH5 hR5 k5
      refine ⟨_, rfl, _, rfl, _, rfl, d, 1, rfl, rfl, _, rfl, by omega, p, q, tl, r, names, m, rfl, d5.hs, d5.ls, h2, hm, d5.rm, rp, rq, fun y t2 H6 m' wy sy ly ty hH6 hR6 k6 => ?_⟩
      have tk6 := TK.keep3 d5.hs d5.rm k6
      have d6 := d5.blk hH6 hR6 k6
      refine ⟨(by show 4 ≤ sizeLine; decide), fun t nt => ?_⟩
      have s7 := same_upd (o := .tup [V.str "if", .str a, .ref t1, .ref t2]) nt
      have d7 := d6.same s7
      rw [wu] at wx wy
      exact kk (.iff a x y) t _ m' ⟨ma, wx, wy⟩ (by simp only [Stm.size]; omega) (.tup upd_same (.cons (.str _) (.cons (.str _) (.cons ((tx.mono tk6).mono (TK.same s7)) (.cons (ty.mono (TK.same s7)) .nil))))) d7.hs d7.rm d7.kp
    refine ⟨_, rfl, rfl, _, rfl, ite2 (fun c => ?_) (fun c => ?_)⟩
    · -- while
      refine ⟨_, rfl, ?_⟩
      refine ⟨_, rfl, _, rfl, _, rfl, d, 1, rfl, rfl, _, rfl, by omega, p, q, tl, r, names, n, rfl, d3.hs, d3.ls, h2, hm, d3.rm, rp, rq, fun x t1 H5 m wx sx lx tx hH5 hR5 k5 => ?_⟩
      have d5 := d3.blk hH5 hR5 k5
      refine ⟨(by show 3 ≤ sizeLine; decide), fun t nt => ?_⟩
      have s7 := same_upd (o := .tup [V.str "while", .str a, .ref t1]) nt
      have d7 := d5.same s7
      rw [wu] at wx
      exact kk (.whl a x) t _ m ⟨ma, wx⟩ (by simp only [Stm.size]; omega) (.tup upd_same (.cons (.str _) (.cons (.str _) (.cons (tx.mono (TK.same s7)) .nil)))) d7.hs d7.rm d7.kp
    refine ⟨_, rfl, rfl, _, rfl, ite2 (fun c => ?_) (fun c => ?_)⟩
    · -- times
      refine ⟨_, rfl, p, q, 4, rfl, by decide, by decide, d3.hs, fun v H4 v0 v1 hH4 k4 => ?_⟩
      have d4 := d3.next rp rq hH4 k4
      refine ⟨_, rfl, _, rfl, _, rfl, d, 1, rfl, rfl, _, rfl, by omega, p, q, tl, r, names, n, rfl, d4.hs, d4.ls, h2, hm, d4.rm, rp, rq, fun x t1 H5 m wx sx lx tx hH5 hR5 k5 => ?_⟩
      have d5 := d4.blk hH5 hR5 k5
      refine ⟨(by show 3 ≤ sizeLine; decide), fun t nt => ?_⟩
      have s7 := same_upd (o := .tup [V.str "times", .int v, .ref t1]) nt
      have d7 := d5.same s7
      rw [wu] at wx
      exact kk (.tms (.int v) x) t _ m ⟨⟨v, rfl, v0, by omega⟩, wx⟩ (by simp only [Stm.size]; omega) (.tup upd_same (.cons (.str _) (.cons (.int _) (.cons (tx.mono (TK.same s7)) .nil)))) d7.hs d7.rm d7.kp
    refine ⟨(by show 1 ≤ sizeLine; decide), fun t nt => ?_⟩
    have d4 := d3.same (same_upd (o := .tup [V.str "end"]) nt)
    exact kk .fin t _ n trivial (by simp [Stm.size]; omega) (.tup upd_same (.cons (.str _) .nil)) d4.hs d4.rm d4.kp
end
end W1
end
section
set_option maxRecDepth 100000
set_option maxHeartbeats 8000000
namespace W1
open PySem L2 Cm
section
variable {P : Program} {w : World} {K : PySem.W.Frag} {mg : Str → Option Value} {base : Heap}
theorem ok_block0 {fN fL fB fS : Addr} {fdN fdL fdB fdS : FuncData} (T : Bi mg) (N : Dn K mg "_law_next" s_law_next ["_law_h", "_law_cap"] fN fdN) (L : Dn K mg "_law_list" s_law_list ["_law_h", "_law_lists_here"] fL fdL)
    (B : Dn K mg "_law_block" s_law_block ["_law_h", "_law_lists_here", "_law_deep", "_law_room"] fB fdB) (S : Dn K mg "_law_statement" s_law_statement ["_law_h", "_law_lists_here", "_law_deep", "_law_room"] fS fdS) :
    FnOk P w K mg base CX0 8 fB fdB ["_law_h", "_law_lists_here", "_law_deep", "_law_room"] (spBlock K 0) := by
  have b3 : FnOk P w K mg base CX0 2 fB fdB ["_law_h", "_law_lists_here", "_law_deep", "_law_room"] (spBlock K 3) := ok_none3
  have s2 := ok_stm (k := 1) (d := 2) (by decide) (by decide) S.F T N L B b3
  have b2 := ok_block (k := 2) (d := 2) B.F T N S s2
  have s1 := ok_stm (k := 3) (d := 1) (by decide) (by decide) S.F T N L B b2
  have b1 := ok_block (k := 4) (d := 1) B.F T N S s1
  have s0 := ok_stm (k := 5) (d := 0) (by decide) (by decide) S.F T N L B b1
  exact ok_block (k := 6) (d := 0) B.F T N S s0
abbrev slotsP : List Str := ["_law_h", "_law_most", "_law_lists_here", "_law_kept", "_law_name"]
structure Prog (K : PySem.W.Frag) (H : Hp) (t : Addr) (names : List Str) (x : List Stm) (kept : List Str) : Prop where
  at_ : ∃ tl tb tk : Addr, H t = some (.tup [.ref tl, .ref tb, .ref tk]) ∧ TupX K H tl (names.map V.str) ∧ Td H (.ref tb) (.tuple (toDs x)) ∧ TupX K H tk (kept.map V.str)
theorem Prog.keep {H H' : Hp} {p q t : Addr} {names kept : List Str} {x : List Stm} (pr : Prog K H t names x kept) (hH : HS H p q) (k : Keep p q H H') : Prog K H' t names x kept := by
  obtain ⟨tl, tb, tk, a, b, c, d⟩ := pr.at_
  exact ⟨tl, tb, tk, TK.keep hH k _ _ a, b.keep hH k, c.mono (TK.keep hH k), d.keep hH k⟩
theorem Prog.same {H H' : Hp} {t : Addr} {names kept : List Str} {x : List Stm} (pr : Prog K H t names x kept) (s : Same H H') : Prog K H' t names x kept := by
  obtain ⟨tl, tb, tk, a, b, c, d⟩ := pr.at_
  exact ⟨tl, tb, tk, s _ _ a, b.same s, c.mono (TK.same s), d.same s⟩
def spProgram (K : PySem.W.Frag) : Sp := fun vs H Q _ => ∃ (p q : Addr) (most : Nat), vs = [.ref p, .int (most : Int)] ∧ HS H p q ∧
  ∀ (names kept : List Str) (x : List Stm) (t : Addr) (H' : Hp), NamesOk names → kept.Sublist names → wfs names 3 x → sizes x ≤ most → x.length ≤ 4 → Prog K H' t names x kept → HS H' p q → Keep p q H H' → Q (.ref t) H'
theorem ok_program {f fN fL fB fS fl fT : Addr} {fd fdN fdL fdB fdS fdl fdT : FuncData} (F : Fun K "_law_program" "_law_program" s_law_program f fd) (T : Bi mg) (N : Dn K mg "_law_next" s_law_next ["_law_h", "_law_cap"] fN fdN) (L : Dn K mg "_law_list" s_law_list ["_law_h", "_law_lists_here"] fL fdL)
    (B : Dn K mg "_law_block" s_law_block ["_law_h", "_law_lists_here", "_law_deep", "_law_room"] fB fdB) (S : Dn K mg "_law_statement" s_law_statement ["_law_h", "_law_lists_here", "_law_deep", "_law_room"] fS fdS)
    (Ls : Dn K mg "_law_lists" s_law_lists ["_law_h"] fl fdl) (U : Dn K mg "_law_turned" s_law_turned ["_law_h", "_law_menu", "_law_many"] fT fdT) : FnOk P w K mg base CX0 9 f fd ["_law_h", "_law_most"] (spProgram K) := by
  have GN : FnOk P w K mg base CX0 1 fN fdN ["_law_h", "_law_cap"] spNext := ok_next N.F T
  have GL : FnOk P w K mg base CX0 3 fl fdl ["_law_h"] (spLists K) := ok_lists Ls.F T N U
  have GB : FnOk P w K mg base CX0 8 fB fdB ["_law_h", "_law_lists_here", "_law_deep", "_law_room"] (spBlock K 0) := ok_block0 T N L B S
  have nd := sc_law_program.nd
  refine F.ok sc_law_program (fun vs H Q E h => ?_) (fun cdv A outer s H vs Q E hr h => ?_)
  · obtain ⟨p, q, m, rfl, _⟩ := h
    rfl
  · obtain ⟨p, q, most, rfl, hH, kk⟩ := h
    have hr1 : Room 1 _ := hr.mono (by decide)
    have hr3 : Room 3 _ := hr.mono (by decide)
    refine ⟨_, pss_cons (ps_set (i := 2) nd rfl (Or.inl rfl) (pe_call GL hr3 (by rfl) Ls.g Ls.F.kp Ls.b .nil pass0 (pa_cons (pv 0) pa_nil)))
      (pss_cons (ps_set (i := 3) nd rfl (Or.inl rfl) (pe_callTy call_tuple_ofF (by rfl) T.tuple (by decide +kernel) (pa_cons (pe_lc (own := [("_law_name", 4)]) (g := gName 4) (by rfl) nd (pi_tup (pv 2))
          (blkOk_by (own := [("_law_name", 4)]) (N := slotsP) (sc := defScope s_law_program) (by decide +kernel)) (fun _ _ _ _ _ => pg_name (i := 4) nd rfl (Or.inl rfl))
          (fun _ _ _ _ _ => pts_one (pt_cmpR op_eq (pe_call GN hr1 (by rfl) N.g N.F.kp N.b .nil pass0 (pa_cons (pv 0) (pa_cons pe_int pa_nil))) pe_int (nomark _))) (fun _ _ _ _ _ => pv 4)) pa_nil)))
      (pss_one (ps_ret (pe_tup (pa_cons (pv 2) (pa_cons (pe_call GB hr (by rfl) B.g B.F.kp B.b .nil pass0 (pa_cons (pv 0) (pa_cons (pv 2) (pa_cons pe_int (pa_cons (pe_lst (pa_cons (pv 1) pa_nil)) pa_nil))))) (pa_cons (pv 3) pa_nil))))))), ?_⟩
    refine ⟨_, rfl, p, q, rfl, hH, fun names tl H1 hN ht hH1 k1 => ?_⟩
    refine ⟨_, rfl, tl, rfl, ⟨_, ht.sq⟩, fun D nD => ?_⟩
    have sD := same_upd (o := .lst []) nD
    have npD := hH1.np nD
    have lN : names.length ≤ 3 := by rcases hN.2.1 with h | h <;> omega
    refine lc_tup (K := K) (a := tl) (xs := names.map V.str) (fun i H' => HS H' p q ∧ TupX K H' tl (names.map V.str) ∧ Keep p q H1 H' ∧ ∃ ks : List Str, H' D = some (.lst (ks.map V.str)) ∧ ks.Sublist (names.take i))
      ⟨hH1.same sD, ht.same sD, Keep.of sD, [], upd_same, List.nil_sublist _⟩ (fun i H' _ ⟨_, e, _⟩ => e.sq) ?_ ?_
    · rintro i x H' hx ⟨hH', ht', kD, ks, hD, hsub⟩
      rw [List.getElem?_map] at hx
      cases en : names[i]? with
      | none => rw [en] at hx; cases hx
      | some nm =>
        rw [en] at hx
        cases hx
        have hi := (List.getElem?_eq_some_iff.mp en).1
        refine ⟨rfl, _, rfl, p, q, 3, rfl, by decide, by decide, hH', fun v H2 v0 v1 hH2 k2 => ?_⟩
        have ht2 := ht'.keep hH' k2
        have hD2 := k2 _ _ hD npD.1 npD.2
        refine ⟨rfl, _, rfl, ite2 (fun _ => ?_) (fun _ => ?_)⟩
        · have lk : ks.length ≤ 3 := Nat.le_trans hsub.length_le (by rw [List.length_take]; omega)
          refine ⟨_, rfl, _, hD2, (by rw [List.length_map]; exact small1000 (by omega)), ?_, ?_, ?_, ks ++ [nm], ?_, ?_⟩
          · obtain ⟨a', i', ns, g1, g2, g3⟩ := hH2
            exact ⟨a', i', ns, by rw [upd_ne npD.1.symm]; exact g1, by rw [upd_ne npD.2.symm]; exact g2, g3⟩
          · rcases ht2 with ⟨ob, e, d⟩ | h
            · exact .inl ⟨ob, by rw [upd_ne (ne_of e hD2 (by intro z; cases z))]; exact e, d⟩
            · exact .inr h
          · intro b o e h1 h2
            rw [upd_ne (ne_of_none e nD)]
            exact k2 _ _ (kD _ _ e h1 h2) h1 h2
          · rw [upd_same, List.map_append]
            rfl
          · rw [take_at en]
            exact hsub.append (List.Sublist.refl _)
        · refine ⟨hH2, ht2, kD.trans k2, ks, hD2, hsub.trans ?_⟩
          rw [take_at en]
          exact List.sublist_append_left _ _
    · rintro H2 ⟨hH2, ht2, kD, ks, hD, hsub⟩
      rw [List.length_map, List.take_length] at hsub
      refine ⟨D, _, rfl, SqL.of hD, fun tk ob nk od => ?_⟩
      have s3 := same_upd (o := .frz ob (.tup (ks.map V.str))) nk
      have e3 : TupX K (upd H2 tk (.frz ob (.tup (ks.map V.str)))) tk (ks.map V.str) := .inl ⟨ob, upd_same, od⟩
      have hH3 := hH2.same s3
      have ht3 := ht2.same s3
      have k3 : Keep p q H (upd H2 tk (.frz ob (.tup (ks.map V.str)))) := (k1.trans kD).trans (Keep.of s3)
      generalize upd H2 tk (.frz ob (.tup (ks.map V.str))) = H3 at s3 e3 hH3 ht3 k3
      refine ⟨_, rfl, ?_⟩
      refine ⟨_, rfl, _, rfl, ?_⟩
      refine ⟨_, rfl, (by show 1 ≤ sizeLine; decide), fun r nr => ?_⟩
      have s4 := same_upd (o := .lst [.int (most : Int)]) nr
      have npr := hH3.np nr
      have e4 : upd H3 r (.lst [.int (most : Int)]) r = some (.lst [.int (most : Int)]) := upd_same
      refine ⟨by decide, p, q, tl, r, names, most, rfl, hH3.same s4, ht3.same s4, (by rcases hN.2.1 with h | h <;> omega), (by omega), e4, npr.1, npr.2, fun x tb H5 m wx sx lx tx hH5 hR5 k5 => ?_⟩
      have tk5 := TK.keep3 (hH3.same s4) e4 k5
      refine ⟨_, rfl, (by show 3 ≤ sizeLine; decide), fun t nt => ?_⟩
      have s6 := same_upd (o := .tup [.ref tl, .ref tb, .ref tk]) nt
      have sT := TK.same s6
      refine kk names ks x t _ hN hsub wx (by omega) lx ⟨tl, tb, tk, upd_same, ((ht3.same s4).keep3 (hH3.same s4) e4 k5).same s6, tx.mono sT, ((e3.same s4).keep3 (hH3.same s4) e4 k5).same s6⟩ (hH5.same s6) ?_
      intro b o e h1 h2
      have e3' := k3 _ _ e h1 h2
      exact s6 _ _ (k5 _ _ (s4 _ _ e3') h1 h2 (ne_of_none e3' nr))
end
end W1
end
section
set_option maxRecDepth 100000
set_option maxHeartbeats 4000000
/-! P1: the program's own side: names -/
namespace W1
open PySem L2 Cm
/-- what stands in the program's module -/
structure Cst (K : PySem.W.Frag) (mg : Str → Option Value) : Prop where
  letters : ∃ t, mg "LETTERS" = some (.str "abcdefghijklmnopqrstuvwxyz" t)
  most8 : ∃ t, mg "MOST_LETTERS" = some (.int 8 t)
  most4 : ∃ t, mg "MOST_LISTS" = some (.int 4 t)
  most3 : ∃ t, mg "MOST_ROUNDS" = some (.int 3 t)
  most2 : ∃ t, mg "MOST_AROUND" = some (.int 2 t)
  most20 : ∃ t, mg "MOST_STATEMENTS" = some (.int 20 t)
  all : mg "all" = none
  enum : mg "enumerate" = none
def lettersN : List Nat := ("abcdefghijklmnopqrstuvwxyz" : Str).cps.toList
def nameB (x : Str) : Bool := (decide (1 ≤ x.length) && decide (x.length ≤ 8)) && x.cps.toList.all fun c => decide (c ∈ lettersN)
def spName : Sp := fun vs H Q _ => ∃ x : Str, vs = [.str x] ∧ x.length ≤ 1000 ∧ ∀ H', Same H H' → Q (.bl (nameB x)) H'
section
variable {P : Program} {w : World} {K : PySem.W.Frag} {mg : Str → Option Value} {base : Heap}
theorem ok_name {f : Addr} {fd : FuncData} (F : Fun K "is_name" "is_name" s_is_name f fd) (T : Bi mg) (G : Cst K mg) : FnOk P w K mg base CX0 1 f fd ["value"] spName := by
  have nd := sc_is_name.nd
  refine F.ok sc_is_name (fun vs H Q E h => ?_) (fun cdv A outer s H vs Q E hr h => ?_)
  · obtain ⟨x, rfl, _⟩ := h
    rfl
  · obtain ⟨x, rfl, hx, k⟩ := h
    obtain ⟨tL, gL⟩ := G.letters
    obtain ⟨t8, g8⟩ := G.most8
    refine ⟨_, pss_cons (ps_if (PW.pt (pw_or (pt_cmpR op_notTyB (pe_callTy call_type1 (by rfl) T.type (by decide +kernel) (pa_cons (pv 0) pa_nil)) (pe_bltn (v := .ty "str") (by rfl) T.str (by decide +kernel) rfl) (nomark _))
        (pw_or1 (pt_not (pt_chain op_le op_le pe_int (pe_callB call_len_str (by rfl) T.len PySem.boot_len (pa_cons (pv 0) pa_nil)) (pe_glob (v := .int 8) rfl g8 ⟨_, rfl⟩))))))
        (pss_one (ps_ret pe_bl)) pss_nil)
      (pss_one (ps_ret (pe_callB (cr_all (by rfl)) (by rfl) G.all (by decide +kernel) (pa_cons (pe_lc (own := [("sign", 1)]) (g := gName 1) (tt := tYes) (by rfl) nd (pi_str (pv 0))
          (blkOk_by (own := [("sign", 1)]) (N := ["value", "sign"]) (sc := defScope s_is_name) (by decide +kernel)) (fun _ _ _ _ _ => pg_name (i := 1) nd rfl (Or.inl rfl))
          (fun _ _ _ _ _ => pts_nil) (fun _ _ _ _ _ => pe_cmpR op_in_sign (pv 1) (pe_glob (v := .str "abcdefghijklmnopqrstuvwxyz") (by rfl) gL ⟨_, rfl⟩) (by rfl))) pa_nil)))), ?_⟩
    have e1 : decide (V.ty "str" = V.ty "str") = true := decide_eq_true rfl
    refine ⟨_, rfl, .str x, "str", rfl, .str x, "str", "str", rfl, rfl, _, rfl, iteF ?_⟩
    refine ⟨_, rfl, _, rfl, small_le hx, _, _, rfl, rfl, _, rfl, ?_⟩
    by_cases a : 1 ≤ x.length
    · rw [decide_eq_true (show (1 : Int) ≤ (x.length : Int) by omega)]
      refine iteT ⟨_, _, rfl, rfl, _, rfl, ?_⟩
      by_cases b : x.length ≤ 8
      · rw [decide_eq_true (show (x.length : Int) ≤ 8 by omega)]
        refine iteF ?_
        refine ⟨_, rfl, x, rfl, fun D nD => lc_str (fun i H' => ∃ bs : List Bool, bs.length = i ∧ H' = upd H D (.lst (bs.map V.bl)) ∧ bs.all id = (x.cps.toList.take i).all fun c => decide (c ∈ lettersN)) ⟨[], rfl, rfl, rfl⟩ ?_ ?_⟩
        · rintro i c H' hc ⟨bs, rfl, rfl, hb⟩
          refine ⟨rfl, _, rfl, c, _, rfl, rfl, bs.map V.bl, upd_same, (by rw [List.length_map]; have := (Array.getElem?_eq_some_iff.mp hc).1; exact small1000 (by show bs.length ≤ 1000; have h8 : x.cps.size ≤ 1000 := hx; omega)), bs ++ [decide (c ∈ lettersN)], by rw [List.length_append]; rfl, ?_, ?_⟩
          · rw [List.map_append, upd_upd]
            rfl
          · have hc2 : x.cps.toList[bs.length]? = some c := by rw [Array.getElem?_toList]; exact hc
            rw [take_at hc2, List.all_append, List.all_append, hb]
            simp
        · rintro H' ⟨bs, hl, rfl, hb⟩
          refine ⟨D, bs, rfl, .inl (.inl upd_same), ?_⟩
          rw [hb, List.take_of_length_le (by rw [Array.length_toList]; exact Nat.le_refl _)]
          have := k _ (same_upd (o := .lst (bs.map V.bl)) nD)
          unfold nameB at this
          rwa [decide_eq_true a, decide_eq_true b, Bool.true_and, Bool.true_and] at this
      · rw [decide_eq_false (show ¬ (x.length : Int) ≤ 8 by omega)]
        refine iteT ?_
        have := k H (fun _ _ e => e)
        rwa [show nameB x = false by unfold nameB; rw [decide_eq_false b, Bool.and_false, Bool.false_and]] at this
    · rw [decide_eq_false (show ¬ (1 : Int) ≤ (x.length : Int) by omega)]
      refine iteF ⟨_, rfl, iteT ?_⟩
      have := k H (fun _ _ e => e)
      rwa [show nameB x = false by unfold nameB; rw [decide_eq_false a, Bool.false_and, Bool.false_and]] at this
end
end W1
end
section
set_option maxRecDepth 100000
set_option maxHeartbeats 4000000
/-! P2: blocks_of -/
namespace W1
open PySem L2 Cm
theorem at0 {x : V} {xs : List V} : atI (x :: xs) 0 = some x := atI_nat (j := 0) rfl
theorem sqT_same {K : PySem.W.Frag} {H H' : Hp} {a : Addr} {xs : List V} (h : SqT K H a xs) (s : Same H H') : SqT K H' a xs := by
  rcases h with (h | ⟨o, h⟩) | h
  · exact .inl (.inl (s _ _ h))
  · exact .inl (.inr ⟨o, s _ _ h⟩)
  · exact .inr h
structure Tab (K : PySem.W.Frag) (w : World) (d : Addr) (f : Str → Option (List Nat)) : Prop where
  kd : ∃ es n, KDict K w d es n
  at_ : ∀ z l, f z = some l → ∃ a, PySem.W.nsIn K d z = some (some (.ref a)) ∧ ∀ H, SqT K H a (l.map fun i => V.int (i : Nat))
def blocksAt (z : Str) : Option (List Nat) :=
  if z = "send" ∨ z = "keyed" ∨ z = "look" then some [4] else if z = "move" ∨ z = "part" ∨ z = "tell" ∨ z = "end" then some [] else if z = "if" then some [2, 3] else if z = "while" ∨ z = "times" then some [2] else none
def listsAt (z : Str) : Option (List Nat) :=
  if z = "send" ∨ z = "keyed" ∨ z = "look" then some [1, 2, 3] else if z = "move" ∨ z = "part" then some [1, 2] else if z = "tell" ∨ z = "if" ∨ z = "while" then some [1] else if z = "times" ∨ z = "end" then some [] else none
structure Tabs (K : PySem.W.Frag) (w : World) (mg : Str → Option Value) : Prop where
  blocks : ∃ d, mg "BLOCKS_AT" = some (.ref d) ∧ Tab K w d blocksAt
  lists : ∃ d, mg "LISTS_AT" = some (.ref d) ∧ Tab K w d listsAt
def pickV (xs : List V) (l : List Nat) : List V := l.filterMap fun i => xs[i]?
theorem blocksAt_len {z : Str} {l : List Nat} (h : blocksAt z = some l) : l.length ≤ 2 := by
  unfold blocksAt at h
  repeat' split at h
  all_goals first | cases h | skip
  all_goals simp
def spBlocks (K : PySem.W.Frag) : Sp := fun vs H Q _ => ∃ (a : Addr) (z : Str) (xs : List V) (l : List Nat), vs = [.ref a] ∧ SqT K H a (.str z :: xs) ∧ blocksAt z = some l ∧ (∀ i ∈ l, i < xs.length + 1) ∧
  ∀ t H', Same H H' → H' t = some (.tup (pickV (.str z :: xs) l)) → H t = none → Q (.ref t) H'
theorem pickV_len {xs : List V} {l : List Nat} : (pickV xs l).length ≤ l.length := List.length_filterMap_le ..
theorem pickV_snoc {xs : List V} {l : List Nat} {i n : Nat} {v : V} (h : l[n]? = some i) (hv : xs[i]? = some v) : pickV xs (l.take (n + 1)) = pickV xs (l.take n) ++ [v] := by
  rw [take_at h]
  unfold pickV
  rw [List.filterMap_append]
  simp [hv]
section
variable {P : Program} {w : World} {K : PySem.W.Frag} {mg : Str → Option Value} {base : Heap}
theorem ok_blocks {f : Addr} {fd : FuncData} (F : Fun K "blocks_of" "blocks_of" s_blocks_of f fd) (T : Bi mg) (G : Tabs K w mg) : FnOk P w K mg base CX0 1 f fd ["statement"] (spBlocks K) := by
  have nd := sc_blocks_of.nd
  refine F.ok sc_blocks_of (fun vs H Q E h => ?_) (fun cdv A outer s H vs Q E hr h => ?_)
  · obtain ⟨a, z, xs, l, rfl, _⟩ := h
    rfl
  · obtain ⟨a, z, xs, l, rfl, hS, hl, hi, k⟩ := h
    obtain ⟨d, gd, ⟨es, n, D⟩, tat⟩ := G.blocks
    obtain ⟨b, eb, hb⟩ := tat z l hl
    refine ⟨_, pss_one (ps_ret (pe_callTy call_tuple_of (by rfl) T.tuple (by decide +kernel) (pa_cons (pe_lc (own := [("at", 1)]) (g := gName 1) (tt := tYes) (by rfl) nd
        (pi_tup (pe_ix (ix_kd D) (pe_glob (v := .ref d) rfl gd rfl) (pe_ix ix_tup (pv 0) pe_int (fun _ _ => rfl)) (fun _ _ => rfl)))
          (blkOk_by (own := [("at", 1)]) (N := ["statement", "at"]) (sc := defScope s_blocks_of) (by decide +kernel)) (fun _ _ _ _ _ => pg_name (i := 1) nd rfl (Or.inl rfl))
          (fun _ _ _ _ _ => pts_nil) (fun _ _ _ _ _ => pe_ix (r := rIxT K) ix_tup (pv 0) (pv 1) (fun _ _ => rfl))) pa_nil))), ?_⟩
    refine ⟨_, rfl, a, _, 0, _, rfl, rfl, hS, at0, z, _, .ref b, rfl, rfl, eb, rfl, b, rfl, ⟨_, hb H⟩, fun C nC => ?_⟩
    refine lc_tup (K := K) (a := b) (xs := l.map fun i => V.int (i : Nat)) (fun i H' => H' = upd H C (.lst (pickV (.str z :: xs) (l.take i)))) rfl (fun i H' _ e => hb _) ?_ ?_
    · rintro i x H' hx rfl
      rw [List.getElem?_map] at hx
      cases en : l[i]? with
      | none => rw [en] at hx; cases hx
      | some j =>
        rw [en] at hx
        cases hx
        have hj := hi j (List.mem_of_getElem? en)
        obtain ⟨v, hv⟩ : ∃ v, (V.str z :: xs)[j]? = some v := ⟨_, List.getElem?_eq_getElem (by rw [List.length_cons]; exact hj)⟩
        refine ⟨rfl, _, rfl, _, rfl, a, _, _, _, rfl, rfl, sqT_same hS (same_upd nC), atI_nat hv, _, upd_same, ?_, ?_⟩
        · have := pickV_len (xs := .str z :: xs) (l := l.take i)
          have h1 : (l.take i).length ≤ 2 := Nat.le_trans (List.length_take_le' ..) (blocksAt_len hl)
          exact small1000 (by omega)
        · rw [upd_upd, pickV_snoc en hv]
    · rintro H' rfl
      rw [List.length_map, List.take_length]
      refine ⟨C, _, rfl, .inl ⟨SqL.of upd_same, fun t nt => k t _ ((same_upd nC).trans (same_upd nt)) upd_same ?_⟩⟩
      by_cases e : t = C
      · subst e; exact nC
      · rw [upd_ne e] at nt; exact nt
end
end W1
end
section
set_option maxRecDepth 100000
set_option maxHeartbeats 4000000
/-! P3: walk -/
namespace W1
open PySem L2 Cm
theorem Td.ref_inv {H : Hp} {v : V} {ds : List PyData} (h : Td H v (.tuple ds)) : ∃ a xs, v = .ref a ∧ H a = some (.tup xs) ∧ TdAll H xs ds := by
  cases h with
  | tup e t => exact ⟨_, _, rfl, e, t⟩
theorem TdAll.cons_inv {H : Hp} {vs : List V} {d : PyData} {ds : List PyData} (h : TdAll H vs (d :: ds)) : ∃ v ws, vs = v :: ws ∧ Td H v d ∧ TdAll H ws ds := by
  cases h with
  | cons a b => exact ⟨_, _, rfl, a, b⟩
theorem TdAll.nil_inv {H : Hp} {vs : List V} (h : TdAll H vs []) : vs = [] := by
  cases h with
  | nil => rfl
theorem Td.str_inv {H : Hp} {v : V} {x : Str} (h : Td H v (.str x)) : v = .str x := by
  cases h with
  | str _ => rfl
theorem bm : blocksAt "move" = some [] := by decide +kernel
theorem bp : blocksAt "part" = some [] := by decide +kernel
theorem bt : blocksAt "tell" = some [] := by decide +kernel
theorem be : blocksAt "end" = some [] := by decide +kernel
theorem bi : blocksAt "if" = some [2, 3] := by decide +kernel
theorem bw : blocksAt "while" = some [2] := by decide +kernel
theorem bs : blocksAt "times" = some [2] := by decide +kernel
theorem stm_inv {H : Hp} {v : V} {s : Stm} (h : Td H v s.toD) : ∃ a xs l, v = .ref a ∧ H a = some (.tup (.str s.word :: xs)) ∧ blocksAt s.word = some l ∧ (∀ i ∈ l, i < xs.length + 1) ∧ TdAll H (pickV (.str s.word :: xs) l) (s.inner.map fun x => .tuple (toDs x)) := by
  cases s with
  | ask k a b c x =>
    obtain ⟨ad, xs, rfl, e, t⟩ := Td.ref_inv h
    obtain ⟨v0, w0, rfl, t0, t⟩ := TdAll.cons_inv t
    obtain ⟨v1, w1, rfl, t1, t⟩ := TdAll.cons_inv t
    obtain ⟨v2, w2, rfl, t2, t⟩ := TdAll.cons_inv t
    obtain ⟨v3, w3, rfl, t3, t⟩ := TdAll.cons_inv t
    obtain ⟨v4, w4, rfl, t4, t⟩ := TdAll.cons_inv t
    obtain rfl := TdAll.nil_inv t
    obtain rfl := Td.str_inv t0
    refine ⟨ad, _, [4], rfl, e, ?_, ?_, .cons t4 .nil⟩
    · show blocksAt (askW k) = _
      unfold blocksAt
      rw [if_pos (askW_in k)]
    · intro i hi; cases List.mem_singleton.mp hi; simp
  | move a b =>
    obtain ⟨ad, xs, rfl, e, t⟩ := Td.ref_inv h
    obtain ⟨v0, w0, rfl, t0, t⟩ := TdAll.cons_inv t
    obtain rfl := Td.str_inv t0
    exact ⟨ad, _, [], rfl, e, bm, fun i hi => (by cases hi), .nil⟩
  | part a b =>
    obtain ⟨ad, xs, rfl, e, t⟩ := Td.ref_inv h
    obtain ⟨v0, w0, rfl, t0, t⟩ := TdAll.cons_inv t
    obtain rfl := Td.str_inv t0
    exact ⟨ad, _, [], rfl, e, bp, fun i hi => (by cases hi), .nil⟩
  | tell a b =>
    obtain ⟨ad, xs, rfl, e, t⟩ := Td.ref_inv h
    obtain ⟨v0, w0, rfl, t0, t⟩ := TdAll.cons_inv t
    obtain rfl := Td.str_inv t0
    exact ⟨ad, _, [], rfl, e, bt, fun i hi => (by cases hi), .nil⟩
  | fin =>
    obtain ⟨ad, xs, rfl, e, t⟩ := Td.ref_inv h
    obtain ⟨v0, w0, rfl, t0, t⟩ := TdAll.cons_inv t
    obtain rfl := Td.str_inv t0
    exact ⟨ad, _, [], rfl, e, be, fun i hi => (by cases hi), .nil⟩
  | iff a x y =>
    obtain ⟨ad, xs, rfl, e, t⟩ := Td.ref_inv h
    obtain ⟨v0, w0, rfl, t0, t⟩ := TdAll.cons_inv t
    obtain ⟨v1, w1, rfl, t1, t⟩ := TdAll.cons_inv t
    obtain ⟨v2, w2, rfl, t2, t⟩ := TdAll.cons_inv t
    obtain ⟨v3, w3, rfl, t3, t⟩ := TdAll.cons_inv t
    obtain rfl := TdAll.nil_inv t
    obtain rfl := Td.str_inv t0
    exact ⟨ad, _, [2, 3], rfl, e, bi, (fun i hi => by rcases List.mem_cons.mp hi with rfl | hi; simp; cases List.mem_singleton.mp hi; simp), .cons t2 (.cons t3 .nil)⟩
  | whl a x =>
    obtain ⟨ad, xs, rfl, e, t⟩ := Td.ref_inv h
    obtain ⟨v0, w0, rfl, t0, t⟩ := TdAll.cons_inv t
    obtain ⟨v1, w1, rfl, t1, t⟩ := TdAll.cons_inv t
    obtain ⟨v2, w2, rfl, t2, t⟩ := TdAll.cons_inv t
    obtain rfl := TdAll.nil_inv t
    obtain rfl := Td.str_inv t0
    exact ⟨ad, _, [2], rfl, e, bw, (fun i hi => by cases List.mem_singleton.mp hi; simp), .cons t2 .nil⟩
  | tms a x =>
    obtain ⟨ad, xs, rfl, e, t⟩ := Td.ref_inv h
    obtain ⟨v0, w0, rfl, t0, t⟩ := TdAll.cons_inv t
    obtain ⟨v1, w1, rfl, t1, t⟩ := TdAll.cons_inv t
    obtain ⟨v2, w2, rfl, t2, t⟩ := TdAll.cons_inv t
    obtain rfl := TdAll.nil_inv t
    obtain rfl := Td.str_inv t0
    exact ⟨ad, _, [2], rfl, e, bs, (fun i hi => by cases List.mem_singleton.mp hi; simp), .cons t2 .nil⟩
def spWalk (d : Nat) : Gp.YSp := fun vs H its => ∃ (b ar : Addr) (x : List Stm) (ns : List Int), vs = [.ref b, .ref ar] ∧ Td H (.ref b) (.tuple (toDs x)) ∧ H ar = some (.tup (ns.map V.int)) ∧ depths x ≤ d ∧ x.length ≤ 500 ∧ slims x ∧ ns.length + 2 * d ≤ 500 ∧ its = rowIts (rowsL ns 0 x)
abbrev walkN : List Str := ["block", "around", "index", "statement", "path", "number", "inner", "within"]
theorem ysc_walk : Gp.YScope walkN ["block", "around"] (defScope s_walk) := ⟨⟨rfl, rfl, rfl, by decide +kernel, rfl, by decide +kernel, by decide +kernel⟩, by decide +kernel, fun m => rfl⟩
section
variable {P : Program} {w : World} {K : PySem.W.Frag} {mg : Str → Option Value} {base : Heap}
def lvW : Nat → Nat
  | 0 => 3
  | d + 1 => lvW d + 2
theorem tk_tups {H : Hp} : TK H (Gp.tupsOf H) := fun _ _ e => Gp.tupsOf_at.mpr e
theorem cat_any {K : PySem.W.Frag} {H : Hp} {a : Addr} {ns : List Int} {i : Int} {Q : VK} {t : Addr} (ha : H a = some (.tup (ns.map V.int))) (nt : H t = none) (hn : ns.length ≤ 600)
    (k : ∀ p H2, TK H H2 → H2 p = some (.tup ((ns ++ [i]).map V.int)) → Q (.ref p) H2) : rCatA K (.ref a) (.ref t) (upd H t (.tup [.int i])) Q := by
  have s1 := same_upd (o := .tup [.int i]) nt
  refine ⟨a, t, ns.map V.int, [.int i], rfl, rfl, .inl (.inl (s1 _ _ ha)), .inl (.inl upd_same), (by rw [List.length_map]; exact small_le (by simp only [List.length_cons, List.length_nil]; omega)), fun e => ?_, fun _ e => (by cases e), fun _ _ p np => ?_⟩
  · have : ns = [] := List.map_eq_nil_iff.mp e
    subst this
    exact k _ _ (TK.same s1) upd_same
  · exact k _ _ ((TK.same s1).trans (TK.same (same_upd np))) (by rw [upd_same, List.map_append]; rfl)
theorem walk_body {k d : Nat} {sp0 : Gp.YSp} {f fB : Addr} {fd fdB : FuncData} (hk : 1 ≤ k) (F : Dn K mg "walk" s_walk ["block", "around"] f fd) (T : Bi mg) (C : Cst K mg) (G : Tabs K w mg) (B : Dn K mg "blocks_of" s_blocks_of ["statement"] fB fdB)
    (W : Gm.YFn P w K mg base k f fd ["block", "around"] sp0) (h0 : ∀ d', d = d' + 1 → ∀ vs H its, spWalk d' vs H its → sp0 vs H its) : Gm.YFn P w K mg base (k + 2) f fd ["block", "around"] (spWalk d) := by
  have GB : FnOk P w K mg base CX0 1 fB fdB ["statement"] (spBlocks K) := ok_blocks B.F T G
  have nd := ysc_walk.g.nd
  refine funY F.F ysc_walk (fun vs H its h => ?_) (fun cdv A outer s H vs its hr h => ?_)
  · obtain ⟨b, ar, x, ns, rfl, _⟩ := h
    rfl
  · obtain ⟨b, ar, x, ns, rfl, tb, ha, hd, hl, hs, hn, rfl⟩ := h
    have hr1 : Room 1 (A.deeper (PyProof.Rows.envOfC "walk" (defScope s_walk) s.heap.objs.size f cdv)) := hr.mono (by omega)
    have hrk : Room k (A.deeper (PyProof.Rows.envOfC "walk" (defScope s_walk) s.heap.objs.size f cdv)) := hr.mono (by omega)
    refine ⟨_, Gm.yss_cons (Gm.ys_for (wi := Em.iEnumT K _) (g := gTup K 2 _) (by rfl) (fun _ _ => Em.pi_enumT (by rfl) C.enum (pa_cons (pv 0) pa_nil)) (fun _ _ => pg_tup (by rfl) (pgs_cons (pg_name (i := 2) nd rfl (Or.inl rfl)) (pgs_cons (pg_name (i := 3) nd rfl (Or.inl rfl)) pgs_nil)))
      (Gm.yss_cons (Gm.ys_ps fun _ _ => ps_set (i := 4) nd rfl (Or.inl rfl) (pe_op (r := rCatA K) op_catA (pv 1) (pe_tup (pa_cons (pv 2) pa_nil))))
      (Gm.yss_cons (Gm.ys_yield (fun _ _ => pe_tup (pa_cons (pv 4) (pa_cons (pv 3) pa_nil))) rfl)
      (Gm.yss_cons (Gm.ys_for (wi := Em.iEnumT K _) (g := gTup K 2 _) (by rfl) (fun _ _ => Em.pi_enumT (by rfl) C.enum (pa_cons (pe_call GB hr1 (by rfl) B.g B.F.kp B.b .nil pass0 (pa_cons (pv 3) pa_nil)) pa_nil)) (fun _ _ => pg_tup (by rfl) (pgs_cons (pg_name (i := 5) nd rfl (Or.inl rfl)) (pgs_cons (pg_name (i := 6) nd rfl (Or.inl rfl)) pgs_nil)))
        (Gm.yss_cons (Gm.ys_ps fun _ _ => ps_set (i := 7) nd rfl (Or.inl rfl) (pe_op (r := rCatA K) op_catA (pv 4) (pe_tup (pa_cons (pv 5) pa_nil))))
        (Gm.yss_cons (Gm.ys_yieldFrom hr (fun _ _ => Em.pyen_call W hrk (by rfl) F.g F.F.kp F.b .nil (pa_cons (pv 6) (pa_cons (pv 7) pa_nil)))) Gm.yss_nil))) Gm.yss_nil)))) Gm.yss_nil, ?_⟩
    intro H' hH
    obtain ⟨b2, xs, eb, hb, tx⟩ := Td.ref_inv (tb.mono (t := (fun b xs e => hH b xs e : TK H H')))
    cases eb
    have ha := hH _ _ ha
    have lx : xs.length = x.length := by rw [tx.length, toDs_length]
    refine ⟨_, rfl, b, xs, rfl, .inl (.inl hb), yfor_enum (K := K) (a := b) (xs := xs) (fun i its σ H => ∃ v2 v3 v4 v5 v6 v7, σ = [some (.ref b), some (.ref ar), v2, v3, v4, v5, v6, v7] ∧ H b = some (.tup xs) ∧ TdAll H xs (toDs x) ∧ H ar = some (.tup (ns.map V.int)) ∧
      its = rowIts (rowsL ns i (x.drop i))) ⟨_, _, _, _, _, _, rfl, hb, tx, ha, rfl⟩ (fun i its σ H _ ⟨_, _, _, _, _, _, _, hb, _⟩ => .inl (.inl hb)) ?_ ?_⟩
    · rintro i v its σ H T hv ⟨v2, v3, v4, v5, v6, v7, rfl, hb, tx, ha, rfl⟩ nT _
      have sT := TK.same (same_upd (o := .tup [.int (i : Nat), v]) nT)
      obtain ⟨s, hxi⟩ : ∃ s, x[i]? = some s := by
        have := (List.getElem?_eq_some_iff.mp hv).1
        exact ⟨_, List.getElem?_eq_getElem (by omega)⟩
      obtain ⟨v', hv', ts⟩ := tx.get (toDs_at hxi)
      rw [hv] at hv'
      cases hv'
      refine ⟨T, _, rfl, .inl (.inl upd_same), rfl, _, _, rfl, _, _, rfl, rfl, ?_⟩
      have hb := sT _ _ hb
      have tx := tx.mono sT
      have ts := ts.mono sT
      have ha := sT _ _ ha
      generalize upd H T (.tup [.int (i : Nat), v]) = H at hb tx ts ha
      refine ⟨_, rfl, _, rfl, small_le (by simp), fun t nt => cat_any ha nt (by omega) fun pa H2 k2 hpa => ?_⟩
      have hb := k2 _ _ hb
      have tx := tx.mono k2
      have ts := ts.mono k2
      have ha := k2 _ _ ha
      clear k2 nt
      refine ⟨_, rfl, _, rfl, small_le (by simp), fun u nu => ?_⟩
      have s3 := TK.same (same_upd (o := .tup [.ref pa, v]) nu)
      rw [rowsL_drop hxi]
      refine ⟨_, _, rfl, ⟨u, pa, v, rfl, tk_tups _ _ upd_same, tk_tups _ _ (s3 _ _ hpa), (ts.mono s3).mono tk_tups⟩, fun H4 h4 => ?_⟩
      have k4 : TK H2 H4 := s3.trans h4
      have hb := k4 _ _ hb
      have tx := tx.mono k4
      have ts := ts.mono k4
      have ha := k4 _ _ ha
      have hpa := k4 _ _ hpa
      clear k4 s3 h4 nu
      obtain ⟨sa, zs, l, rfl, hsa, hl', hi', tl⟩ := stm_inv ts
      refine ⟨_, rfl, sa, _, zs, l, rfl, .inl (.inl hsa), hl', hi', fun tI H5 s5 eI nI => ⟨tI, _, rfl, .inl (.inl eI), ?_⟩⟩
      have k5 := TK.same s5
      refine yfor_enum (K := K) (a := tI) (xs := pickV (.str s.word :: zs) l) (fun n its σ H => ∃ v5 v6 v7, σ = [some (.ref b), some (.ref ar), some (.int (i : Nat)), some (.ref sa), some (.ref pa), v5, v6, v7] ∧ H b = some (.tup xs) ∧ TdAll H xs (toDs x) ∧ H ar = some (.tup (ns.map V.int)) ∧
        H pa = some (.tup ((ns ++ [(i : Int)]).map V.int)) ∧ H tI = some (.tup (pickV (.str s.word :: zs) l)) ∧ TdAll H (pickV (.str s.word :: zs) l) (s.inner.map fun x => .tuple (toDs x)) ∧
        its = rowIts (rowsI (ns ++ [(i : Int)]) n (s.inner.drop n)) ++ rowIts (rowsL ns (i + 1) (x.drop (i + 1))))
        ⟨_, _, _, rfl, k5 _ _ hb, tx.mono k5, k5 _ _ ha, k5 _ _ hpa, eI, tl.mono k5, by simp [rowIts]⟩ (fun n its σ H _ ⟨_, _, _, _, _, _, _, _, e, _⟩ => .inl (.inl e)) ?_ ?_
      · rintro n y its σ H T hy ⟨v5, v6, v7, rfl, hb, tx, ha, hpa, eI, tl, rfl⟩ nT _
        have sT := TK.same (same_upd (o := .tup [.int (n : Nat), y]) nT)
        refine ⟨T, _, rfl, .inl (.inl upd_same), rfl, _, _, rfl, _, _, rfl, rfl, ?_⟩
        have lI : (pickV (.str s.word :: zs) l).length = s.inner.length := by rw [tl.length, List.length_map]
        obtain ⟨z, hz⟩ : ∃ z, s.inner[n]? = some z := by
          have := (List.getElem?_eq_some_iff.mp hy).1
          exact ⟨_, List.getElem?_eq_getElem (by omega)⟩
        obtain ⟨y', hy', ty⟩ := tl.get (show (s.inner.map fun x => PyData.tuple (toDs x))[n]? = some (.tuple (toDs z)) by rw [List.getElem?_map, hz]; rfl)
        rw [hy] at hy'
        cases hy'
        have hb := sT _ _ hb
        have tx := tx.mono sT
        have ty := ty.mono sT
        have tl := tl.mono sT
        have ha := sT _ _ ha
        have hpa := sT _ _ hpa
        have eI := sT _ _ eI
        generalize upd H T (.tup [.int (n : Nat), y]) = H at hb tx ty tl ha hpa eI
        have hin : z ∈ s.inner := List.mem_of_getElem? hz
        have d1 := inner_depth hin
        have d2 := depths_at hxi
        obtain ⟨d', rfl⟩ : ∃ d', d = d' + 1 := ⟨d - 1, by omega⟩
        refine ⟨_, rfl, _, rfl, small_le (by simp), fun t nt => cat_any hpa nt (by rw [List.length_append]; simp only [List.length_cons, List.length_nil]; omega) fun pb H2 k2 hpb => ?_⟩
        have hb := k2 _ _ hb
        have tx := tx.mono k2
        have ty := ty.mono k2
        have tl := tl.mono k2
        have ha := k2 _ _ ha
        have hpa := k2 _ _ hpa
        have eI := k2 _ _ eI
        obtain ⟨yb, ys, rfl, hyb, tys⟩ := Td.ref_inv ty
        rw [rowsI_drop hz]
        have sl := inner_slim hin (slims_at hxi hs)
        refine ⟨_, rfl, _, rfl, rowIts (rowsL ((ns ++ [(i : Int)]) ++ [(n : Int)]) 0 z), h0 d' rfl _ _ _ ⟨yb, pb, z, _, rfl, ty, hpb, by omega, sl.1, sl.2, (by simp only [List.length_append, List.length_cons, List.length_nil]; omega), rfl⟩, rowIts_mono, rowIts (rowsI (ns ++ [(i : Int)]) (n + 1) (s.inner.drop (n + 1))) ++ rowIts (rowsL ns (i + 1) (x.drop (i + 1))), ?_, fun H6 k6 => ?_⟩
        · simp [rowIts]
        · exact ⟨_, _, _, rfl, k6 _ _ hb, tx.mono k6, k6 _ _ ha, k6 _ _ hpa, k6 _ _ eI, tl.mono k6, rfl⟩
      · rintro its σ H ⟨v5, v6, v7, rfl, hb, tx, ha, hpa, eI, tl, rfl⟩
        have lI : (pickV (.str s.word :: zs) l).length = s.inner.length := by rw [tl.length, List.length_map]
        refine ⟨_, _, _, _, _, _, rfl, hb, tx, ha, ?_⟩
        rw [lI, List.drop_of_length_le (Nat.le_refl _)]
        simp [rowIts, rowsI]
    · rintro its σ H ⟨_, _, _, _, _, _, rfl, hb, tx, ha, rfl⟩
      show rowIts (rowsL ns xs.length (x.drop xs.length)) = []
      rw [List.drop_of_length_le (by omega)]
      rfl
theorem ok_walk {f fB : Addr} {fd fdB : FuncData} (F : Dn K mg "walk" s_walk ["block", "around"] f fd) (T : Bi mg) (C : Cst K mg) (G : Tabs K w mg) (B : Dn K mg "blocks_of" s_blocks_of ["statement"] fB fdB) : ∀ d, Gm.YFn P w K mg base (lvW d) f fd ["block", "around"] (spWalk d)
  | 0 => walk_body (k := 1) (Nat.le_refl _) F T C G B yfn_none (fun d' h => by omega)
  | d + 1 => walk_body (k := lvW d) (by cases d <;> simp [lvW]) F T C G B (ok_walk F T C G B d) (fun d' h vs H its q => by cases (Nat.succ.inj h); exact q)
end
end W1
end
section
set_option maxRecDepth 100000
set_option maxHeartbeats 4000000
/-! P4: is_number, is_faulty -/
namespace W1
open PySem L2 Cm
def numB (v : V) (m : Int) : Bool := match v with
  | .int i => decide (0 ≤ i) && decide (i ≤ m)
  | _ => false
def spNum (K : PySem.W.Frag) : Sp := fun vs H Q _ => ∃ (v : V) (m : Int) (T : String), vs = [v, .int m] ∧ TyB K H v T ∧ Q (.bl (numB v m)) H
theorem tyb_int {K : PySem.W.Frag} {H : Hp} {v : V} {T : String} (t : TyB K H v T) : (T = "int" ∧ ∃ i, v = .int i) ∨ (T ≠ "int" ∧ ∀ m, numB v m = false) := by
  cases t with
  | int i => exact .inl ⟨rfl, i, rfl⟩
  | _ => exact .inr ⟨by decide +kernel, fun _ => rfl⟩
def _root_.Cm.Stm.names : Stm → List Str
  | .ask _ a b c _ => [a, b, c]
  | .move a b => [a, b]
  | .part a b => [a, b]
  | .tell a _ => [a]
  | .iff a _ _ => [a]
  | .whl a _ => [a]
  | .tms _ _ => []
  | .fin => []
def numD : PyData → Bool
  | .int i => decide (0 ≤ i) && decide (i ≤ 3)
  | _ => false
/-- what else is wrong with it -/
def _root_.Cm.Stm.odd : Stm → Bool
  | .tell _ w => !decide (w = "done" ∨ w = "failed")
  | .tms n _ => !numD n
  | _ => false
def _root_.Cm.Stm.flatN : Stm → Prop
  | .tms n _ => (∃ i, n = .int i) ∨ ∃ b, n = .bool b
  | _ => True
def faulty (names : List Str) (p : List Int) (s : Stm) : Bool := decide (p.length > 5) || (!(s.names.all fun a => decide (a ∈ names)) || s.odd)
theorem la : ∀ k, listsAt (askW k) = some [1, 2, 3] := fun k => by
  unfold listsAt
  rw [if_pos (askW_in k)]
theorem lm : listsAt "move" = some [1, 2] := by decide +kernel
theorem lp : listsAt "part" = some [1, 2] := by decide +kernel
theorem lt : listsAt "tell" = some [1] := by decide +kernel
theorem le : listsAt "end" = some [] := by decide +kernel
theorem li : listsAt "if" = some [1] := by decide +kernel
theorem lw : listsAt "while" = some [1] := by decide +kernel
theorem ls : listsAt "times" = some [] := by decide +kernel
theorem stm_lists {H : Hp} {v : V} {s : Stm} (h : Td H v s.toD) : ∃ a xs l, v = .ref a ∧ H a = some (.tup (.str s.word :: xs)) ∧ listsAt s.word = some l ∧ l.map (fun i => (V.str s.word :: xs)[i]?) = s.names.map (fun n => some (V.str n)) ∧
    (∀ a w, s = .tell a w → xs[1]? = some (.str w)) ∧ (∀ n x, s = .tms n x → ∃ u, xs[0]? = some u ∧ Td H u n) := by
  cases s with
  | ask k a b c x =>
    obtain ⟨ad, xs, rfl, e, t⟩ := Td.ref_inv h
    obtain ⟨v0, w0, rfl, t0, t⟩ := TdAll.cons_inv t
    obtain ⟨v1, w1, rfl, t1, t⟩ := TdAll.cons_inv t
    obtain ⟨v2, w2, rfl, t2, t⟩ := TdAll.cons_inv t
    obtain ⟨v3, w3, rfl, t3, t⟩ := TdAll.cons_inv t
    obtain rfl := Td.str_inv t0
    obtain rfl := Td.str_inv t1
    obtain rfl := Td.str_inv t2
    obtain rfl := Td.str_inv t3
    exact ⟨ad, _, [1, 2, 3], rfl, e, la k, rfl, fun _ _ z => (by cases z), fun _ _ z => (by cases z)⟩
  | move a b =>
    obtain ⟨ad, xs, rfl, e, t⟩ := Td.ref_inv h
    obtain ⟨v0, w0, rfl, t0, t⟩ := TdAll.cons_inv t
    obtain ⟨v1, w1, rfl, t1, t⟩ := TdAll.cons_inv t
    obtain ⟨v2, w2, rfl, t2, t⟩ := TdAll.cons_inv t
    obtain rfl := Td.str_inv t0
    obtain rfl := Td.str_inv t1
    obtain rfl := Td.str_inv t2
    exact ⟨ad, _, [1, 2], rfl, e, lm, rfl, fun _ _ z => (by cases z), fun _ _ z => (by cases z)⟩
  | part a b =>
    obtain ⟨ad, xs, rfl, e, t⟩ := Td.ref_inv h
    obtain ⟨v0, w0, rfl, t0, t⟩ := TdAll.cons_inv t
    obtain ⟨v1, w1, rfl, t1, t⟩ := TdAll.cons_inv t
    obtain ⟨v2, w2, rfl, t2, t⟩ := TdAll.cons_inv t
    obtain rfl := Td.str_inv t0
    obtain rfl := Td.str_inv t1
    obtain rfl := Td.str_inv t2
    exact ⟨ad, _, [1, 2], rfl, e, lp, rfl, fun _ _ z => (by cases z), fun _ _ z => (by cases z)⟩
  | tell a w =>
    obtain ⟨ad, xs, rfl, e, t⟩ := Td.ref_inv h
    obtain ⟨v0, w0, rfl, t0, t⟩ := TdAll.cons_inv t
    obtain ⟨v1, w1, rfl, t1, t⟩ := TdAll.cons_inv t
    obtain ⟨v2, w2, rfl, t2, t⟩ := TdAll.cons_inv t
    obtain rfl := Td.str_inv t0
    obtain rfl := Td.str_inv t1
    obtain rfl := Td.str_inv t2
    exact ⟨ad, _, [1], rfl, e, lt, rfl, fun _ _ z => (by cases z; rfl), fun _ _ z => (by cases z)⟩
  | fin =>
    obtain ⟨ad, xs, rfl, e, t⟩ := Td.ref_inv h
    obtain ⟨v0, w0, rfl, t0, t⟩ := TdAll.cons_inv t
    obtain rfl := Td.str_inv t0
    exact ⟨ad, _, [], rfl, e, le, rfl, fun _ _ z => (by cases z), fun _ _ z => (by cases z)⟩
  | iff a x y =>
    obtain ⟨ad, xs, rfl, e, t⟩ := Td.ref_inv h
    obtain ⟨v0, w0, rfl, t0, t⟩ := TdAll.cons_inv t
    obtain ⟨v1, w1, rfl, t1, t⟩ := TdAll.cons_inv t
    obtain rfl := Td.str_inv t0
    obtain rfl := Td.str_inv t1
    exact ⟨ad, _, [1], rfl, e, li, rfl, fun _ _ z => (by cases z), fun _ _ z => (by cases z)⟩
  | whl a x =>
    obtain ⟨ad, xs, rfl, e, t⟩ := Td.ref_inv h
    obtain ⟨v0, w0, rfl, t0, t⟩ := TdAll.cons_inv t
    obtain ⟨v1, w1, rfl, t1, t⟩ := TdAll.cons_inv t
    obtain rfl := Td.str_inv t0
    obtain rfl := Td.str_inv t1
    exact ⟨ad, _, [1], rfl, e, lw, rfl, fun _ _ z => (by cases z), fun _ _ z => (by cases z)⟩
  | tms a x =>
    obtain ⟨ad, xs, rfl, e, t⟩ := Td.ref_inv h
    obtain ⟨v0, w0, rfl, t0, t⟩ := TdAll.cons_inv t
    obtain ⟨v1, w1, rfl, t1, t⟩ := TdAll.cons_inv t
    obtain rfl := Td.str_inv t0
    exact ⟨ad, _, [], rfl, e, ls, rfl, fun _ _ z => (by cases z), fun _ _ z => (by cases z; exact ⟨_, rfl, t1⟩)⟩
theorem inV_str {a : Str} {names : List Str} : inV (.str a) (names.map V.str) = decide (a ∈ names) := by
  unfold inV
  rw [List.any_map]
  induction names with
  | nil => rfl
  | cons n r ih =>
    rw [List.any_cons, ih]
    show ((n == a) || decide (a ∈ r)) = _
    by_cases e : n = a
    · subst e
      simp
    · have : ¬ a = n := fun z => e z.symm
      simp [e, this]
theorem word_tell {s : Stm} (h : s.word = "tell") : ∃ a w, s = .tell a w := by
  cases s with
  | tell a w => exact ⟨a, w, rfl⟩
  | ask k a b c x => exact absurd h (by rcases askW_in k with e | e | e <;> (show ¬ askW k = _; rw [e]; decide +kernel))
  | _ =>
    simp only [Stm.word] at h
    exact absurd h (by decide +kernel)
theorem word_times {s : Stm} (h : s.word = "times") : ∃ n x, s = .tms n x := by
  cases s with
  | tms a w => exact ⟨a, w, rfl⟩
  | ask k a b c x => exact absurd h (by rcases askW_in k with e | e | e <;> (show ¬ askW k = _; rw [e]; decide +kernel))
  | _ =>
    simp only [Stm.word] at h
    exact absurd h (by decide +kernel)
theorem word_odd {s : Stm} (h : s.word ≠ "tell") (h2 : s.word ≠ "times") : s.odd = false := by
  cases s with
  | tms a w => exact absurd rfl h2
  | tell a w => exact absurd rfl h
  | _ => rfl
section
variable {P : Program} {w : World} {K : PySem.W.Frag} {mg : Str → Option Value} {base : Heap}
theorem ok_num {f : Addr} {fd : FuncData} (F : Fun K "is_number" "is_number" s_is_number f fd) (T : Bi mg) : FnOk P w K mg base CX0 1 f fd ["value", "most"] (spNum K) := by
  refine F.ok sc_is_number (fun vs H Q E h => ?_) (fun cdv A outer s H vs Q E hr h => ?_)
  · obtain ⟨v, m, t, rfl, _⟩ := h
    rfl
  · obtain ⟨v, m, t, rfl, ht, k⟩ := h
    refine ⟨_, pss_one (ps_ret (pe_and (pe_cmpR op_isTyB (pe_callTy call_type1 (by rfl) T.type (by decide +kernel) (pa_cons (pv 0) pa_nil)) (pe_bltn (v := .ty "int") (by rfl) T.int (by decide +kernel) rfl) (nomark _))
      (pe_one (pe_chain op_le op_le pe_int (pv 0) (pv 1))))), ?_⟩
    refine ⟨_, rfl, v, t, rfl, ht, t, "int", rfl, rfl, _, rfl, ?_⟩
    rcases tyb_int ht with ⟨rfl, i, rfl⟩ | ⟨hn, hv⟩
    · refine iteT ?_
      refine ⟨_, rfl, _, _, rfl, rfl, _, rfl, ?_⟩
      by_cases c : 0 ≤ i
      · rw [decide_eq_true c]
        refine iteT ⟨_, rfl, _, _, rfl, rfl, ?_⟩
        have e : numB (.int i) m = decide (i ≤ m) := by
          show (decide (0 ≤ i) && decide (i ≤ m)) = _
          rw [decide_eq_true c, Bool.true_and]
        rw [e] at k
        exact k
      · rw [decide_eq_false c]
        refine iteF ?_
        have e : numB (.int i) m = false := by
          show (decide (0 ≤ i) && decide (i ≤ m)) = _
          rw [decide_eq_false c, Bool.false_and]
        rw [e] at k
        exact k
    · rw [decide_eq_false hn]
      refine iteF ?_
      rw [hv m] at k
      exact k
def TupL (H : Hp) (a : Addr) (names : List Str) : Prop := ∃ o, H a = some (.frz o (.tup (names.map V.str)))
structure Told (K : PySem.W.Frag) (mg : Str → Option Value) : Prop where
  at_ : ∃ a : Addr, mg "TOLD_WORDS" = some (.ref a) ∧ ∀ H, SqT K H a [.str "done", .str "failed"]
def spFaulty (K : PySem.W.Frag) : Sp := fun vs H Q _ => ∃ (tl tp : Addr) (v : V) (names : List Str) (p : List Int) (sm : Stm), vs = [.ref tl, .ref tp, v] ∧ SqT K H tl (names.map V.str) ∧ SqT K H tp (p.map V.int) ∧ Td H v sm.toD ∧ sm.flatN ∧
  ∀ H', Same H H' → Q (.bl (faulty names p sm)) H'
theorem ok_faulty {f fN : Addr} {fd fdN : FuncData} (F : Fun K "is_faulty" "is_faulty" s_is_faulty f fd) (T : Bi mg) (C : Cst K mg) (G : Tabs K w mg) (W : Told K mg) (N : Dn K mg "is_number" s_is_number ["value", "most"] fN fdN) : FnOk P w K mg base CX0 2 f fd ["lists", "path", "statement"] (spFaulty K) := by
  have GN : FnOk P w K mg base CX0 1 fN fdN ["value", "most"] (spNum K) := ok_num N.F T
  have nd := sc_is_faulty.nd
  refine F.ok sc_is_faulty (fun vs H Q E h => ?_) (fun cdv A outer s H vs Q E hr h => ?_)
  · obtain ⟨a, b, v, x, p, sm, rfl, _⟩ := h
    rfl
  · obtain ⟨tl, tp, v, names, p, sm, rfl, hL, hP, ts, fl, k⟩ := h
    obtain ⟨d, gd, ⟨es, n, D⟩, tat⟩ := G.lists
    obtain ⟨t2, g2⟩ := C.most2
    obtain ⟨t3, g3⟩ := C.most3
    obtain ⟨aT, gT, hT⟩ := W.at_
    have hr1 : Room 1 (A.deeper (PyProof.Rows.envOfC "is_faulty" (defScope s_is_faulty) s.heap.objs.size f cdv)) := hr
    refine ⟨_, pss_cons (ps_if (pt_cmpR op_gt (pe_callB call_len_seq (by rfl) T.len PySem.boot_len (pa_cons (pv 1) pa_nil)) (pe_op op_add (pe_op op_mul pe_int (pe_glob (v := .int 2) rfl g2 ⟨_, rfl⟩)) pe_int) (nomark _)) (pss_one (ps_ret pe_bl)) pss_nil)
      (pss_cons (ps_set (i := 3) nd rfl (Or.inl rfl) (pe_ix ix_tup (pv 2) pe_int (fun _ _ => rfl)))
      (pss_cons (ps_if (pt_not (pt_val (pe_callB (cr_all (by rfl)) (by rfl) C.all (by decide +kernel) (pa_cons (pe_lc (own := [("at", 4)]) (g := gName 4) (tt := tYes) (by rfl) nd
          (pi_tup (pe_ix (ix_kd D) (pe_glob (v := .ref d) rfl gd rfl) (pv 3) (fun _ _ => rfl)))
          (blkOk_by (own := [("at", 4)]) (N := ["lists", "path", "statement", "word", "at"]) (sc := defScope s_is_faulty) (by decide +kernel)) (fun _ _ _ _ _ => pg_name (i := 4) nd rfl (Or.inl rfl))
          (fun _ _ _ _ _ => pts_nil) (fun _ _ _ _ _ => pe_cmpR (r := rIn K false) op_in_seq (pe_ix (r := rIxT K) ix_tup (pv 2) (pv 4) (fun _ _ => rfl)) (pv 0) (by rfl))) pa_nil)))) (pss_one (ps_ret pe_bl)) pss_nil)
      (pss_cons (ps_if (pt_cmpR op_eq (pv 3) pe_str (nomark _)) (pss_one (ps_ret (pe_cmpR op_notIn_seq (pe_ix ix_tup (pv 2) pe_int (fun _ _ => rfl)) (pe_glob (v := .ref aT) rfl gT rfl) (by rfl)))) pss_nil)
      (pss_cons (ps_if (pt_cmpR op_eq (pv 3) pe_str (nomark _)) (pss_one (ps_ret (pe_not (pe_call GN hr1 (by rfl) N.g N.F.kp N.b .nil pass0 (pa_cons (pe_ix ix_tup (pv 2) pe_int (fun _ _ => rfl)) (pa_cons (pe_glob (v := .int 3) rfl g3 ⟨_, rfl⟩) pa_nil)))))) pss_nil)
      (pss_one (ps_ret pe_bl)))))), ?_⟩
    have kF : faulty names p sm = (decide (p.length > 5) || (!(sm.names.all fun a => decide (a ∈ names)) || sm.odd)) := rfl
    refine ⟨_, rfl, tp, _, rfl, .inr hP, _, _, rfl, rfl, .inl ⟨by decide, by decide⟩, _, _, rfl, rfl, _, _, rfl, rfl, _, rfl, ?_⟩
    rw [List.length_map]
    by_cases c5 : p.length > 5
    · rw [decide_eq_true (show (2 * 2 + 1 : Int) < (p.length : Int) by omega)]
      have := k H (fun _ _ e => e)
      rw [kF, decide_eq_true c5, Bool.true_or] at this
      exact iteT this
    rw [decide_eq_false (show ¬ (2 * 2 + 1 : Int) < (p.length : Int) by omega)]
    rw [decide_eq_false c5, Bool.false_or] at kF
    refine iteF ?_
    obtain ⟨sa, xs, l, rfl, hsa, hl, hx, htl, htm⟩ := stm_lists ts
    obtain ⟨b, eb, hb⟩ := tat _ l hl
    have hS : SqT K H sa (.str sm.word :: xs) := .inl (.inl hsa)
    refine ⟨_, rfl, sa, _, 0, _, rfl, rfl, hS, at0, ?_⟩
    refine ⟨_, rfl, _, _, .ref b, rfl, rfl, eb, rfl, b, rfl, ⟨_, hb H⟩, fun D' nD => ?_⟩
    have sD := same_upd (o := .lst []) nD
    have ll : l.length = sm.names.length := by have := congrArg List.length hx; rwa [List.length_map, List.length_map] at this
    have l3 : sm.names.length ≤ 3 := by cases sm <;> simp [Stm.names]
    refine lc_tup (K := K) (a := b) (xs := l.map fun i => V.int (i : Nat)) (fun i H' => H' = upd H D' (.lst (((sm.names.take i).map fun a => decide (a ∈ names)).map V.bl))) rfl (fun i H' _ _ => hb _) ?_ ?_
    · rintro i x H' hi rfl
      rw [List.getElem?_map] at hi
      cases en : l[i]? with
      | none => rw [en] at hi; cases hi
      | some j =>
        rw [en] at hi
        cases hi
        have h1 : (l.map fun i => (V.str sm.word :: xs)[i]?)[i]? = some ((V.str sm.word :: xs)[j]?) := by rw [List.getElem?_map, en]; rfl
        rw [hx, List.getElem?_map] at h1
        cases em : sm.names[i]? with
        | none => rw [em] at h1; cases h1
        | some nm =>
          rw [em] at h1
          have hv : (V.str sm.word :: xs)[j]? = some (.str nm) := (Option.some.inj h1).symm
          refine ⟨rfl, _, rfl, _, rfl, sa, _, _, _, rfl, rfl, sqT_same hS (same_upd nD), atI_nat hv, _, rfl, tl, _, rfl, .inr (sqT_same hL (same_upd nD)), rfl, ?_, ?_⟩
          · simp [flatV]
          · refine ⟨_, upd_same, ?_, ?_⟩
            · rw [List.length_map, List.length_map, List.length_take]
              exact small1000 (by omega)
            · rw [upd_upd, take_at em, List.map_append, List.map_append]
              show upd H D' (.lst (_ ++ [V.bl (inV (.str nm) (names.map V.str))])) = _
              rw [inV_str]
              rfl
    · rintro H' rfl
      have s1 := same_upd (o := .lst (((sm.names.take (l.map fun i => V.int (i : Nat)).length).map fun a => decide (a ∈ names)).map V.bl)) nD
      refine ⟨D', _, rfl, .inl (.inl upd_same), ?_⟩
      have e1 : ((sm.names.take (l.map fun i => V.int (i : Nat)).length).map fun a => decide (a ∈ names)).all id = sm.names.all fun a => decide (a ∈ names) := by
        rw [List.length_map, ll, List.take_length, List.all_map]
        rfl
      rw [e1]
      generalize upd H D' _ = H2 at s1
      refine ⟨_, rfl, ?_⟩
      refine ite2 (fun c => ?_) (fun c => ?_)
      · have := k H2 s1
        rw [kF, c, Bool.true_or] at this
        exact this
      rw [Bool.eq_false_iff.mpr c, Bool.false_or] at kF
      rw [kF] at k
      refine ⟨_, rfl, rfl, _, rfl, ?_⟩
      have e2 : ∀ z : Str, decide (V.str sm.word = V.str z) = decide (sm.word = z) := fun z => by simp only [V.str.injEq]
      rw [e2]
      by_cases ct : sm.word = "tell"
      · rw [decide_eq_true ct]
        obtain ⟨a0, w0, rfl⟩ := word_tell ct
        refine iteT ⟨_, rfl, sa, _, 2, _, rfl, rfl, sqT_same hS s1, atI_nat (j := 2) (htl _ _ rfl), aT, _, rfl, .inr (hT _), rfl, rfl, ?_⟩
        have := k H2 s1
        show Q (.bl (!inV (.str w0) ((["done", "failed"] : List Str).map V.str))) H2
        rw [inV_str]
        have e3 : Stm.odd (.tell a0 w0) = !decide (w0 ∈ (["done", "failed"] : List Str)) := by simp [Stm.odd]
        rw [e3] at this
        exact this
      · rw [decide_eq_false ct]
        refine iteF ⟨_, rfl, rfl, _, rfl, ?_⟩
        rw [e2]
        by_cases cm : sm.word = "times"
        · rw [decide_eq_true cm]
          obtain ⟨n0, x0, rfl⟩ := word_times cm
          obtain ⟨u, hu, tu⟩ := htm _ _ rfl
          refine iteT ?_
          have := k H2 s1
          rcases fl with ⟨i, rfl⟩ | ⟨i, rfl⟩
          · cases tu
            exact ⟨_, rfl, sa, _, 1, _, rfl, rfl, sqT_same hS s1, atI_nat (j := 1) hu, .int i, 3, "int", rfl, .int i, _, rfl, this⟩
          · cases tu
            exact ⟨_, rfl, sa, _, 1, _, rfl, rfl, sqT_same hS s1, atI_nat (j := 1) hu, .bl i, 3, "bool", rfl, .bl i, _, rfl, this⟩
        · rw [decide_eq_false cm]
          have := k H2 s1
          rw [word_odd ct cm] at this
          exact iteF this
end
end W1
end
section
set_option maxRecDepth 100000
set_option maxHeartbeats 4000000
/-! P5: are_lists -/
namespace W1
open PySem L2 Cm
theorem same_at {H H' : Hp} {D : Addr} {o : HO} (s : Same H H') (n : H D = none) : Same H (upd H' D o) := fun b u e => by
  by_cases z : b = D
  · subst z
    rw [n] at e
    cases e
  · rw [upd_ne z]
    exact s b u e
theorem count_str {names : List Str} {a : Str} : (names.map V.str).countP (fun z => eqV z (.str a)) = names.count a := by
  rw [List.countP_map]
  rfl
def areLists (names kept : List Str) : Bool := (decide (1 ≤ names.length) && decide (names.length ≤ 4)) && ((names.all fun a => nameB a && decide (names.count a = 1)) && kept.all fun a => decide (a ∈ names) && decide (kept.count a = 1))
def spAre (K : PySem.W.Frag) : Sp := fun vs H Q _ => ∃ (tl tk : Addr) (names kept : List Str), vs = [.ref tl, .ref tk] ∧ TupX K H tl (names.map V.str) ∧ TupX K H tk (kept.map V.str) ∧ (∀ a ∈ names, a.length ≤ 1000) ∧ kept.length ≤ 500 ∧
  ∀ H', Same H H' → Q (.bl (areLists names kept)) H'
theorem flat_strs {names : List Str} : (names.map V.str).all flatV = true := by
  rw [List.all_map]
  exact List.all_eq_true.mpr fun _ _ => rfl
/-- one more answer is put down -/
theorem put_bl {H H2 : Hp} {D : Addr} {xs : List Str} {g : Str → Bool} {i : Nat} {nm : Str} {b : Bool} (nD : H D = none) (s2 : Same H H2) (hD : H2 D = some (.lst (((xs.take i).map g).map V.bl))) (en : xs[i]? = some nm) (hx : xs.length ≤ 500) (e : b = g nm) :
    ∃ acc, H2 D = some (.lst acc) ∧ acc.length < sizeLine ∧ Same H (upd H2 D (.lst (acc ++ [V.bl b]))) ∧ upd H2 D (.lst (acc ++ [V.bl b])) D = some (.lst (((xs.take (i + 1)).map g).map V.bl)) := by
  refine ⟨_, hD, ?_, same_at s2 nD, ?_⟩
  · rw [List.length_map, List.length_map, List.length_take]
    exact small1000 (by omega)
  · rw [upd_same, take_at en, List.map_append, List.map_append, e]
    rfl
theorem int_one {n : Nat} : decide (V.int ((n : Nat) : Int) = V.int 1) = decide (n = 1) := by
  by_cases e : n = 1
  · subst e
    rfl
  · rw [decide_eq_false e, decide_eq_false]
    intro z
    have := V.int.inj z
    omega
section
variable {P : Program} {w : World} {K : PySem.W.Frag} {mg : Str → Option Value} {base : Heap}
theorem ok_are {f fN : Addr} {fd fdN : FuncData} (F : Fun K "are_lists" "are_lists" s_are_lists f fd) (T : Bi mg) (C : Cst K mg) (N : Dn K mg "is_name" s_is_name ["value"] fN fdN) : FnOk P w K mg base CX0 2 f fd ["lists", "kept"] (spAre K) := by
  have GN : FnOk P w K mg base CX0 1 fN fdN ["value"] spName := ok_name N.F T C
  have nd := sc_are_lists.nd
  refine F.ok sc_are_lists (fun vs H Q E h => ?_) (fun cdv A outer s H vs Q E hr h => ?_)
  · obtain ⟨a, b, x, y, rfl, _⟩ := h
    rfl
  · obtain ⟨tl, tk, names, kept, rfl, hL, hK, hn, hk, k⟩ := h
    obtain ⟨t4, g4⟩ := C.most4
    have hr1 : Room 1 (A.deeper (PyProof.Rows.envOfC "are_lists" (defScope s_are_lists) s.heap.objs.size f cdv)) := hr
    refine ⟨_, pss_cons (ps_if (pt_not (pt_chain op_le op_le pe_int (pe_callB call_len_seq (by rfl) T.len PySem.boot_len (pa_cons (pv 0) pa_nil)) (pe_glob (v := .int 4) rfl g4 ⟨_, rfl⟩))) (pss_one (ps_ret pe_bl)) pss_nil)
      (pss_cons (ps_if (pt_not (pt_val (pe_callB (cr_all (by rfl)) (by rfl) C.all (by decide +kernel) (pa_cons (pe_lc (own := [("name", 2)]) (g := gName 2) (tt := tYes) (by rfl) nd (pi_tup (pv 0))
          (blkOk_by (own := [("name", 2)]) (N := ["lists", "kept", "name"]) (sc := defScope s_are_lists) (by decide +kernel)) (fun _ _ _ _ _ => pg_name (i := 2) nd rfl (Or.inl rfl))
          (fun _ _ _ _ _ => pts_nil) (fun _ _ _ _ _ => pe_and (pe_call GN hr1 (by rfl) N.g N.F.kp N.b .nil pass0 (pa_cons (pv 2) pa_nil)) (pe_one (pe_cmpR op_eq
            (pe_mG (r := rCntT K) (ty := fun x H => ∃ a xs, x = .ref a ∧ TupX K H a xs) tyok_tup PySem.F.plainAttrs_tuple PySem.F.slot_tuple_count PySem.F.type_tuple_count mt_tcount (pv 0) (pa_cons (pv 2) pa_nil)) pe_int (nomark _))))) pa_nil)))) (pss_one (ps_ret pe_bl)) pss_nil)
      (pss_one (ps_ret (pe_callB (cr_all (by rfl)) (by rfl) C.all (by decide +kernel) (pa_cons (pe_lc (own := [("name", 2)]) (g := gName 2) (tt := tYes) (by rfl) nd (pi_tup (pv 1))
          (blkOk_by (own := [("name", 2)]) (N := ["lists", "kept", "name"]) (sc := defScope s_are_lists) (by decide +kernel)) (fun _ _ _ _ _ => pg_name (i := 2) nd rfl (Or.inl rfl))
          (fun _ _ _ _ _ => pts_nil) (fun _ _ _ _ _ => pe_and (pe_cmpR (r := rIn K false) op_in_seq (pv 2) (pv 0) (by rfl)) (pe_one (pe_cmpR op_eq
            (pe_mG (r := rCntT K) (ty := fun x H => ∃ a xs, x = .ref a ∧ TupX K H a xs) tyok_tup PySem.F.plainAttrs_tuple PySem.F.slot_tuple_count PySem.F.type_tuple_count mt_tcount (pv 1) (pa_cons (pv 2) pa_nil)) pe_int (nomark _))))) pa_nil))))), ?_⟩
    refine ⟨_, rfl, tl, _, rfl, .inr hL.sq, _, _, rfl, rfl, _, rfl, ?_⟩
    rw [List.length_map]
    by_cases a1 : 1 ≤ names.length
    rotate_left
    · rw [decide_eq_false (show ¬ (1 : Int) ≤ (names.length : Int) by omega)]
      have := k H (fun _ _ e => e)
      unfold areLists at this
      rw [decide_eq_false a1, Bool.false_and, Bool.false_and] at this
      exact iteF ⟨_, rfl, iteT this⟩
    rw [decide_eq_true (show (1 : Int) ≤ (names.length : Int) by omega)]
    refine iteT ⟨_, _, rfl, rfl, _, rfl, ?_⟩
    by_cases a4 : names.length ≤ 4
    rotate_left
    · rw [decide_eq_false (show ¬ (names.length : Int) ≤ 4 by omega)]
      have := k H (fun _ _ e => e)
      unfold areLists at this
      rw [decide_eq_false a4, Bool.and_false, Bool.false_and] at this
      exact iteT this
    rw [decide_eq_true (show (names.length : Int) ≤ 4 by omega)]
    have kF : areLists names kept = ((names.all fun a => nameB a && decide (names.count a = 1)) && kept.all fun a => decide (a ∈ names) && decide (kept.count a = 1)) := by
      unfold areLists
      rw [decide_eq_true a1, decide_eq_true a4]
      rfl
    rw [kF] at k
    refine iteF ?_
    refine ⟨_, rfl, tl, rfl, ⟨_, hL.sq⟩, fun D nD => ?_⟩
    refine lc_tup (K := K) (a := tl) (xs := names.map V.str) (fun i H' => Same H H' ∧ H' D = some (.lst (((names.take i).map fun a => nameB a && decide (names.count a = 1)).map V.bl))) ⟨same_upd nD, upd_same⟩ (fun i H' _ p => (hL.same p.1).sq) ?_ ?_
    · rintro i x H' hx ⟨sH, hD⟩
      rw [List.getElem?_map] at hx
      cases en : names[i]? with
      | none => rw [en] at hx; cases hx
      | some nm =>
        rw [en] at hx
        cases hx
        refine ⟨rfl, _, rfl, nm, rfl, hn nm (List.mem_of_getElem? en), fun H2 s2 => ?_⟩
        have hD2 := s2 _ _ hD
        have s2 := sH.trans s2
        cases en2 : nameB nm with
        | false => exact ⟨_, rfl, iteF (put_bl nD s2 hD2 en (by omega) (by rw [en2]; rfl))⟩
        | true =>
          refine ⟨_, rfl, iteT ⟨_, rfl, ⟨tl, _, rfl, hL.same s2⟩, _, rfl, tl, _, _, rfl, rfl, (hL.same s2).sq, rfl, flat_strs, rfl, ?_⟩⟩
          rw [count_str, int_one]
          exact put_bl nD s2 hD2 en (by omega) (by rw [en2]; rfl)
    · rintro H2 ⟨s2, hD2⟩
      rw [List.length_map, List.take_length] at hD2
      refine ⟨D, _, rfl, .inl (.inl hD2), ?_⟩
      have e1 : (names.map fun a => nameB a && decide (names.count a = 1)).all id = names.all fun a => nameB a && decide (names.count a = 1) := by
        rw [List.all_map]
        rfl
      rw [e1]
      refine ⟨_, rfl, ?_⟩
      refine ite2 (fun c => ?_) (fun c => ?_)
      · have := k H2 s2
        rw [Bool.not_eq_true'] at c
        rw [c, Bool.false_and] at this
        exact this
      have c' : (names.all fun a => nameB a && decide (names.count a = 1)) = true := by
        cases z : names.all fun a => nameB a && decide (names.count a = 1) with
        | true => rfl
        | false => rw [z] at c; exact absurd rfl c
      rw [c', Bool.true_and] at k
      clear c
      refine ⟨_, rfl, tk, rfl, ⟨_, (hK.same s2).sq⟩, fun D3 n3 => ?_⟩
      have n3' : H D3 = none := s2.free n3
      refine lc_tup (K := K) (a := tk) (xs := kept.map V.str) (fun i H' => Same H H' ∧ H' D3 = some (.lst (((kept.take i).map fun a => decide (a ∈ names) && decide (kept.count a = 1)).map V.bl))) ⟨s2.trans (same_upd n3), upd_same⟩ (fun i H' _ p => (hK.same p.1).sq) ?_ ?_
      · rintro i x H' hx ⟨sH, hD⟩
        rw [List.getElem?_map] at hx
        cases en : kept[i]? with
        | none => rw [en] at hx; cases hx
        | some nm =>
          rw [en] at hx
          cases hx
          refine ⟨rfl, _, rfl, _, rfl, tl, _, rfl, .inr (hL.same sH).sq, rfl, flat_strs, ?_⟩
          show ∃ c, V.bl (inV (.str nm) (names.map V.str)) = V.bl c ∧ _
          rw [inV_str]
          cases en2 : decide (nm ∈ names) with
          | false => exact ⟨_, rfl, iteF (put_bl n3' sH hD en hk (by rw [en2]; rfl))⟩
          | true =>
            refine ⟨_, rfl, iteT ⟨_, rfl, ⟨tk, _, rfl, hK.same sH⟩, _, rfl, tk, _, _, rfl, rfl, (hK.same sH).sq, rfl, flat_strs, rfl, ?_⟩⟩
            rw [count_str, int_one]
            exact put_bl n3' sH hD en hk (by rw [en2]; rfl)
      · rintro H4 ⟨s4, hD4⟩
        rw [List.length_map, List.take_length] at hD4
        refine ⟨D3, _, rfl, .inl (.inl hD4), ?_⟩
        have e2 : (kept.map fun a => decide (a ∈ names) && decide (kept.count a = 1)).all id = kept.all fun a => decide (a ∈ names) && decide (kept.count a = 1) := by
          rw [List.all_map]
          rfl
        rw [e2]
        exact k H4 s4
end
end W1
end
section
set_option linter.all false
set_option maxRecDepth 100000
set_option maxHeartbeats 1000000
/-! C7: the library's rules with the module's objects named, for use where the context is bound -/
namespace Cm
open PySem L2
section
variable {X : Cx} {K : PySem.W.Frag}
theorem pe_bmK (hK : X.K = K) {o e : Expr} {es : List Expr} {to : TE} {t : TA} {name : Str} {apos cpos : Pos} {T id : String} {r : V → List V → Hp → VK → Prop} (pa : PlainAttrs T) (slot : Slot T name id) (hty : typeOf (.builtin id) = pure (.type "method_descriptor")) (hm : MtR X id r) (ho : PE X o to) (ha : PA X (e :: es) t)
    (h1 : attributeBase o name X.env (eval o X.env) = eval o X.env := by rfl)
    (h2 : (((backTo cpos (starEach (e :: es) X.env)).all fun x => !x.1) && (backToKw cpos (keywordEach [] X.env)).all (fun x => x.1.isSome) && decide (((e :: es).length + ([] : List Keyword).length + if ([] : List Keyword).isEmpty = true then 0 else 1) < 30)) = true := by rfl)
    (h3 : (apos.endLine == cpos.line) = true := by rfl) (h4 : starEach (e :: es) X.env = (false, eval e X.env) :: starEach es X.env := by rfl) (h5 : ((backTo cpos (starEach es X.env)).any fun x => x.1) = false := by rfl) :
    PE X (.Call (.Attribute o name apos) (e :: es) [] cpos) (tBM K T r to t) := by
  subst hK
  exact pe_bm pa slot hty hm ho ha h1 h2 h3 h4 h5
def rLenK (K : PySem.W.Frag) : List V → Hp → VK → Prop := fun xs H Q => ∃ p ys, xs = [.ref p] ∧ (SqL K H p ys ∨ SqT K H p ys) ∧ Q (.int ys.length) H
theorem call_lenK (hK : X.K = K) : CallR X (.builtin "len") (rLenK K) := by
  subst hK
  exact call_len_seq
def rTupK (K : PySem.W.Frag) : List V → Hp → VK → Prop := fun xs H Q => ∃ p ys, xs = [V.ref p] ∧ ((SqL K H p ys ∧ ∀ l, H l = none → Q (.ref l) (upd H l (.tup ys))) ∨ (SqT K H p ys ∧ Q (.ref p) H))
theorem call_tupK (hK : X.K = K) : CallR X (.type "tuple") (rTupK K) := by
  subst hK
  exact call_tuple_of
end
end Cm
namespace Cm
open PySem L2
def rTupFK (K : PySem.W.Frag) : List V → Hp → VK → Prop := fun xs H Q => ∃ p ys, xs = [V.ref p] ∧ SqL K H p ys ∧ ∀ l o, H l = none → o.dict = none → Q (.ref l) (upd H l (.frz o (.tup ys)))
theorem call_tupFK {X : Cx} {K : PySem.W.Frag} (hK : X.K = K) : CallR X (.type "tuple") (rTupFK K) := by
  subst hK
  exact call_tuple_ofF
end Cm
end
section
set_option maxRecDepth 100000
set_option maxHeartbeats 4000000
/-! P6: checked_rows -/
namespace W1
open PySem L2 Cm
/-- a path's number -/
def Lo (i : Int) : Prop := 0 ≤ i ∧ i ≤ 1000
def tIB (C : Addr) (W : WX) (te : TE) : TS := fun _ σ H => te σ H fun v H1 => ∃ tp, ∃ p : List Int, v = .ref tp ∧ H1 tp = some (.tup (p.map V.int)) ∧ p.length ≤ 500 ∧ (∀ i ∈ p, Lo i) ∧ ∀ d H2, H1 d = none → TK H1 H2 → (∀ b o, H1 b = some o → H2 b = some o) → H2 d = some (.xd [("path", v)]) → W (.ref C) (some d) σ H2
/-- raise InvalidBlock(e) -/
def RaisesIB (P : Program) (w : World) (K : PySem.W.Frag) (mg : Str → Option Value) (base : Heap) (k : Nat) (C : Addr) : Prop :=
  ∀ (X : Cx) (W : WX) (e : Expr) (te : TE) (p1 p2 p3 : Pos), X.prog = P → X.w = w → X.K = K → X.mg = mg → X.base = base → X.calm = true → Room k X.A → Gl X "InvalidBlock" → Takes X W → PE X e te →
    starEach [e] X.env = (false, eval e X.env) :: starEach [] X.env → PS X (.Raise (some (.Call (.Name "InvalidBlock" p1) [e] [] p2)) none p3) (tIB C W te)
def RowV (H : Hp) (v : V) (r : List Int × Stm) : Prop := rowIt r.1 r.2 v H
/-- the first fault, in reading order -/
def faultAt (names : List Str) : List (List Int × Stm) → Option (List Int)
  | [] => none
  | r :: rs => if faulty names r.1 r.2 then some r.1 else faultAt names rs
def judged (names : List Str) (rows : List (List Int × Stm)) : Option (List Int) := match faultAt names rows with
  | some p => some p
  | none => if rows.length > 20 then some [] else none
def dW : Nat := 4
def spRows (K : PySem.W.Frag) (C : Addr) : Sp := fun vs H Q E => ∃ (tl tb : Addr) (names : List Str) (x : List Stm), vs = [.ref tl, .ref tb] ∧ SqT K H tl (names.map V.str) ∧ Td H (.ref tb) (.tuple (toDs x)) ∧ depths x ≤ dW ∧ x.length ≤ 500 ∧ slims x ∧ (∀ r ∈ rowsL [] 0 x, r.2.flatN) ∧ (rowsL [] 0 x).length ≤ 500 ∧
  (judged names (rowsL [] 0 x) = none → ∀ t rs H', (∀ b o, H b = some o → H' b = some o) → H' t = some (.tup rs) → H t = none → Paired (RowV H') rs (rowsL [] 0 x) → Q (.ref t) H') ∧
  (∀ p, judged names (rowsL [] 0 x) = some p → ∀ d tp H', (∀ b o, H b = some o → H' b = some o) → H d = none → H' d = some (.xd [("path", .ref tp)]) → H' tp = some (.tup (p.map V.int)) → E (.ref C) (some d) H')
theorem lo_snoc {p : List Int} {z : Int} (hp : ∀ i ∈ p, Lo i) (h0 : 0 ≤ z) (h1 : z ≤ 1000) : ∀ i ∈ p ++ [z], Lo i := fun i h => by
  rcases List.mem_append.mp h with h | h
  · exact hp i h
  · rw [List.mem_singleton] at h
    subst h
    exact ⟨h0, h1⟩
mutual
theorem rowsS_plen : ∀ (s : Stm) (p : List Int), ∀ r ∈ rowsS p s, r.1.length ≤ p.length + 2 * s.depth
  | .ask _ _ _ _ x, p, r, h => by
    have := rowsL_plen x (p ++ [0]) 0 r (by simpa [rowsS] using h)
    simp only [List.length_append, List.length_cons, List.length_nil, Stm.depth] at this ⊢
    omega
  | .iff _ x y, p, r, h => by
    rcases (by simpa [rowsS] using h : r ∈ rowsL (p ++ [0]) 0 x ∨ r ∈ rowsL (p ++ [1]) 0 y) with h | h
    · have := rowsL_plen x (p ++ [0]) 0 r h
      simp only [List.length_append, List.length_cons, List.length_nil, Stm.depth] at this ⊢
      omega
    · have := rowsL_plen y (p ++ [1]) 0 r h
      simp only [List.length_append, List.length_cons, List.length_nil, Stm.depth] at this ⊢
      omega
  | .whl _ x, p, r, h => by
    have := rowsL_plen x (p ++ [0]) 0 r (by simpa [rowsS] using h)
    simp only [List.length_append, List.length_cons, List.length_nil, Stm.depth] at this ⊢
    omega
  | .tms _ x, p, r, h => by
    have := rowsL_plen x (p ++ [0]) 0 r (by simpa [rowsS] using h)
    simp only [List.length_append, List.length_cons, List.length_nil, Stm.depth] at this ⊢
    omega
  | .move _ _, p, r, h => by simp [rowsS] at h
  | .part _ _, p, r, h => by simp [rowsS] at h
  | .tell _ _, p, r, h => by simp [rowsS] at h
  | .fin, p, r, h => by simp [rowsS] at h
theorem rowsL_plen : ∀ (x : List Stm) (p : List Int) (i : Nat), ∀ r ∈ rowsL p i x, r.1.length ≤ p.length + (2 * depths x + 1)
  | [], p, i, r, h => by simp [rowsL] at h
  | s :: l, p, i, r, h => by
    rcases (by simpa [rowsL] using h : r = (p ++ [(i : Int)], s) ∨ r ∈ rowsS (p ++ [(i : Int)]) s ∨ r ∈ rowsL p (i + 1) l) with h | h | h
    · subst h
      simp only [List.length_append, List.length_cons, List.length_nil]
      omega
    · have := rowsS_plen s (p ++ [(i : Int)]) r h
      simp only [List.length_append, List.length_cons, List.length_nil, depths] at this ⊢
      omega
    · have := rowsL_plen l p (i + 1) r h
      simp only [depths] at this ⊢
      omega
end
mutual
theorem rowsS_lo : ∀ (s : Stm) (p : List Int), (∀ i ∈ p, Lo i) → s.slim → ∀ r ∈ rowsS p s, ∀ i ∈ r.1, Lo i
  | .ask _ _ _ _ x, p, hp, hs, r, h => rowsL_lo x (p ++ [0]) 0 (lo_snoc hp (by decide) (by decide)) hs.2 (by have := hs.1; omega) r (by simpa [rowsS] using h)
  | .iff _ x y, p, hp, hs, r, h => by
    rcases (by simpa [rowsS] using h : r ∈ rowsL (p ++ [0]) 0 x ∨ r ∈ rowsL (p ++ [1]) 0 y) with h | h
    · exact rowsL_lo x (p ++ [0]) 0 (lo_snoc hp (by decide) (by decide)) hs.1.2 (by have := hs.1.1; omega) r h
    · exact rowsL_lo y (p ++ [1]) 0 (lo_snoc hp (by decide) (by decide)) hs.2.2 (by have := hs.2.1; omega) r h
  | .whl _ x, p, hp, hs, r, h => rowsL_lo x (p ++ [0]) 0 (lo_snoc hp (by decide) (by decide)) hs.2 (by have := hs.1; omega) r (by simpa [rowsS] using h)
  | .tms _ x, p, hp, hs, r, h => rowsL_lo x (p ++ [0]) 0 (lo_snoc hp (by decide) (by decide)) hs.2 (by have := hs.1; omega) r (by simpa [rowsS] using h)
  | .move _ _, p, _, _, r, h => by simp [rowsS] at h
  | .part _ _, p, _, _, r, h => by simp [rowsS] at h
  | .tell _ _, p, _, _, r, h => by simp [rowsS] at h
  | .fin, p, _, _, r, h => by simp [rowsS] at h
theorem rowsL_lo : ∀ (x : List Stm) (p : List Int) (i : Nat), (∀ j ∈ p, Lo j) → slims x → i + x.length ≤ 1000 → ∀ r ∈ rowsL p i x, ∀ j ∈ r.1, Lo j
  | [], p, i, _, _, _, r, h => by simp [rowsL] at h
  | s :: l, p, i, hp, hs, hl, r, h => by
    rw [List.length_cons] at hl
    have hq : ∀ j ∈ p ++ [(i : Int)], Lo j := lo_snoc hp (by omega) (by omega)
    rcases (by simpa [rowsL] using h : r = (p ++ [(i : Int)], s) ∨ r ∈ rowsS (p ++ [(i : Int)]) s ∨ r ∈ rowsL p (i + 1) l) with h | h | h
    · subst h
      exact hq
    · exact rowsS_lo s (p ++ [(i : Int)]) hq hs.1 r h
    · exact rowsL_lo l p (i + 1) hp hs.2 (by omega) r h
end
theorem RowV.mono {H H' : Hp} (t : TK H H') {v : V} {r : List Int × Stm} (h : RowV H v r) : RowV H' v r := rowIt_mono r.1 r.2 v H H' t h
theorem rows_mono {H H' : Hp} (t : TK H H') : ∀ {vs : List V} {rs : List (List Int × Stm)}, Paired (RowV H) vs rs → Paired (RowV H') vs rs
  | _, _, .nil => .nil
  | _, _, .cons a b => .cons (RowV.mono t a) (rows_mono t b)
theorem rows_snoc {H : Hp} {v : V} {r : List Int × Stm} (h : RowV H v r) : ∀ {vs : List V} {rs : List (List Int × Stm)}, Paired (RowV H) vs rs → Paired (RowV H) (vs ++ [v]) (rs ++ [r])
  | _, _, .nil => .cons h .nil
  | _, _, .cons a b => .cons a (rows_snoc h b)
theorem rows_len {H : Hp} : ∀ {vs : List V} {rs : List (List Int × Stm)}, Paired (RowV H) vs rs → vs.length = rs.length
  | _, _, .nil => rfl
  | _, _, .cons _ b => by rw [List.length_cons, List.length_cons, rows_len b]
theorem fault_app {names : List Str} : ∀ {a b : List (List Int × Stm)}, faultAt names a = none → faultAt names (a ++ b) = faultAt names b
  | [], _, _ => rfl
  | r :: rs, b, h => by
    show (if faulty names r.1 r.2 then some r.1 else faultAt names (rs ++ b)) = _
    unfold faultAt at h
    cases z : faulty names r.1 r.2 with
    | true => rw [z, if_pos rfl] at h; cases h
    | false =>
      rw [z] at h
      rw [if_neg (by simp)] at h
      rw [if_neg (by simp)]
      exact fault_app h
section
variable {P : Program} {w : World} {K : PySem.W.Frag} {mg : Str → Option Value} {base : Heap}
theorem ok_rows {kI : Nat} {C : Addr} {f fN fF fB fW : Addr} {fd fdN fdF fdB fdW : FuncData} (F : Fun K "checked_rows" "checked_rows" s_checked_rows f fd) (T : Bi mg) (Cs : Cst K mg) (G : Tabs K w mg) (Wt : Told K mg) (N : Dn K mg "is_number" s_is_number ["value", "most"] fN fdN)
    (Fl : Dn K mg "is_faulty" s_is_faulty ["lists", "path", "statement"] fF fdF) (B : Dn K mg "blocks_of" s_blocks_of ["statement"] fB fdB) (Wk : Dn K mg "walk" s_walk ["block", "around"] fW fdW) (RB : RaisesIB P w K mg base kI C) (hkI : kI ≤ 12) : Em.FnOk2 P w K mg base 13 f fd ["lists", "block"] (spRows K C) := by
  have GF : FnOk P w K mg base CX0 2 fF fdF ["lists", "path", "statement"] (spFaulty K) := ok_faulty Fl.F T Cs G Wt N
  have GW : Gm.YFn P w K mg base (lvW dW) fW fdW ["block", "around"] (spWalk dW) := ok_walk Wk T Cs G B dW
  have nd := sc_checked_rows.nd
  obtain ⟨t20, g20⟩ := Cs.most20
  refine fun2 F sc_checked_rows (fun vs H Q E h => ?_) (fun cdv A outer s H vs Q E Po hr h => ?_)
  · obtain ⟨a, b, x, y, rfl, _⟩ := h
    rfl
  · obtain ⟨tl, tb, names, x, rfl, hL, hT, hd, hl, hs, hf, hn, kq, ke⟩ := h
    have hr2 : Room 2 (A.deeper (PyProof.Rows.envOfC "checked_rows" (defScope s_checked_rows) s.heap.objs.size f cdv)) := hr.mono (by decide)
    have hrW : Room (lvW dW) (A.deeper (PyProof.Rows.envOfC "checked_rows" (defScope s_checked_rows) s.heap.objs.size f cdv)) := hr.mono (by decide)
    have hrW1 : Room (lvW dW + 1) (A.deeper (PyProof.Rows.envOfC "checked_rows" (defScope s_checked_rows) s.heap.objs.size f cdv)) := hr.mono (by decide)
    have hrI : Room kI (A.deeper (PyProof.Rows.envOfC "checked_rows" (defScope s_checked_rows) s.heap.objs.size f cdv)) := hr.mono hkI
    refine ⟨_, Em.pss2_cons (Em.ps2_of fun _ => ps_set (i := 2) nd rfl (Or.inl rfl) (pe_lst pa_nil))
      (Em.pss2_cons (Em.ps2_forY (g := gTup K 2 _) ⟨rfl, rfl⟩ hrW1 (fun _ => Em.pyen_call GW hrW (by rfl) Wk.g Wk.F.kp Wk.b .nil (pa_cons (pv 1) (pa_cons (pe_tup pa_nil) pa_nil))) (fun _ => pg_tup (by rfl) (pgs_cons (pg_name (i := 3) nd rfl (Or.inl rfl)) (pgs_cons (pg_name (i := 4) nd rfl (Or.inl rfl)) pgs_nil)))
        (fun pn xe tk => pss_cons (ps_if (pt_val (pe_call GF hr2 (by rfl) Fl.g Fl.F.kp Fl.b .nil pass0 (pa_cons (pv 0) (pa_cons (pv 3) (pa_cons (pv 4) pa_nil))))) (pss_one (RB _ _ _ _ _ _ _ rfl rfl rfl rfl rfl rfl hrI (by rfl) tk (pv 3) rfl)) pss_nil)
          (pss_one (ps_expr (pe_bmK (K := K) rfl PySem.F.plainAttrs_list PySem.F.slot_list_append PySem.F.type_list_append mt_append (pv 2) (pa_cons (pe_tup (pa_cons (pv 3) (pa_cons (pv 4) pa_nil))) pa_nil))))))
      (Em.pss2_cons (Em.ps2_raise fun pn xe tk => ps_if (pt_cmpR op_gt (pe_callB (call_lenK (K := K) rfl) (by rfl) T.len PySem.boot_len (pa_cons (pv 2) pa_nil)) (pe_glob (v := .int 20) rfl g20 ⟨_, rfl⟩) (nomark _)) (pss_one (RB _ _ _ _ _ _ _ rfl rfl rfl rfl rfl rfl hrI (by rfl) tk (pe_tup pa_nil) rfl)) pss_nil)
      (Em.pss2_one (Em.ps2_ret (Em.pe2_of fun _ => pe_callTy (call_tupK (K := K) rfl) (by rfl) T.tuple (by decide +kernel) (pa_cons (pv 2) pa_nil)))))), ?_⟩
    have hpl := rowsL_plen x [] 0
    have hlo := rowsL_lo x [] 0 (fun _ z => by cases z) hs (by omega)
    generalize hR : rowsL [] 0 x = R at hf hn kq ke hpl hlo
    refine ⟨by simp, fun l nl => ?_⟩
    have s1 := same_upd (o := .lst []) nl
    refine ⟨_, rfl, by simp, fun e ne => ?_⟩
    have s2 := s1.trans (same_upd (o := .tup []) ne)
    have el : upd (upd H l (.lst [])) e (.tup []) l = some (.lst []) := same_upd ne _ _ upd_same
    refine ⟨rowIts (rowsL [] 0 x), ⟨tb, e, x, [], rfl, hT.mono (TK.same s2), upd_same, hd, hl, hs, by decide, rfl⟩, ?_⟩
    rw [hR]
    generalize upd (upd H l (.lst [])) e (.tup []) = Ha at s2 el
    refine ⟨fun its σ H' => ∃ i v3 v4 rs, its = rowIts (R.drop i) ∧ i ≤ R.length ∧ σ = [some (.ref tl), some (.ref tb), some (.ref l), v3, v4] ∧ Same H H' ∧ H' l = some (.lst rs) ∧ Paired (RowV H') rs (R.take i) ∧ faultAt names (R.take i) = none,
      ⟨0, none, none, [], rfl, Nat.zero_le _, rfl, s2, el, .nil, rfl⟩, ?_, ?_⟩
    · rintro σ H1 ⟨i, v3, v4, rs, ei, hi, rfl, sH, hl1, pr, hF⟩ H' hHS
      have ei' : i = R.length := by
        have : (R.drop i).length = 0 := by
          have := congrArg List.length ei
          rw [rowIts, List.length_map] at this
          exact this.symm
        rw [List.length_drop] at this
        omega
      subst ei'
      rw [List.take_length] at pr hF
      have lr := rows_len pr
      have sH' : Same H H' := fun b o z => hHS b o (sH b o z)
      have hl' := hHS _ _ hl1
      have pr := rows_mono (fun b o z => hHS b _ z : TK H1 H') pr
      refine ⟨_, rfl, l, rs, rfl, .inl (SqL.of hl'), _, _, rfl, rfl, _, rfl, ?_⟩
      rw [lr]
      by_cases c : R.length > 20
      · rw [decide_eq_true (show (20 : Int) < (R.length : Int) by omega)]
        have hj : judged names R = some [] := by
          unfold judged
          rw [hF]
          exact if_pos c
        refine iteT ⟨by simp, fun e2 ne2 => ⟨e2, [], rfl, upd_same, by simp, (fun _ z => by cases z), fun d H3 nd3 tk3 sub3 e3 => ?_⟩⟩
        have s3 := same_upd (o := .tup []) ne2
        exact ke [] hj d e2 H3 (fun b o z => sub3 _ _ (s3 _ _ (sH' _ _ z))) (sH'.free (s3.free nd3)) e3 (tk3 _ _ upd_same)
      · rw [decide_eq_false (show ¬ (20 : Int) < (R.length : Int) by omega)]
        have hj : judged names R = none := by
          unfold judged
          rw [hF]
          exact if_neg c
        refine iteF ⟨_, rfl, l, rs, rfl, .inl ⟨SqL.of hl', fun t nt => ?_⟩⟩
        have s3 := same_upd (o := .tup rs) nt
        exact kq hj t rs _ (fun b o z => s3 _ _ (sH' _ _ z)) upd_same (sH'.free nt) (rows_mono (TK.same s3) pr)
    · rintro it its' σ H1 ⟨i, v3, v4, rs, ei, hi, rfl, sH, hl1, pr, hF⟩ v Hg H' hit hHS hTS
      obtain ⟨r, er⟩ : ∃ r, R[i]? = some r := by
        cases z : R[i]? with
        | some r => exact ⟨r, rfl⟩
        | none =>
          rw [List.getElem?_eq_none_iff] at z
          rw [List.drop_of_length_le z] at ei
          cases ei
      have hiR := (List.getElem?_eq_some_iff.mp er).1
      rw [List.drop_eq_getElem_cons hiR, (List.getElem?_eq_some_iff.mp er).2] at ei
      have ei1 := (List.cons.inj ei).1
      have ei2 : its' = rowIts (R.drop (i + 1)) := (List.cons.inj ei).2
      subst ei1 ei2
      obtain ⟨t, tp, u, rfl, ht, htp, tu⟩ := rowIt_mono _ _ _ _ _ hTS hit
      have sH' : Same H H' := fun b o z => hHS b o (sH b o z)
      have hl' := hHS _ _ hl1
      have pr := rows_mono (fun b o z => hHS b _ z : TK H1 H') pr
      refine ⟨t, _, rfl, .inl (.inl ht), rfl, _, _, rfl, _, _, rfl, rfl, ?_⟩
      refine ⟨_, rfl, _, rfl, _, rfl, tl, tp, u, names, r.1, r.2, rfl, sqT_same hL sH', .inl (.inl htp), tu, hf r (List.mem_of_getElem? er), fun H2 s2' => ⟨_, rfl, ?_⟩⟩
      have sH2 := sH'.trans s2'
      refine ite2 (fun c => ?_) (fun c => ?_)
      · refine ⟨_, rfl, tp, r.1, rfl, s2' _ _ htp, ?_, hlo r (List.mem_of_getElem? er), fun d H3 nd3 tk3 sub3 e3 => ?_⟩
        · have := hpl r (List.mem_of_getElem? er)
          have hd' : depths x ≤ 4 := hd
          simp only [List.length_nil] at this
          omega
        · have hj : judged names R = some r.1 := by
            unfold judged
            have : faultAt names R = some r.1 := by
              conv => lhs; rw [← List.take_append_drop i R, List.drop_eq_getElem_cons hiR, (List.getElem?_eq_some_iff.mp er).2]
              rw [fault_app hF]
              unfold faultAt
              rw [if_pos c]
            rw [this]
          exact ke r.1 hj d tp H3 (fun b o z => sub3 _ _ (sH2 _ _ z)) (sH2.free nd3) e3 (tk3 _ _ (s2' _ _ htp))
      · refine ⟨_, rfl, .inl ⟨rfl, _, SqL.of (s2' _ _ hl')⟩, _, rfl, _, rfl, small_le (by simp), fun t2 nt2 => ?_⟩
        have s3 := same_upd (o := .tup [.ref tp, u]) nt2
        have hl3 := s3 _ _ (s2' _ _ hl')
        have k3 : TK H' (upd H2 t2 (.tup [.ref tp, u])) := (TK.same s2').trans (TK.same s3)
        have e3 : upd H2 t2 (.tup [.ref tp, u]) t2 = some (.tup [.ref tp, u]) := upd_same
        have sH3 := sH2.trans s3
        have nt0 : H2 t2 = none := nt2
        generalize upd H2 t2 (.tup [.ref tp, u]) = H3 at hl3 k3 e3 sH3
        have lr := rows_len pr
        have tkl : TK H3 (upd H3 l (.lst (rs ++ [.ref t2]))) := fun b xs z => by
          rw [upd_ne (ne_of z hl3 (by intro q; cases q))]
          exact z
        refine ⟨l, rs, .ref t2, rfl, rfl, hl3, ?_, k3.trans tkl, i + 1, _, _, rs ++ [.ref t2], rfl, hiR, rfl, same_at sH3 nl, upd_same, ?_, ?_⟩
        · rw [lr, List.length_take]
          exact small1000 (by omega)
        · rw [take_at er]
          exact rows_snoc ⟨t2, tp, u, rfl, tkl _ _ e3, tkl _ _ (k3 _ _ htp), (tu.mono k3).mono tkl⟩ (rows_mono (k3.trans tkl) pr)
        · rw [take_at er, fault_app hF]
          unfold faultAt
          rw [if_neg (by simpa using c)]
          rfl
end
end W1
end
section
set_option linter.all false
set_option maxRecDepth 100000
set_option maxHeartbeats 2000000
/-! R3: raise InvalidBlock(path) -/
namespace W1
open PySem L2 Cm
def okPath (K : PySem.W.Frag) (H : Hp) (v : V) : Prop := ∃ (a : Addr) (l : List Int), v = .ref a ∧ H a = some (.tup (l.map V.int)) ∧ l.length ≤ 500 ∧ ∀ i ∈ l, Lo i
theorem lo_log {i : Int} (h : Lo i) : i.natAbs.log2 < 1920 := by
  obtain ⟨h0, h1⟩ := h
  have e : i.natAbs ≤ 1000 := by omega
  rcases Nat.eq_zero_or_pos i.natAbs with z | z
  · rw [z]
    decide
  · have : i.natAbs.log2 < 10 := (Nat.log2_lt (by omega)).mpr (by omega)
    omega
/-- f'some text {path}' -/
theorem toText_fstr {X : Cx} {m : Str} {j : Nat} {q1 q2 q3 q4 : Pos} {k : Nat} {a : V} {v : V} {H : Hp} (hr : Room k X.A) (hN : X.N[1]? = some ("path" : Str)) (hv : Vis X.env.scope ("path" : Str)) (hm : m.length ≤ 1000) (ok : okPath X.K H v) :
    ToText X (.JoinedStr [.Constant (.str m) j q1, .FormattedValue (.Name "path" q2) (-1) none q3] q4) [some a, some v, none] H := by
  obtain ⟨t, l, rfl, ht, hl, hlo⟩ := ok
  have hs := sizeLine_eq
  have hh : (Str.empty : Str).length = 0 := rfl
  refine ⟨_, pe_joined (.cons pe_str (.cons (pe_fmtI hr (pv 1 hN hv)) .nil)), fun Q k => ?_⟩
  refine ⟨m, rfl, by rw [strLen_append]; omega, _, rfl, t, l, rfl, .inl (.inl ht), fun y hy => lo_log (hlo y hy), by omega, fun m2 h2 => ⟨m2, rfl, by rw [strLen_append, strLen_append]; omega, k _⟩⟩
theorem raises_ib {P : Program} {w : World} {K : PySem.W.Frag} {mg : Str → Option Value} {base : Heap} {C cc cda f : Addr} {fd : FuncData} {st : Stmt} {m : Str} {j : Nat} {q1 q2 q3 q4 p0 p1 p2 p3 p4 p5 p6 p7 p8 : Pos}
    (F : FunX K "InvalidBlock.__init__" st cc cda f fd) (W : InitIs st (.JoinedStr [.Constant (.str m) j q1, .FormattedValue (.Name "path" q2) (-1) none q3] q4) p0 p1 p2 p3 p4 p5 p6 p7 p8) (SC : SupC P K mg C cc cda) (hno : PySem.W.findIn K (.ref C) "path" = some none) (hm : m.length ≤ 1000)
    (hev : ∀ A outer s H E, Says (cxI P w K mg base st "InvalidBlock.__init__" cc cda f A outer s H E).env (.JoinedStr [.Constant (.str m) j q1, .FormattedValue (.Name "path" q2) (-1) none q3] q4) p0 p1 p2 p3 p4)
    (iC : PySem.W.findIn K (.ref C) "__init__" = some (some (.ref f))) (tI : PySem.W.typeIn K (.ref f) = some (.type "function")) (hg : mg "InvalidBlock" = some (.ref C)) : RaisesIB P w K mg base 3 C := by
  have FI : FnOk P w K mg base CX0 2 f fd ["self", "path"] (spXI C (okPath K)) := ok_xinit (k := 1) F W SC hno hev fun A outer s H E a v hr ok => toText_fstr hr rfl (.inl (W.s.par _ (by simp))) hm ok
  intro X Wx e te b1 b2 b3 eP ew eK em eb hc hr gl tk pe hs
  subst eP ew eK em eb
  have Rc : Raises X (.ref C) := raises_own SC.T.exC SC.T.tyC
  have pe' : PE X e (fun σ H Q => ∃ Q0 : VK, te σ H Q0 ∧ ∀ v H1, Q0 v H1 → Q v H1) := ⟨fun pins s σ H Q I ⟨Q0, h, k⟩ => wpAny_mono (pe.run pins s σ H Q0 I h) (fun u s' ⟨v, H', I', r, q⟩ => ⟨v, H', I', r, k _ _ q⟩) fun _ _ x => x⟩
  refine ⟨fun pins s σ H D I q => (ps_raise hc tk (pmk_oex (ps := ["self", "path"]) (ds := []) (dvs := []) SC.T iC tI FI hr (F.binds W) .nil pass0 gl hg (pa_cons pe' pa_nil hs) (by decide) hs (by rfl))).run pins s σ H D I ⟨_, q, fun v H1 z => ?_⟩⟩
  obtain ⟨tp, p, rfl, ht, hl, hlo, kW⟩ := z
  refine ⟨by simp, fun a ha => ⟨a, .ref tp, rfl, upd_same, ⟨tp, p, rfl, ?_, hl, hlo⟩, fun d hd hda => ⟨rfl, d, [("path", .ref tp)], upd_same, ?_, ?_, ?_⟩⟩⟩
  · exact same_upd ha _ _ ht
  · rw [upd_ne hda]
    exact upd_same
  · rw [upd_ne hda] at hd
    exact hd
  · rw [upd_ne hda] at hd
    refine kW d _ hd (fun b xs z => ?_) (fun b o z => ?_) upd_same
    all_goals
      have nb : b ≠ a := ne_of_none z ha
      have nd : b ≠ d := ne_of_none z hd
      rw [upd_ne nd, del_ne nb, upd_ne nb, upd_ne nd, upd_ne nb]
      exact z
end W1
end
section
set_option maxRecDepth 100000
set_option maxHeartbeats 4000000
/-! P7: Program.__init__ -/
namespace Cm
open PySem L2
theorem fun2D {P : Program} {w : World} {K : PySem.W.Frag} {mg : Str → Option Value} {base : Heap} {x qual : Str} {st : Stmt} {f : Addr} {fd : FuncData} {N ps : List Str} {k : Nat} {dvs : List V} {kws : List (Str × V)} {sp : Sp} (F : FunD K x qual (defArgs st) (defBody st) (defScope st) dvs kws f fd) (S : FnScope N ps (defScope st)) (len : ∀ vs H Q E, sp vs H Q E → vs.length = ps.length)
    (hbody : ∀ (cdv : Value) (A : Around) (outer : List Env) (s : Shared) (H : Hp) (vs : List V) (Q : VK) (E : XK) (Po : Em.Dg), Room k (A.deeper (PyProof.Rows.envOfC qual (defScope st) s.heap.objs.size f cdv)) → sp vs H Q E →
      ∃ t, Em.PSs2 (cxOf (fun _ _ _ _ _ _ => False) P w K mg base N qual (defScope st) f cdv A outer s H E) Po (fun cls d _ H => E cls d H) (defBody st) t ∧ t { nx := fun _ H' => Q .non H', rt := Q } (start N vs) H) :
    Em.FnOk2 P w K mg base (k + 1) f fd ps sp := by
  obtain ⟨oc, od, dV, kV, doc, pm, an, cdv, ct, osl, e, lk, hcd, _⟩ := F.ex
  subst e
  exact Em.fn2_of lk hcd S len fun A outer s H vs Q E Po hr h => hbody cdv A outer s H vs Q E Po hr h
end Cm
namespace W1
open PySem L2 Cm
/-- Program's class -/
structure PCls (K : PySem.W.Frag) (C : Addr) : Prop where
  cl : Cls K C
  n1 : NoAttr K C "_rows"
  n2 : NoAttr K C "_lists"
  n3 : NoAttr K C "_block"
  n4 : NoAttr K C "_kept"
def keptOf (names kept : List Str) : List Str := names.filter fun a => decide (a ∈ kept)
/-- a Program, as it is behind its making -/
structure PObj (K : PySem.W.Frag) (C : Addr) (H : Hp) (a : Addr) (names : List Str) (x : List Stm) (kept : List Str) : Prop where
  at_ : ∃ dx t tl tb tk rs, H a = some (.ins C dx [("_rows", .ref t), ("_lists", .ref tl), ("_block", .ref tb), ("_kept", .ref tk)]) ∧ H t = some (.tup rs) ∧ Paired (RowV H) rs (rowsL [] 0 x) ∧ TupX K H tl (names.map V.str) ∧ Td H (.ref tb) (.tuple (toDs x)) ∧ TupX K H tk (kept.map V.str)
def spPInit (K : PySem.W.Frag) (CP CL CB : Addr) : Sp := fun vs H Q E => ∃ (a dx tl tb tk : Addr) (names kept : List Str) (x : List Stm), vs = [.ref a, .ref tl, .ref tb, .ref tk] ∧ H a = some (.ins CP dx []) ∧ TupX K H tl (names.map V.str) ∧ TupX K H tk (kept.map V.str) ∧
  (∀ a ∈ names, a.length ≤ 1000) ∧ names.length ≤ 500 ∧ kept.length ≤ 500 ∧ Td H (.ref tb) (.tuple (toDs x)) ∧ depths x ≤ dW ∧ x.length ≤ 500 ∧ slims x ∧ (∀ r ∈ rowsL [] 0 x, r.2.flatN) ∧ (rowsL [] 0 x).length ≤ 500 ∧
  (areLists names kept = true → judged names (rowsL [] 0 x) = none → ∀ H', (∀ b o, H b = some o → b ≠ a → H' b = some o) → PObj K CP H' a names x (keptOf names kept) → Q .non H') ∧
  (areLists names kept = false → ∀ H', Same H H' → E (.ref CL) none H') ∧
  (areLists names kept = true → ∀ p, judged names (rowsL [] 0 x) = some p → ∀ d tp H', Same H H' → H d = none → H' d = some (.xd [("path", .ref tp)]) → H' tp = some (.tup (p.map V.int)) → E (.ref CB) (some d) H')
def Off (a : Addr) (H H' : Hp) : Prop := ∀ b o, H b = some o → b ≠ a → H' b = some o
theorem Off.trans {a : Addr} {H H1 H2 : Hp} (x : Off a H H1) (y : Off a H1 H2) : Off a H H2 := fun b o e n => y b o (x b o e n) n
theorem Off.same {a : Addr} {H H' : Hp} (s : Same H H') : Off a H H' := fun b o e _ => s b o e
theorem Off.upd {a : Addr} {H : Hp} {o : HO} : Off a H (L2.upd H a o) := fun b u e n => by rw [upd_ne n]; exact e
theorem Off.tk {a C dx : Addr} {fs : List (Str × V)} {H H' : Hp} (hA : H a = some (.ins C dx fs)) (o : Off a H H') : TK H H' := fun b xs e => o b _ e fun z => by
  subst z
  rw [hA] at e
  cases e
theorem Off.tx {K : PySem.W.Frag} {a b C dx : Addr} {fs : List (Str × V)} {H H' : Hp} {xs : List V} (hA : H a = some (.ins C dx fs)) (o : Off a H H') (h : TupX K H b xs) : TupX K H' b xs := by
  rcases h with ⟨ob, e, d⟩ | h
  · exact .inl ⟨ob, o b _ e (fun z => by
      subst z
      rw [hA] at e
      cases e), d⟩
  · exact .inr h
theorem keptOf_at {names kept : List Str} {i : Nat} {nm : Str} (en : names[i]? = some nm) : keptOf (names.take (i + 1)) kept = keptOf (names.take i) kept ++ if decide (nm ∈ kept) = true then [nm] else [] := by
  rw [take_at en]
  unfold keptOf
  rw [List.filter_append]
  cases z : decide (nm ∈ kept) <;> simp [List.filter, z]
section
variable {P : Program} {w : World} {K : PySem.W.Frag} {mg : Str → Option Value} {base : Heap}
theorem ok_pinit {CP CL CB : Addr} {f fA fM fR te : Addr} {fd fdA fdM fdR : FuncData} (F : FunD K "__init__" "Program.__init__" (defArgs s_Program_init) (defBody s_Program_init) (defScope s_Program_init) [.ref te] [] f fd) (T : Bi mg) (Cs : Cst K mg) (PC : PCls K CP) (XL : Xc K mg "InvalidLists" CL)
    (A_ : Dn K mg "are_lists" s_are_lists ["lists", "kept"] fA fdA) (Nm : Dn K mg "is_name" s_is_name ["value"] fM fdM) (R_ : Dn K mg "checked_rows" s_checked_rows ["lists", "block"] fR fdR)
    (GR : Em.FnOk2 P w K mg base 13 fR fdR ["lists", "block"] (spRows K CB)) : Em.FnOk2 P w K mg base 14 f fd ["self", "lists", "block", "kept"] (spPInit K CP CL CB) := by
  have GA : FnOk P w K mg base CX0 2 fA fdA ["lists", "kept"] (spAre K) := ok_are A_.F T Cs Nm
  have nd := sc_Program_init.nd
  refine fun2D F sc_Program_init (fun vs H Q E h => ?_) (fun cdv A outer s H vs Q E Po hr h => ?_)
  · obtain ⟨a, dx, tl, tb, tk, names, kept, x, rfl, _⟩ := h
    rfl
  · obtain ⟨a, dx, tl, tb, tk, names, kept, x, rfl, hA, hL, hK, hnl, hn5, hk5, hT, hd, hl, hs, hf, hn, kq, ke1, ke2⟩ := h
    have hr2 : Room 2 (A.deeper (PyProof.Rows.envOfC "Program.__init__" (defScope s_Program_init) s.heap.objs.size f cdv)) := hr.mono (by decide)
    refine ⟨_, Em.pss2_cons (Em.ps2_if (fun _ => pt_not (pt_val (pe_call GA hr2 (by rfl) A_.g A_.F.kp A_.b .nil pass0 (pa_cons (pv 1) (pa_cons (pv 3) pa_nil)))))
        (Em.pss2_one (Em.ps2_raise fun pn xe tk => ps_raise rfl tk (pmk_own PySem.F.excBase_ValueError XL.x XL.g XL.k (raises_own XL.b XL.t) (by rfl)))) Em.pss2_nil)
      (Em.pss2_cons (Em.ps2_fld (fun _ => pv 0) (Em.pe2_call GR hr (by rfl) R_.g R_.F.kp R_.b .nil ⟨rfl, rfl⟩ (fun _ _ _ _ h => h) (Em.pa2_cons (Em.pe2_of fun _ => pv 1) (Em.pa2_cons (Em.pe2_of fun _ => pv 2) Em.pa2_nil))) rfl)
      (Em.pss2_cons (Em.ps2_fld (fun _ => pv 0) (Em.pe2_of fun _ => pv 1) rfl)
      (Em.pss2_cons (Em.ps2_fld (fun _ => pv 0) (Em.pe2_of fun _ => pv 2) rfl)
      (Em.pss2_one (Em.ps2_fld (fun _ => pv 0) (Em.pe2_of fun _ => pe_callTy (call_tupFK (K := K) rfl) (by rfl) T.tuple (by decide +kernel) (pa_cons (pe_lc (wi := iTup K _) (own := [("name", 4)]) (g := gName 4) (by rfl) nd (pi_tup (pv 1))
          (blkOk_by (own := [("name", 4)]) (N := ["self", "lists", "block", "kept", "name"]) (sc := defScope s_Program_init) (by decide +kernel)) (fun _ _ _ _ _ => pg_name (i := 4) nd rfl (Or.inl rfl))
          (fun _ _ _ _ _ => pts_one (pt_cmpR (r := rIn K false) op_in_seq (pv 4) (pv 3) (by rfl))) (fun _ _ _ _ _ => pv 4)) pa_nil)) rfl))))), ?_⟩
    refine ⟨_, rfl, _, rfl, tl, tk, names, kept, rfl, hL, hK, hnl, hk5, fun H1 s1 => ⟨_, rfl, ?_⟩⟩
    refine ite2 (fun c => ke1 (by simpa using c) H1 s1) (fun c => ?_)
    have hAre : areLists names kept = true := by
      cases z : areLists names kept with
      | true => rfl
      | false => rw [z] at c; exact absurd rfl c
    refine ⟨_, rfl, _, rfl, tl, tb, names, x, rfl, (hL.same s1).sq, hT.mono (TK.same s1), hd, hl, hs, hf, hn, fun hj t rs H2 s2 et nt pr => ?_, fun p hp d tp H' sub nd e1 e2 => ke2 hAre p hp d tp H' (fun b o e => sub b o (s1 b o e)) (s1.free nd) e1 e2⟩
    have s2 : Same H H2 := s1.trans s2
    have hA2 := s2 _ _ hA
    have kq := kq hAre hj
    have o2 : Off a H H2 := Off.same s2
    have hL2 := hL.same s2
    have hK2 := hK.same s2
    have hT2 := hT.mono (TK.same s2)
    clear ke1 ke2 hL hK hT s1
    -- the rows
    refine ⟨_, rfl, a, CP, dx, [], rfl, hA2, PC.cl, PC.n1, by simp, ?_⟩
    have o3 : Off a H2 (upd H2 a (.ins CP dx (putF "_rows" (.ref t) []))) := Off.upd
    have hA3 : upd H2 a (.ins CP dx (putF "_rows" (.ref t) [])) a = some (.ins CP dx [("_rows", .ref t)]) := upd_same
    generalize upd H2 a (.ins CP dx (putF "_rows" (.ref t) [])) = H3 at o3 hA3
    refine ⟨_, rfl, _, rfl, a, CP, dx, _, rfl, hA3, PC.cl, PC.n2, by simp, ?_⟩
    have o4 : Off a H3 (upd H3 a (.ins CP dx (putF "_lists" (.ref tl) [("_rows", .ref t)]))) := Off.upd
    have hA4 : upd H3 a (.ins CP dx (putF "_lists" (.ref tl) [("_rows", .ref t)])) a = some (.ins CP dx [("_rows", .ref t), ("_lists", .ref tl)]) := upd_same
    generalize upd H3 a (.ins CP dx (putF "_lists" (.ref tl) [("_rows", .ref t)])) = H4 at o4 hA4
    refine ⟨_, rfl, _, rfl, a, CP, dx, _, rfl, hA4, PC.cl, PC.n3, by simp, ?_⟩
    have o5 : Off a H4 (upd H4 a (.ins CP dx (putF "_block" (.ref tb) [("_rows", .ref t), ("_lists", .ref tl)]))) := Off.upd
    have hA5 : upd H4 a (.ins CP dx (putF "_block" (.ref tb) [("_rows", .ref t), ("_lists", .ref tl)])) a = some (.ins CP dx [("_rows", .ref t), ("_lists", .ref tl), ("_block", .ref tb)]) := upd_same
    generalize upd H4 a (.ins CP dx (putF "_block" (.ref tb) [("_rows", .ref t), ("_lists", .ref tl)])) = H5 at o5 hA5
    have o25 : Off a H2 H5 := (o3.trans o4).trans o5
    have hL5 := o25.tx hA2 hL2
    have hK5 := o25.tx hA2 hK2
    have k25 := o25.tk hA2
    have hT5 := hT2.mono k25
    have et5 := k25 _ _ et
    have pr5 := rows_mono k25 pr
    have o05 := o2.trans o25
    refine ⟨_, rfl, tl, rfl, ⟨_, hL5.sq⟩, fun D nD => ?_⟩
    refine lc_tup (K := K) (a := tl) (xs := names.map V.str) (fun i H' => H' = upd H5 D (.lst ((keptOf (names.take i) kept).map V.str))) rfl (fun i H' _ e => by rw [e]; exact (hL5.same (same_upd nD)).sq) ?_ ?_
    · rintro i v H' hv rfl
      rw [List.getElem?_map] at hv
      cases en : names[i]? with
      | none => rw [en] at hv; cases hv
      | some nm =>
        rw [en] at hv
        cases hv
        refine ⟨rfl, _, rfl, _, rfl, tk, _, rfl, .inr (hK5.same (same_upd nD)).sq, rfl, flat_strs, _, rfl, ?_⟩
        show if inV (.str nm) (kept.map V.str) = true then _ else _
        rw [inV_str]
        refine ite2 (fun c => ⟨_, rfl, _, upd_same, ?_, ?_⟩) (fun c => ?_)
        · rw [List.length_map]
          refine small1000 ?_
          have : (keptOf (names.take i) kept).length ≤ (names.take i).length := List.length_filter_le ..
          have h2 := List.length_take_le i names
          have h3 : (names.take i).length ≤ names.length := by rw [List.length_take]; omega
          omega
        · rw [upd_upd, keptOf_at en, if_pos c, List.map_append]
          rfl
        · rw [keptOf_at en, if_neg c, List.append_nil]
    · rintro H' rfl
      rw [List.length_map, List.take_length]
      have s6 := same_upd (o := .lst ((keptOf names kept).map V.str)) nD
      refine ⟨D, _, rfl, SqL.of upd_same, fun tk2 ob nk od => ?_⟩
      have s7 := s6.trans (same_upd (o := .frz ob (.tup ((keptOf names kept).map V.str))) nk)
      have e7 : upd (upd H5 D (.lst ((keptOf names kept).map V.str))) tk2 (.frz ob (.tup ((keptOf names kept).map V.str))) tk2 = some (.frz ob (.tup ((keptOf names kept).map V.str))) := upd_same
      generalize upd (upd H5 D (.lst ((keptOf names kept).map V.str))) tk2 (.frz ob (.tup ((keptOf names kept).map V.str))) = H7 at s7 e7
      have hA7 := s7 _ _ hA5
      refine ⟨_, rfl, a, CP, dx, _, rfl, hA7, PC.cl, PC.n4, by simp, ?_⟩
      have o8 : Off a H7 (upd H7 a (.ins CP dx (putF "_kept" (.ref tk2) [("_rows", .ref t), ("_lists", .ref tl), ("_block", .ref tb)]))) := Off.upd
      have hA8 : upd H7 a (.ins CP dx (putF "_kept" (.ref tk2) [("_rows", .ref t), ("_lists", .ref tl), ("_block", .ref tb)])) a = some (.ins CP dx [("_rows", .ref t), ("_lists", .ref tl), ("_block", .ref tb), ("_kept", .ref tk2)]) := upd_same
      generalize upd H7 a (.ins CP dx (putF "_kept" (.ref tk2) [("_rows", .ref t), ("_lists", .ref tl), ("_block", .ref tb)])) = H8 at o8 hA8
      have o58 : Off a H5 H8 := (Off.same s7).trans o8
      have k58 := o58.tk hA5
      exact kq H8 (o05.trans o58) ⟨dx, t, tl, tb, tk2, rs, hA8, k58 _ _ et5, rows_mono k58 pr5, o58.tx hA5 hL5, hT5.mono k58, o8.tx hA7 (.inl ⟨ob, e7, od⟩)⟩
end
end W1
end
section
set_option maxRecDepth 100000
set_option maxHeartbeats 4000000
/-! Q1: the law's looks at statements -/
namespace W1
open PySem L2 Cm
def wA : List Str := ["send", "keyed", "look"]
def wB : List Str := ["if", "while", "times"]
theorem askW_wA (k : Nat) : askW k ∈ wA := by rcases askW_in k with e | e | e <;> rw [e] <;> decide +kernel
theorem askW_nB (k : Nat) : askW k ∉ wB := by rcases askW_in k with e | e | e <;> rw [e] <;> decide +kernel
theorem stm_blocks {H : Hp} {v : V} {s : Stm} (h : Td H v s.toD) : ∃ a xs, v = .ref a ∧ H a = some (.tup (.str s.word :: xs)) ∧
    ((s.word ∈ wA ∧ xs.length = 4 ∧ TdAll H ((V.str s.word :: xs).drop 4) (s.inner.map fun x => .tuple (toDs x))) ∨
     (s.word ∉ wA ∧ s.word ∈ wB ∧ (xs.length = 2 ∨ xs.length = 3) ∧ TdAll H ((V.str s.word :: xs).drop 2) (s.inner.map fun x => .tuple (toDs x))) ∨ (s.word ∉ wA ∧ s.word ∉ wB ∧ s.inner = [])) := by
  cases s with
  | ask k a b c x =>
    obtain ⟨ad, xs, rfl, e, t⟩ := Td.ref_inv h
    obtain ⟨v0, w0, rfl, t0, t⟩ := TdAll.cons_inv t
    obtain ⟨v1, w1, rfl, t1, t⟩ := TdAll.cons_inv t
    obtain ⟨v2, w2, rfl, t2, t⟩ := TdAll.cons_inv t
    obtain ⟨v3, w3, rfl, t3, t⟩ := TdAll.cons_inv t
    obtain ⟨v4, w4, rfl, t4, t⟩ := TdAll.cons_inv t
    obtain rfl := TdAll.nil_inv t
    obtain rfl := Td.str_inv t0
    exact ⟨ad, _, rfl, e, .inl ⟨askW_wA k, rfl, .cons t4 .nil⟩⟩
  | move a b =>
    obtain ⟨ad, xs, rfl, e, t⟩ := Td.ref_inv h
    obtain ⟨v0, w0, rfl, t0, t⟩ := TdAll.cons_inv t
    obtain rfl := Td.str_inv t0
    exact ⟨ad, _, rfl, e, .inr (.inr ⟨(by simp only [Stm.word]; decide +kernel), (by simp only [Stm.word]; decide +kernel), rfl⟩)⟩
  | part a b =>
    obtain ⟨ad, xs, rfl, e, t⟩ := Td.ref_inv h
    obtain ⟨v0, w0, rfl, t0, t⟩ := TdAll.cons_inv t
    obtain rfl := Td.str_inv t0
    exact ⟨ad, _, rfl, e, .inr (.inr ⟨(by simp only [Stm.word]; decide +kernel), (by simp only [Stm.word]; decide +kernel), rfl⟩)⟩
  | tell a b =>
    obtain ⟨ad, xs, rfl, e, t⟩ := Td.ref_inv h
    obtain ⟨v0, w0, rfl, t0, t⟩ := TdAll.cons_inv t
    obtain rfl := Td.str_inv t0
    exact ⟨ad, _, rfl, e, .inr (.inr ⟨(by simp only [Stm.word]; decide +kernel), (by simp only [Stm.word]; decide +kernel), rfl⟩)⟩
  | fin =>
    obtain ⟨ad, xs, rfl, e, t⟩ := Td.ref_inv h
    obtain ⟨v0, w0, rfl, t0, t⟩ := TdAll.cons_inv t
    obtain rfl := Td.str_inv t0
    exact ⟨ad, _, rfl, e, .inr (.inr ⟨(by simp only [Stm.word]; decide +kernel), (by simp only [Stm.word]; decide +kernel), rfl⟩)⟩
  | iff a x y =>
    obtain ⟨ad, xs, rfl, e, t⟩ := Td.ref_inv h
    obtain ⟨v0, w0, rfl, t0, t⟩ := TdAll.cons_inv t
    obtain ⟨v1, w1, rfl, t1, t⟩ := TdAll.cons_inv t
    obtain ⟨v2, w2, rfl, t2, t⟩ := TdAll.cons_inv t
    obtain ⟨v3, w3, rfl, t3, t⟩ := TdAll.cons_inv t
    obtain rfl := TdAll.nil_inv t
    obtain rfl := Td.str_inv t0
    exact ⟨ad, _, rfl, e, .inr (.inl ⟨(by simp only [Stm.word]; decide +kernel), (by simp only [Stm.word]; decide +kernel), .inr rfl, .cons t2 (.cons t3 .nil)⟩)⟩
  | whl a x =>
    obtain ⟨ad, xs, rfl, e, t⟩ := Td.ref_inv h
    obtain ⟨v0, w0, rfl, t0, t⟩ := TdAll.cons_inv t
    obtain ⟨v1, w1, rfl, t1, t⟩ := TdAll.cons_inv t
    obtain ⟨v2, w2, rfl, t2, t⟩ := TdAll.cons_inv t
    obtain rfl := TdAll.nil_inv t
    obtain rfl := Td.str_inv t0
    exact ⟨ad, _, rfl, e, .inr (.inl ⟨(by simp only [Stm.word]; decide +kernel), (by simp only [Stm.word]; decide +kernel), .inl rfl, .cons t2 .nil⟩)⟩
  | tms a x =>
    obtain ⟨ad, xs, rfl, e, t⟩ := Td.ref_inv h
    obtain ⟨v0, w0, rfl, t0, t⟩ := TdAll.cons_inv t
    obtain ⟨v1, w1, rfl, t1, t⟩ := TdAll.cons_inv t
    obtain ⟨v2, w2, rfl, t2, t⟩ := TdAll.cons_inv t
    obtain rfl := TdAll.nil_inv t
    obtain rfl := Td.str_inv t0
    exact ⟨ad, _, rfl, e, .inr (.inl ⟨(by simp only [Stm.word]; decide +kernel), (by simp only [Stm.word]; decide +kernel), .inl rfl, .cons t2 .nil⟩)⟩
section
variable {P : Program} {w : World} {K : PySem.W.Frag} {mg : Str → Option Value} {base : Heap}
def spLBlocks (K : PySem.W.Frag) : Sp := fun vs H Q _ => ∃ (v : V) (s : Stm), vs = [v] ∧ Td H v s.toD ∧ ∀ t H' bs, Same H H' → SqT K H' t bs → TdAll H' bs (s.inner.map fun x => .tuple (toDs x)) → Q (.ref t) H'
theorem ok_lblocks {f : Addr} {fd : FuncData} (F : Fun K "_law_blocks" "_law_blocks" s_law_blocks f fd) : FnOk P w K mg base CX0 1 f fd ["_law_statement_here"] (spLBlocks K) := by
  refine F.ok sc_law_blocks (fun vs H Q E h => ?_) (fun cdv A outer s H vs Q E hr h => ?_)
  · obtain ⟨v, s, rfl, _⟩ := h
    rfl
  · obtain ⟨v, st, rfl, ts, k⟩ := h
    refine ⟨_, pss_cons (ps_if (pt_cmpR op_in_seq (pe_ix ix_tup (pv 0) pe_int (fun _ _ => rfl)) (pe_tup (pa_cons pe_str (pa_cons pe_str (pa_cons pe_str pa_nil)))) (by rfl)) (pss_one (ps_ret (pe_slice sl_tup (pv 0) (po_some pe_int) po_none))) pss_nil)
      (pss_one (ps_ret (pe_ifExp (pt_cmpR op_in_seq (pe_ix ix_tup (pv 0) pe_int (fun _ _ => rfl)) (pe_tup (pa_cons pe_str (pa_cons pe_str (pa_cons pe_str pa_nil)))) (by rfl)) (pe_slice sl_tup (pv 0) (po_some pe_int) po_none) (pe_tup pa_nil)))), ?_⟩
    obtain ⟨a, xs, rfl, ha, hc⟩ := stm_blocks ts
    have hS : SqT K H a (.str st.word :: xs) := .inl (.inl ha)
    refine ⟨_, rfl, a, _, 0, _, rfl, rfl, hS, at0, small_le (by simp), fun t1 n1 => ?_⟩
    have s1 := same_upd (o := .tup [.str "send", .str "keyed", .str "look"]) n1
    have e1 : upd H t1 (.tup [.str "send", .str "keyed", .str "look"]) t1 = some (.tup (wA.map V.str)) := upd_same
    generalize upd H t1 (.tup [.str "send", .str "keyed", .str "look"]) = H1 at s1 e1
    refine ⟨t1, _, rfl, .inr (.inl (.inl e1)), rfl, flat_strs, _, rfl, ?_⟩
    show if inV (.str st.word) _ = true then _ else _
    rw [inV_str]
    have cut : ∀ m : Nat, m ≤ (V.str st.word :: xs).length → cutV (V.str st.word :: xs) (some (m : Int)) none = (V.str st.word :: xs).drop m := fun m hm => cut_from hm
    have nz : ∀ m : Nat, 0 < m → ¬ (HT.sIx (V.str st.word :: xs).length 0 (some (m : Int)) = 0 ∧ HT.sIx (V.str st.word :: xs).length (V.str st.word :: xs).length none = (V.str st.word :: xs).length) := fun m hm hz => by
      have := hz.1
      rw [HT.sIx_nat, List.length_cons] at this
      omega
    rcases hc with ⟨hw, hl, tb⟩ | ⟨hw, hw2, hl, tb⟩ | ⟨hw, hw2, he⟩
    · rw [decide_eq_true hw]
      refine iteT ⟨_, rfl, _, rfl, a, _, rfl, sqT_same hS s1, nz 4 (by decide), fun t nt => ?_⟩
      have ec : cutV (V.str st.word :: xs) (some (4 : Int)) none = (V.str st.word :: xs).drop 4 := cut 4 (by rw [List.length_cons]; omega)
      rw [ec]
      have s2 := s1.trans (same_upd (o := .tup ((V.str st.word :: xs).drop 4)) nt)
      refine k t _ _ s2 (.inl (.inl upd_same)) ?_
      exact tb.mono (TK.same s2)
    · rw [decide_eq_false hw]
      refine iteF ⟨_, rfl, a, _, 0, _, rfl, rfl, sqT_same hS s1, at0, small_le (by simp), fun t2 n2 => ?_⟩
      have s2 := s1.trans (same_upd (o := .tup [.str "if", .str "while", .str "times"]) n2)
      have e2 : upd H1 t2 (.tup [.str "if", .str "while", .str "times"]) t2 = some (.tup (wB.map V.str)) := upd_same
      generalize upd H1 t2 (.tup [.str "if", .str "while", .str "times"]) = H2 at s2 e2
      refine ⟨t2, _, rfl, .inr (.inl (.inl e2)), rfl, flat_strs, _, rfl, ?_⟩
      show if inV (.str st.word) _ = true then _ else _
      rw [inV_str, decide_eq_true hw2]
      refine iteT ⟨_, rfl, _, rfl, a, _, rfl, sqT_same hS s2, nz 2 (by decide), fun t nt => ?_⟩
      have ec : cutV (V.str st.word :: xs) (some (2 : Int)) none = (V.str st.word :: xs).drop 2 := cut 2 (by rw [List.length_cons]; omega)
      rw [ec]
      have s3 := s2.trans (same_upd (o := .tup ((V.str st.word :: xs).drop 2)) nt)
      refine k t _ _ s3 (.inl (.inl upd_same)) ?_
      exact tb.mono (TK.same s3)
    · rw [decide_eq_false hw]
      refine iteF ⟨_, rfl, a, _, 0, _, rfl, rfl, sqT_same hS s1, at0, small_le (by simp), fun t2 n2 => ?_⟩
      have s2 := s1.trans (same_upd (o := .tup [.str "if", .str "while", .str "times"]) n2)
      have e2 : upd H1 t2 (.tup [.str "if", .str "while", .str "times"]) t2 = some (.tup (wB.map V.str)) := upd_same
      generalize upd H1 t2 (.tup [.str "if", .str "while", .str "times"]) = H2 at s2 e2
      refine ⟨t2, _, rfl, .inr (.inl (.inl e2)), rfl, flat_strs, _, rfl, ?_⟩
      show if inV (.str st.word) _ = true then _ else _
      rw [inV_str, decide_eq_false hw2]
      refine iteF ⟨by simp, fun t nt => ?_⟩
      have s3 := s2.trans (same_upd (o := .tup []) nt)
      refine k t _ _ s3 (.inl (.inl upd_same)) ?_
      rw [he]
      exact .nil
end
end W1
end
section
set_option linter.all false
set_option maxRecDepth 100000
set_option maxHeartbeats 2000000
/-! R4: dict.update with tuple keys; the paths of a block's rows are all different -/
namespace Cm
open PySem PySem.Spec PyProof.Rows L2
def rUpdT : V → List V → Hp → VK → Prop := fun x xs H Q => ∃ (a b : Addr) (kvs more : List (List L2.Key × V)), x = .ref a ∧ xs = [.ref b] ∧ a ≠ b ∧ kvs ≠ [] ∧ H a = some (.dT kvs) ∧ H b = some (.dT more) ∧ kvs.length + more.length ≤ sizeLine ∧
  ((kvs ++ more).map (·.1)).Nodup ∧ Q .non (upd H a (.dT (kvs ++ more)))
theorem kt_keys {H : Hp} : ∀ {kvs : List (List L2.Key × V)} {xs : List (List L2.Key × Addr × Value)}, KT H kvs xs → xs.map (·.1) = kvs.map (·.1)
  | _, _, .nil => rfl
  | _, _, .cons h t => by rw [List.map_cons, List.map_cons, h.1, kt_keys t]
theorem kt_append {H : Hp} : ∀ {kvs more : List (List L2.Key × V)} {xs ys : List (List L2.Key × Addr × Value)}, KT H kvs xs → KT H more ys → KT H (kvs ++ more) (xs ++ ys)
  | _, _, _, _, .nil, h => h
  | _, _, _, _, .cons a t, h => .cons a (kt_append t h)
theorem mt_updT {X : Cx} (hu : X.A.units + 1 < cLine) : MtR X "dict.update" rUpdT := by
  intro pins s σ H x xs v us Q I rx rxs h
  obtain ⟨a, b, kvs, more, rfl, rfl, hab, hne, ha, hb, hz, hn, q⟩ := h
  cases rx
  cases rxs with
  | cons r1 r2 =>
    cases r2
    cases r1
    obtain ⟨z1, hd1, xs1, rel1, dd1⟩ := dt_of I.hok ha
    obtain ⟨z2, hd2, xs2, rel2, dd2⟩ := dt_of I.hok hb
    have l1 := Paired.length rel1
    have l2 := Paired.length rel2
    have hn' : ((xs1 ++ xs2).map (·.1)).Nodup := by rw [List.map_append, kt_keys rel1, kt_keys rel2, ← List.map_append]; exact hn
    refine PySem.call_update_dictH (knd := tupleKind (mixKind X.prog X.w)) (tupleKind_room_in1 hu) hab hd2 dd1 dd2 (.inl fun e => hne (List.length_eq_zero_iff.mp (by rw [l1, e]; rfl))) (by rw [← l1, ← l2]; exact hz) fun h' dd' _ hs => ?_
    rw [PySem.storedAllH_append_of_fresh xs1 xs2 hn'] at dd'
    obtain ⟨o, es, ep, hq, h2, h3, h4, _, h5⟩ := dd'
    have I2 : Inv X pins σ (upd H a (.dT (kvs ++ more))) { s with heap := h' } :=
      d_write (t' := s.toks) I (by rw [ha]; exact True.intro) hs ⟨o, hq⟩ ⟨by rw [List.length_append]; exact hz, hd1, _, (kt_append rel1 rel2).keeps (fun c ys ec => (by rw [upd_ne (ne_of ec ha (fun z => nomatch z))]; exact ec)), o, es, ep, hq, h2, h3, h4, h5⟩
    exact ⟨.non, _, I2, rfl, q⟩
end Cm
namespace W1
open PySem L2 Cm
/-! ### the paths of the rows -/
mutual
theorem rowsS_form : ∀ (s : Stm) (p : List Int), ∀ r ∈ rowsS p s, ∃ (b : Int) (j : Nat) (q : List Int), r.1 = p ++ b :: (j : Int) :: q
  | .ask _ _ _ _ x, p, r, h => snd_form (rowsL_form x (p ++ [0]) 0 r (by simpa [rowsS] using h))
  | .iff _ x y, p, r, h => by
    rcases (by simpa [rowsS] using h : r ∈ rowsL (p ++ [0]) 0 x ∨ r ∈ rowsL (p ++ [1]) 0 y) with h | h
    · exact snd_form (rowsL_form x (p ++ [0]) 0 r h)
    · exact snd_form (rowsL_form y (p ++ [1]) 0 r h)
  | .whl _ x, p, r, h => snd_form (rowsL_form x (p ++ [0]) 0 r (by simpa [rowsS] using h))
  | .tms _ x, p, r, h => snd_form (rowsL_form x (p ++ [0]) 0 r (by simpa [rowsS] using h))
  | .move _ _, p, r, h => by simp [rowsS] at h
  | .part _ _, p, r, h => by simp [rowsS] at h
  | .tell _ _, p, r, h => by simp [rowsS] at h
  | .fin, p, r, h => by simp [rowsS] at h
theorem rowsL_form : ∀ (x : List Stm) (p : List Int) (i : Nat), ∀ r ∈ rowsL p i x, ∃ (j : Nat) (q : List Int), r.1 = p ++ (j : Int) :: q ∧ i ≤ j
  | [], p, i, r, h => by simp [rowsL] at h
  | s :: l, p, i, r, h => by
    rcases (by simpa [rowsL] using h : r = (p ++ [(i : Int)], s) ∨ r ∈ rowsS (p ++ [(i : Int)]) s ∨ r ∈ rowsL p (i + 1) l) with h | h | h
    · subst h
      exact ⟨i, [], rfl, Nat.le_refl _⟩
    · obtain ⟨b, j, q, e⟩ := rowsS_form s (p ++ [(i : Int)]) r h
      exact ⟨i, b :: (j : Int) :: q, by rw [e, List.append_assoc]; rfl, Nat.le_refl _⟩
    · obtain ⟨j, q, e, hj⟩ := rowsL_form l p (i + 1) r h
      exact ⟨j, q, e, by omega⟩
theorem snd_form {p : List Int} {b : Int} {i : Nat} {r : List Int × Stm} (h : ∃ (j : Nat) (q : List Int), r.1 = (p ++ [b]) ++ (j : Int) :: q ∧ i ≤ j) : ∃ (b : Int) (j : Nat) (q : List Int), r.1 = p ++ b :: (j : Int) :: q := by
  obtain ⟨j, q, e, _⟩ := h
  exact ⟨b, j, q, by rw [e, List.append_assoc]; rfl⟩
end
theorem nd_app {a b : List (List Int × Stm)} (ha : (a.map (·.1)).Nodup) (hb : (b.map (·.1)).Nodup) (d : ∀ r ∈ a, ∀ t ∈ b, r.1 ≠ t.1) : ((a ++ b).map (·.1)).Nodup := by
  rw [List.map_append]
  refine List.nodup_append.mpr ⟨ha, hb, fun x hx y hy => ?_⟩
  obtain ⟨r, hr, rfl⟩ := List.mem_map.mp hx
  obtain ⟨t, ht, rfl⟩ := List.mem_map.mp hy
  exact d r hr t ht
mutual
theorem rowsS_nd : ∀ (s : Stm) (p : List Int), ((rowsS p s).map (·.1)).Nodup
  | .ask _ _ _ _ x, p => by
    have := rowsL_nd x (p ++ [0]) 0
    simpa only [rowsS] using this
  | .iff _ x y, p => by
    have h1 := rowsL_nd x (p ++ [0]) 0
    have h2 := rowsL_nd y (p ++ [1]) 0
    have h3 := nd_app h1 h2 fun r hr t ht e => by
      obtain ⟨j, q, e1, _⟩ := rowsL_form x (p ++ [0]) 0 r hr
      obtain ⟨j', q', e2, _⟩ := rowsL_form y (p ++ [1]) 0 t ht
      rw [e1, e2, List.append_assoc, List.append_assoc] at e
      have z := (List.cons.inj (List.append_cancel_left e)).1
      exact absurd z (by decide)
    simpa only [rowsS] using h3
  | .whl _ x, p => by
    have := rowsL_nd x (p ++ [0]) 0
    simpa only [rowsS] using this
  | .tms _ x, p => by
    have := rowsL_nd x (p ++ [0]) 0
    simpa only [rowsS] using this
  | .move _ _, p => by simp [rowsS]
  | .part _ _, p => by simp [rowsS]
  | .tell _ _, p => by simp [rowsS]
  | .fin, p => by simp [rowsS]
theorem rowsL_nd : ∀ (x : List Stm) (p : List Int) (i : Nat), ((rowsL p i x).map (·.1)).Nodup
  | [], p, i => by simp [rowsL]
  | s :: l, p, i => by
    have h1 := rowsS_nd s (p ++ [(i : Int)])
    have h2 := rowsL_nd l p (i + 1)
    have h3 := nd_app h1 h2 fun r hr t ht e => by
      obtain ⟨b, j, q, e1⟩ := rowsS_form s (p ++ [(i : Int)]) r hr
      obtain ⟨j', q', e2, hj⟩ := rowsL_form l p (i + 1) t ht
      rw [e1, e2, List.append_assoc] at e
      have z := (List.cons.inj (List.append_cancel_left e)).1
      omega
    have h4 : (((p ++ [(i : Int)], s) :: (rowsS (p ++ [(i : Int)]) s ++ rowsL p (i + 1) l)).map (·.1)).Nodup := by
      rw [List.map_cons]
      refine List.nodup_cons.mpr ⟨fun hm => ?_, h3⟩
      obtain ⟨r, hr, e⟩ := List.mem_map.mp hm
      rcases List.mem_append.mp hr with hr | hr
      · obtain ⟨b, j, q, e1⟩ := rowsS_form s (p ++ [(i : Int)]) r hr
        have e : r.1 = p ++ [(i : Int)] := e
        rw [e1] at e
        have z := congrArg List.length e
        simp only [List.length_append, List.length_cons, List.length_nil] at z
        omega
      · obtain ⟨j', q', e2, hj⟩ := rowsL_form l p (i + 1) r hr
        have e : r.1 = p ++ [(i : Int)] := e
        rw [e2] at e
        have z := (List.cons.inj (List.append_cancel_left e)).1
        omega
    simpa only [rowsL] using h4
end
/-! ### the dict of the rows -/
def kI (p : List Int) : List L2.Key := p.map Sum.inl
theorem kI_v (p : List Int) : (kI p).map kV = p.map V.int := by
  unfold kI
  rw [List.map_map]
  rfl
theorem kI_inj {p q : List Int} (h : kI p = kI q) : p = q := by
  unfold kI at h
  induction p generalizing q with
  | nil =>
    cases q with
    | nil => rfl
    | cons b q => cases h
  | cons a p ih =>
    cases q with
    | nil => cases h
    | cons b q =>
      have h1 := (List.cons.inj h).1
      have h2 := (List.cons.inj h).2
      cases h1
      rw [ih h2]
def KvR (H : Hp) (kv : List L2.Key × V) (r : List Int × Stm) : Prop := kv.1 = kI r.1 ∧ Td H kv.2 r.2.toD
abbrev KvL (H : Hp) : List (List L2.Key × V) → List (List Int × Stm) → Prop := Paired (KvR H)
theorem KvL.mono {H H' : Hp} (t : TK H H') {kvs : List (List L2.Key × V)} {rs : List (List Int × Stm)} (h : KvL H kvs rs) : KvL H' kvs rs := Paired.mapP h fun _ _ z => ⟨z.1, z.2.mono t⟩
theorem KvL.keys {H : Hp} : ∀ {kvs : List (List L2.Key × V)} {rs : List (List Int × Stm)}, KvL H kvs rs → kvs.map (·.1) = (rs.map (·.1)).map kI
  | _, _, .nil => rfl
  | _, _, .cons h t => by rw [List.map_cons, List.map_cons, List.map_cons, h.1, KvL.keys t]
theorem KvL.append {H : Hp} : ∀ {kvs more : List (List L2.Key × V)} {rs ts : List (List Int × Stm)}, KvL H kvs rs → KvL H more ts → KvL H (kvs ++ more) (rs ++ ts)
  | _, _, _, _, .nil, h => h
  | _, _, _, _, .cons a t, h => .cons a (KvL.append t h)
theorem KvL.nodup {H : Hp} {kvs : List (List L2.Key × V)} {rs : List (List Int × Stm)} (h : KvL H kvs rs) (n : (rs.map (·.1)).Nodup) : (kvs.map (·.1)).Nodup := by
  rw [h.keys]
  exact List.Pairwise.map _ (fun a b hab e => hab (kI_inj e)) n
theorem KvL.fresh {H : Hp} {kvs : List (List L2.Key × V)} {rs : List (List Int × Stm)} {p : List Int} (h : KvL H kvs rs) (n : p ∉ rs.map (·.1)) : valV kvs (kI p) = none := by
  induction h with
  | nil => rfl
  | @cons a b as bs hd tl ih =>
    rw [List.map_cons, List.mem_cons] at n
    rw [valV_neg fun e => n (.inl (kI_inj (by rw [← e, hd.1])))]
    exact ih fun z => n (.inr z)
end W1
end
section
set_option linter.all false
set_option maxRecDepth 100000
set_option maxHeartbeats 1000000
/-! C8: lists of texts held against [] -/
namespace Cm
open PySem L2
def okS (x : Str) : Prop := PyData.strOk x = true
theorem shaped_strs {xs : List Str} (h : ∀ x ∈ xs, okS x) : SeqAt.shaped (.list (xs.map .str)) = true := by
  unfold SeqAt.shaped
  have h1 : PyData.canLayAll0 (xs.map .str) = true := by
    induction xs with
    | nil => rfl
    | cons a r ih =>
      simp only [List.map_cons, PyData.canLayAll0, PyData.canLay0, Bool.and_eq_true]
      exact ⟨h a List.mem_cons_self, ih fun x hx => h x (List.mem_cons_of_mem _ hx)⟩
  have h2 : PyData.depthAll (xs.map .str) = 0 := by
    clear h h1
    induction xs with
    | nil => rfl
    | cons a r ih =>
      simp only [List.map_cons, PyData.depthAll, PyData.depth, ih]
      rfl
  simp only [PyData.canLay0, PyData.depth, h1, h2]
  decide
theorem eqv_nil {ds : List PyData} : PyData.eqv (.list ds) (.list []) = ds.isEmpty := by
  cases ds <;> simp [PyData.eqv, PyData.eqvAll]
theorem dp_strs {K : PySem.W.Frag} {H : Hp} : ∀ xs : List Str, DpAll K H (xs.map V.str) (xs.map .str)
  | [] => .nil
  | x :: r => .cons (.str x) (dp_strs r)
/-- what == [] asks of a list of texts -/
theorem eq_nil {K : PySem.W.Frag} {H : Hp} {Q : VK} {D e : Addr} {xs : List Str} (hD : H D = some (.lst (xs.map V.str))) (he : H e = some (.lst [])) (hx : ∀ x ∈ xs, okS x) (k : Q (.bl xs.isEmpty) H) : rEqD K (.ref D) (.ref e) H Q := by
  refine ⟨_, _, .lst (SqL.of hD) (dp_strs xs), .lst (SqL.of he) .nil, shaped_strs hx, rfl, ?_⟩
  rw [eqv_nil]
  have : (xs.map PyData.str).isEmpty = xs.isEmpty := by cases xs <;> rfl
  rw [this]
  exact k
theorem ne_nil {K : PySem.W.Frag} {H : Hp} {Q : VK} {D e : Addr} {xs : List Str} (hD : H D = some (.lst (xs.map V.str))) (he : H e = some (.lst [])) (hx : ∀ x ∈ xs, okS x) (k : Q (.bl (!xs.isEmpty)) H) : rNeD K (.ref D) (.ref e) H Q := by
  refine ⟨_, _, .lst (SqL.of hD) (dp_strs xs), .lst (SqL.of he) .nil, shaped_strs hx, rfl, ?_⟩
  rw [eqv_nil]
  have : (xs.map PyData.str).isEmpty = xs.isEmpty := by cases xs <;> rfl
  rw [this]
  exact k
theorem okS_sign {x : Str} (h : okS x) {c : Nat} (hc : c ∈ x.cps.toList) : okS ⟨#[c]⟩ := by
  unfold okS PyData.strOk at *
  rw [Array.all_eq_true_iff_forall_mem] at h
  have := h c (Array.mem_toList_iff.mp hc)
  simpa using this
theorem filter_at {α : Type} {p : α → Bool} {xs : List α} {i : Nat} {x : α} (e : xs[i]? = some x) : (xs.take (i + 1)).filter p = (xs.take i).filter p ++ if p x = true then [x] else [] := by
  rw [take_at e, List.filter_append]
  cases z : p x <;> simp [List.filter, z]
theorem filter_emp {α : Type} {p : α → Bool} {xs : List α} : (xs.filter p).isEmpty = xs.all fun x => !p x := by
  induction xs with
  | nil => rfl
  | cons a r ih =>
    rw [List.filter_cons, List.all_cons]
    cases z : p a
    · simpa using ih
    · rfl
end Cm
end
section
set_option linter.all false
set_option maxRecDepth 100000
set_option maxHeartbeats 1000000
/-! C9: deep data, as the law looks at it -/
namespace Cm
open PySem L2
mutual
inductive Dq (K : PySem.W.Frag) (H : Hp) : V → PyData → Prop
  | non : Dq K H .non .none
  | bl (b : Bool) : Dq K H (.bl b) (.bool b)
  | int (i : Int) : Dq K H (.int i) (.int i)
  | str (x : Str) : Dq K H (.str x) (.str x)
  | tup {a : Addr} {xs : List V} {ds : List PyData} : SqT K H a xs → DqAll K H xs ds → Dq K H (.ref a) (.tuple ds)
  | lst {a : Addr} {xs : List V} {ds : List PyData} : H a = some (.lst xs) → DqAll K H xs ds → Dq K H (.ref a) (.list ds)
inductive DqAll (K : PySem.W.Frag) (H : Hp) : List V → List PyData → Prop
  | nil : DqAll K H [] []
  | cons {v : V} {vs : List V} {d : PyData} {ds : List PyData} : Dq K H v d → DqAll K H vs ds → DqAll K H (v :: vs) (d :: ds)
end
theorem sqT_same' {K : PySem.W.Frag} {H H' : Hp} {a : Addr} {xs : List V} (h : SqT K H a xs) (s : Same H H') : SqT K H' a xs := by
  rcases h with (h | ⟨o, h⟩) | h
  · exact .inl (.inl (s _ _ h))
  · exact .inl (.inr ⟨o, s _ _ h⟩)
  · exact .inr h
mutual
theorem Dq.same {K : PySem.W.Frag} {H H' : Hp} (s : Same H H') : ∀ {v : V} {d : PyData}, Dq K H v d → Dq K H' v d
  | _, _, .non => .non
  | _, _, .bl b => .bl b
  | _, _, .int i => .int i
  | _, _, .str x => .str x
  | _, _, .tup h t => .tup (sqT_same' h s) (DqAll.same s t)
  | _, _, .lst h t => .lst (s _ _ h) (DqAll.same s t)
theorem DqAll.same {K : PySem.W.Frag} {H H' : Hp} (s : Same H H') : ∀ {v : List V} {d : List PyData}, DqAll K H v d → DqAll K H' v d
  | _, _, .nil => .nil
  | _, _, .cons a b => .cons (Dq.same s a) (DqAll.same s b)
end
mutual
theorem Td.dq {K : PySem.W.Frag} {H : Hp} : ∀ {v : V} {d : PyData}, Td H v d → Dq K H v d
  | _, _, .non => .non
  | _, _, .bl b => .bl b
  | _, _, .int i => .int i
  | _, _, .str x => .str x
  | _, _, .tup h t => .tup (.inl (.inl h)) (TdAll.dq t)
theorem TdAll.dq {K : PySem.W.Frag} {H : Hp} : ∀ {v : List V} {d : List PyData}, TdAll H v d → DqAll K H v d
  | _, _, .nil => .nil
  | _, _, .cons a b => .cons (Td.dq a) (TdAll.dq b)
end
theorem DqAll.length {K : PySem.W.Frag} {H : Hp} : ∀ {vs : List V} {ds : List PyData}, DqAll K H vs ds → vs.length = ds.length
  | _, _, .nil => rfl
  | _, _, .cons _ b => by rw [List.length_cons, List.length_cons, DqAll.length b]
theorem DqAll.get {K : PySem.W.Frag} {H : Hp} : ∀ {vs : List V} {ds : List PyData} {i : Nat} {d : PyData}, DqAll K H vs ds → ds[i]? = some d → ∃ v, vs[i]? = some v ∧ Dq K H v d
  | _, _, 0, _, .cons a _, h => by
    cases h
    exact ⟨_, rfl, a⟩
  | _, _, i + 1, d, .cons _ b, h => by
    obtain ⟨v, e, t⟩ := DqAll.get (i := i) b (by simpa using h)
    exact ⟨v, by simpa using e, t⟩
  | _, _, _, _, .nil, h => by simp at h
/-! no dict in it, no row longer than 500 -/
mutual
def slimD : PyData → Prop
  | .list xs => xs.length ≤ 500 ∧ slimDs xs
  | .tuple xs => xs.length ≤ 500 ∧ slimDs xs
  | .dict _ => False
  | _ => True
def slimDs : List PyData → Prop
  | [] => True
  | d :: r => slimD d ∧ slimDs r
end
theorem slimDs_at : ∀ {ds : List PyData} {i : Nat} {d : PyData}, ds[i]? = some d → slimDs ds → slimD d
  | _ :: _, 0, d, h, g => by
    cases h
    exact g.1
  | _ :: r, i + 1, d, h, g => slimDs_at (ds := r) (i := i) (by simpa using h) g.2
theorem depthAll_at : ∀ {ds : List PyData} {i : Nat} {d : PyData}, ds[i]? = some d → d.depth ≤ PyData.depthAll ds
  | a :: r, 0, d, h => by
    cases h
    simp only [PyData.depthAll]
    omega
  | a :: r, i + 1, d, h => by
    have := depthAll_at (ds := r) (i := i) (d := d) (by simpa using h)
    simp only [PyData.depthAll]
    omega
theorem tyx_tup {K : PySem.W.Frag} {H : Hp} {a : Addr} {xs : List V} (h : SqT K H a xs) : TyX K H (.ref a) (.type "tuple") := by
  rcases h with (h | ⟨o, h⟩) | ⟨o, its, n, h, hc, _⟩
  · exact .base (.tup h)
  · exact .fTuple h
  · exact .kTuple h hc
end Cm
end
section
set_option linter.all false
set_option maxRecDepth 100000
set_option maxHeartbeats 1000000
/-! C10: written tuples, by their data -/
namespace Cm
open PySem L2
/-- it comes to a value with this data, and changes nothing -/
def Ev (C : Hp → Prop) (σ : St) (te : TE) (d : PyData) : Prop := ∀ H (Q : VK), C H → (∀ v H', Same H H' → Td H' v d → Q v H') → te σ H Q
def EvA (C : Hp → Prop) (σ : St) (t : TA) (ds : List PyData) : Prop := ∀ H (Q : List V → Hp → Prop), C H → (∀ vs H', Same H H' → TdAll H' vs ds → Q vs H') → t σ H Q
def Stab (C : Hp → Prop) : Prop := ∀ H H', C H → Same H H' → C H'
section
variable {C : Hp → Prop} {σ : St} {te : TE} {t : TA} {d : PyData} {ds : List PyData}
theorem ev_str {x : Str} : Ev C σ (tC (.str x)) (.str x) := fun H Q _ k => k _ H (fun _ _ e => e) (.str x)
theorem ev_int {i : Int} : Ev C σ (tC (.int i)) (.int i) := fun H Q _ k => k _ H (fun _ _ e => e) (.int i)
theorem ev_bl {b : Bool} : Ev C σ (tC (.bl b)) (.bool b) := fun H Q _ k => k _ H (fun _ _ e => e) (.bl b)
theorem ev_var {i : Nat} {v : V} (h : σ[i]? = some (some v)) (hd : ∀ H, C H → Td H v d) : Ev C σ (tVar i) d := fun H Q c k => ⟨v, h, k v H (fun _ _ e => e) (hd H c)⟩
theorem eva_nil : EvA C σ tNil [] := fun H Q _ k => k [] H (fun _ _ e => e) .nil
theorem eva_cons (st : Stab C) (a : Ev C σ te d) (b : EvA C σ t ds) : EvA C σ (tCons te t) (d :: ds) := fun H Q c k => a H _ c fun v H1 s1 t1 => b H1 _ (st _ _ c s1) fun vs H2 s2 t2 => k (v :: vs) H2 (s1.trans s2) (.cons (t1.mono (TK.same s2)) t2)
theorem ev_tup (b : EvA C σ t ds) (hl : ds.length ≤ 1000) : Ev C σ (tTup t) (.tuple ds) := fun H Q c k => b H _ c fun vs H1 s1 t1 => ⟨by rw [t1.length]; exact small_le hl, fun p np => k _ _ (s1.trans (same_upd np)) (.tup upd_same (t1.mono (TK.same (same_upd np))))⟩
/-- a list of such -/
theorem ev_lst (b : EvA C σ t ds) (hl : ds.length ≤ 1000) {H : Hp} {Q : VK} (c : C H) (k : ∀ l vs H', Same H H' → H l = none → H' l = some (.lst vs) → TdAll H' vs ds → Q (.ref l) H') : tLst t σ H Q := b H _ c fun vs H1 s1 t1 => ⟨by rw [t1.length]; exact small_le hl, fun p np => k p vs _ (s1.trans (same_upd np)) (s1.free np) upd_same (t1.mono (TK.same (same_upd np)))⟩
end
end Cm
end
section
set_option linter.all false
set_option maxRecDepth 100000
set_option maxHeartbeats 1000000
/-! C11: a tuple times any number -/
namespace Cm
open PySem L2
theorem ite_f {M : Model} {A : Around} {α : Type} {c : Prop} {_ : Decidable c} {a b : Sem α} {Q : α → Shared → Prop} {E : Value → Shared → Prop} {s : Shared} (h : ¬ c) (k : wpAny M A b Q E s) : wpAny M A (if c then a else b) Q E s := by
  rw [if_neg h]
  exact k
theorem ite_t {M : Model} {A : Around} {α : Type} {c : Prop} {_ : Decidable c} {a b : Sem α} {Q : α → Shared → Prop} {E : Value → Shared → Prop} {s : Shared} (h : c) (k : wpAny M A a Q E s) : wpAny M A (if c then a else b) Q E s := by
  rw [if_pos h]
  exact k
theorem dec_f {M : Model} {A : Around} {α : Type} {c : Prop} {inst : Decidable c} {f : ¬c → Sem α} {g : c → Sem α} {Q : α → Shared → Prop} {E : Value → Shared → Prop} {s : Shared} (h : ¬ c) (k : ∀ h, wpAny M A (f h) Q E s) : wpAny M A (Decidable.rec f g inst) Q E s := by
  cases inst with
  | isFalse h' => exact k h'
  | isTrue h' => exact absurd h' h
theorem tuple_mul1 (l : Addr) (items : Array Value) (n : Nat) (dd : Option Addr) (sl : Array (Option Value)) (u : Tok) :
    Meets (Builtin.«tuple.__mul__» { pos := [.ref l, .int 1 u] }) fun _ R s => s.heap.get? l = some { cls := .type "tuple", dict := dd, data := .seq items n, slots := sl } ∧ R (.ok (.ret (.ref l))) s := by
  refine Meets.of_wp fun prog w A R s h => ?_
  obtain ⟨hp, g, d, tk, os⟩ := s
  obtain ⟨hl, h⟩ := h
  unfold Builtin.«tuple.__mul__»
  have f1 := AutoSeq1.idx_int
  conv =>
    arg 3
    whnf
  refine wpAny_bind (m := PySem.load l) (wpAny_load hl ?_)
  refine wpAny_bind (wpAny_bind (wpAny_pure (wpAny_pure ?_)))
  refine ite_t (by simp) (wpAny_bind ?_)
  unfold Builtin.Tuple.tupleIsExact
  refine wpAny_bind (wpAny_typeOf (T := "tuple") ⟨_, hl, rfl⟩ (wpAny_pure ?_))
  refine ite_t (by decide) (wpAny_bind (wpAny_rule ?_))
  exact wpAny_pure ⟨_, rfl, h⟩
theorem tuple_mul0 (l : Addr) (items : Array Value) (n : Nat) (dd : Option Addr) (sl : Array (Option Value)) (x : Int) (u : Tok) (hx : x ≤ 0) (hx2 : -1000 ≤ x) (hi : items.isEmpty = false) :
    Meets (Builtin.«tuple.__mul__» { pos := [.ref l, .int x u] }) fun _ R s => s.heap.get? l = some { cls := .type "tuple", dict := dd, data := .seq items n, slots := sl } ∧
      R (.ok (.ret (.ref s.heap.objs.size))) { s with heap := s.heap.push { cls := .type "tuple", data := .seq #[] } } := by
  refine Meets.of_wp fun prog w A R s h => ?_
  obtain ⟨hp, g, d, tk, os⟩ := s
  obtain ⟨hl, h⟩ := h
  unfold Builtin.«tuple.__mul__»
  have f1 := AutoSeq1.idx_int
  conv =>
    arg 3
    whnf
  refine dec_f ?hc (fun _ => ?_)
  case hc =>
    rw [decide_eq_false (by omega), decide_eq_false (by omega)]
    simp
  refine wpAny_bind ?_
  conv =>
    arg 3
    whnf
  refine wpAny_bind (m := PySem.load l) (wpAny_load hl ?_)
  refine wpAny_bind (wpAny_pure (wpAny_pure ?_))
  refine ite_f (by rw [hi]; simp; omega) ?_
  refine ite_t (by simp [hx]) (wpAny_bind ?_)
  unfold Builtin.Tuple.tupleExact
  refine wpAny_newObj_type ?_ (by simp [sizeOk])
  exact wpAny_pure ⟨_, rfl, h⟩
/-- a tuple times a number -/
def rRepA (K : PySem.W.Frag) : R2 := fun x y H Q => ∃ l k xs, x = .ref l ∧ y = .int k ∧ SqT K H l xs ∧ xs ≠ [] ∧ -1000 ≤ k ∧ k ≤ 1000 ∧ xs.length ≤ 1000 ∧ (k = 1 → Q (.ref l) H) ∧ (k ≠ 1 → ∀ p, H p = none → Q (.ref p) (upd H p (.tup (List.replicate k.toNat xs).flatten)))
theorem op_repA {X : Cx} : OpR X (binaryOp .Mult) (rRepA X.K) := by
  rintro pins s σ H x y v u Q I rx ry ⟨l, k, xs, rfl, rfl, hT, hne, k0, k1, hz, q1, q2⟩
  by_cases hk2 : 2 ≤ k
  · exact op_repT pins s σ H _ _ v u Q I rx ry ⟨l, k, xs, rfl, rfl, hT, hne, hk2, k1, hz, q2 (by omega)⟩
  cases (show v = Value.ref l from rx)
  obtain ⟨t, rfl⟩ := (show ∃ t, u = Value.int k t from ry)
  obtain ⟨its, r, ⟨⟨cls, dd, data, sl⟩, ho, hc, n, hd⟩, hs⟩ := Inv.tuple I hT
  cases (show cls = _ from hc)
  cases (show data = _ from hd)
  have hi : its.toArray.isEmpty = false := by
    cases r with
    | nil => exact absurd rfl hne
    | cons _ _ => rfl
  refine wpAny_binaryOp_repeat_ref (by decide) ⟨_, ho, rfl⟩ (fun s' => typeIs_int s' k t) noFill_tuple_mul F.fills_int_mul F.slot_int_rmul repeat_tuple F.slot_int_index.lookup (call_meets F.slot_int_rmul (typeIs_int s k t) F.entry_int_rmul (F.args_int_rmul_2 (.int k t) (.ref l)) (int_rmul_tuple k t l its.toArray n dd sl) ⟨ho, rfl, ⟨_, ho, rfl⟩, ?_⟩)
  by_cases h1 : k = 1
  · subst h1
    exact call_meets F.slot_tuple_mul ⟨_, ho, rfl⟩ F.entry_tuple_mul (F.args_tuple_mul_2 (.ref l) (.int 1 t)) (tuple_mul1 l its.toArray n dd sl t) ⟨ho, ⟨.ref l, H, I, rfl, q1 rfl⟩⟩
  · refine call_meets F.slot_tuple_mul ⟨_, ho, rfl⟩ F.entry_tuple_mul (F.args_tuple_mul_2 (.ref l) (.int k t)) (tuple_mul0 l its.toArray n dd sl k t (by omega) k0 hi) ⟨ho, ?_⟩
    have e0 : k.toNat = 0 := by omega
    have q := q2 h1 s.heap.objs.size (HOk.fresh I.hok (Nat.le_refl _))
    rw [e0] at q
    exact ⟨.ref s.heap.objs.size, _, Inv.laid (o := .tup []) I (fun b ob e => Heap.get?_push_of_some { cls := .type "tuple", data := .seq #[] } e) (Nat.le_refl _) ⟨by simp, [], .nil, PyProof.Rows.IsTup.new s.heap #[]⟩, rfl, q⟩
end Cm
end
section
set_option linter.all false
set_option maxRecDepth 100000
set_option maxHeartbeats 1000000
/-! C12: what the law's blocks keep while they are drawn and spoiled -/
namespace Cm
open PySem L2
def okA (a : Str) : Prop := okS a ∧ a.length ≤ 9
mutual
def Stm.fine : Stm → Prop
  | .ask _ a b c x => (okA a ∧ okA b ∧ okA c) ∧ fines x
  | .move a b => okA a ∧ okA b
  | .part a b => okA a ∧ okA b
  | .tell a _ => okA a
  | .iff a x y => okA a ∧ fines x ∧ fines y
  | .whl a x => okA a ∧ fines x
  | .tms n x => ((∃ i, n = .int i) ∨ ∃ b, n = .bool b) ∧ fines x
  | .fin => True
def fines : List Stm → Prop
  | [] => True
  | s :: r => s.fine ∧ fines r
end
theorem fines_iff : ∀ {x : List Stm}, fines x ↔ ∀ s ∈ x, s.fine
  | [] => by simp [fines]
  | s :: r => by simp [fines, fines_iff (x := r)]
theorem slims_iff : ∀ {x : List Stm}, slims x ↔ ∀ s ∈ x, s.slim
  | [] => by simp [slims]
  | s :: r => by simp [slims, slims_iff (x := r)]
theorem depths_iff {d : Nat} : ∀ {x : List Stm}, depths x ≤ d ↔ ∀ s ∈ x, s.depth ≤ d
  | [] => by simp [depths]
  | s :: r => by
    have := depths_iff (d := d) (x := r)
    simp only [depths, List.mem_cons, forall_eq_or_imp, ← this]
    omega
theorem toDs_map : ∀ x : List Stm, toDs x = x.map Stm.toD
  | [] => rfl
  | s :: r => by simp [toDs, toDs_map r]
structure Good (n : Nat) (names kept : List Str) (x : List Stm) : Prop where
  nl : names.length ≤ 5 + n
  kl : kept.length ≤ 6 + n
  nk : ∀ a ∈ names, okA a
  kk : ∀ a ∈ kept, okA a
  xl : x.length ≤ 25 + n
  d : depths x ≤ 3
  s : slims x
  f : fines x
  z : sizes x ≤ 40 + 40 * n
theorem okA_lit {x : Str} (h : (PyData.strOk x && decide (x.length ≤ 9)) = true) : okA x := by
  rw [Bool.and_eq_true] at h
  exact ⟨h.1, of_decide_eq_true h.2⟩
theorem sizes_fin (m : Nat) : sizes (List.replicate m Stm.fin) = m := by
  induction m with
  | zero => rfl
  | succ m ih =>
    rw [List.replicate_succ]
    simp only [sizes, Stm.size, ih]
    omega
theorem sizes_cut (x : List Stm) (i : Nat) : sizes (x.take i) + sizes (x.drop i) = sizes x := by
  rw [← sizes_append, List.take_append_drop]
/-! readings by data -/
section
variable {K : PySem.W.Frag} {H : Hp} {Q : VK}
theorem td_ref {v : V} {ds : List PyData} (h : Td H v (.tuple ds)) : ∃ a xs, v = .ref a ∧ H a = some (.tup xs) ∧ TdAll H xs ds := by
  cases h with
  | tup e t => exact ⟨_, _, rfl, e, t⟩
theorem catA_td {v u : V} {ds es : List PyData} (hv : Td H v (.tuple ds)) (hu : Td H u (.tuple es)) (hl : ds.length + es.length ≤ 1000) (k : ∀ w H', Same H H' → Td H' w (.tuple (ds ++ es)) → Q w H') : rCatA K v u H Q := by
  obtain ⟨a, xs, rfl, ea, ta⟩ := td_ref hv
  obtain ⟨b, ys, rfl, eb, tb⟩ := td_ref hu
  refine ⟨a, b, xs, ys, rfl, rfl, .inl (.inl ea), .inl (.inl eb), small_le (by rw [ta.length, tb.length]; exact hl), fun e => ?_, fun _ e => ?_, fun _ _ p np => ?_⟩
  · subst e
    cases ta
    exact k _ H (fun _ _ e => e) hu
  · subst e
    cases tb
    rw [List.append_nil] at k
    exact k _ H (fun _ _ e => e) hv
  · exact k _ _ (same_upd np) (.tup upd_same ((ta.append tb).mono (TK.same (same_upd np))))
theorem takeA_td {v : V} {ds : List PyData} {m : Nat} (hv : Td H v (.tuple ds)) (hm : m ≤ ds.length) (k : ∀ w H', Same H H' → Td H' w (.tuple (ds.take m)) → Q w H') : rSlA K v none (some (m : Int)) H Q := by
  obtain ⟨a, xs, rfl, ea, ta⟩ := td_ref hv
  refine ⟨a, xs, rfl, .inl (.inl ea), fun hz => ?_, fun _ p np => ?_⟩
  · have h2 := hz.2
    rw [HT.sIx_nat, ta.length] at h2
    have : ds.take m = ds := List.take_of_length_le (by omega)
    rw [this] at k
    exact k _ H (fun _ _ e => e) hv
  · rw [cut_any]
    exact k _ _ (same_upd np) (.tup upd_same ((TdAll.take m ta).mono (TK.same (same_upd np))))
theorem dropA_td {v : V} {ds : List PyData} {m : Nat} (hv : Td H v (.tuple ds)) (hm : m ≤ ds.length) (k : ∀ w H', Same H H' → Td H' w (.tuple (ds.drop m)) → Q w H') : rSlA K v (some (m : Int)) none H Q := by
  obtain ⟨a, xs, rfl, ea, ta⟩ := td_ref hv
  refine ⟨a, xs, rfl, .inl (.inl ea), fun hz => ?_, fun _ p np => ?_⟩
  · have h1 := hz.1
    rw [HT.sIx_nat, ta.length] at h1
    by_cases m0 : m = 0
    · subst m0
      exact k _ H (fun _ _ e => e) hv
    · have : ds = [] := by
        rw [← List.length_eq_zero_iff]
        omega
      subst this
      rw [List.drop_nil] at k
      exact k _ H (fun _ _ e => e) hv
  · rw [cut_from (by rw [ta.length]; exact hm)]
    exact k _ _ (same_upd np) (.tup upd_same ((TdAll.drop m ta).mono (TK.same (same_upd np))))
/-- lists + others, the object known -/
theorem catF_tx {a b : Addr} {xs ys : List V} (ha : TupX K H a xs) (hb : SqT K H b ys) (h0 : xs = [] → TupX K H b ys) (hl : xs.length + ys.length ≤ 1000) (k : ∀ w H', Same H H' → TupX K H' w (xs ++ ys) → Q (.ref w) H') : rCatF K (.ref a) (.ref b) H Q := by
  refine ⟨a, b, xs, ys, rfl, rfl, ha.sq, hb, small_le hl, fun e => ?_, fun _ e => ?_, fun _ _ p o np od => ?_⟩
  · subst e
    exact k _ H (fun _ _ e => e) (h0 rfl)
  · subst e
    rw [List.append_nil] at k
    exact k _ H (fun _ _ e => e) ha
  · exact k _ _ (same_upd np) (.inl ⟨o, upd_same, od⟩)
/-- lists[:1] -/
theorem take1_tx {a : Addr} {xs : List V} (ha : TupX K H a xs) (k : ∀ w H', Same H H' → SqT K H' w (xs.take 1) → (xs = [] → TupX K H' w []) → Q (.ref w) H') : rSlA K (.ref a) none (some 1) H Q := by
  refine ⟨a, xs, rfl, ha.sq, fun hz => ?_, fun _ p np => ?_⟩
  · have h2 := hz.2
    rw [show (1 : Int) = ((1 : Nat) : Int) from rfl, HT.sIx_nat] at h2
    have e : xs.take 1 = xs := List.take_of_length_le (by omega)
    rw [e] at k
    exact k _ H (fun _ _ e => e) ha.sq fun e => by subst e; exact ha
  · rename_i hz
    rw [show (1 : Int) = ((1 : Nat) : Int) from rfl, cut_any]
    refine k _ _ (same_upd np) (.inl (.inl upd_same)) fun e => ?_
    subst e
    exact absurd ⟨rfl, rfl⟩ hz
end
end Cm
namespace Cm
open PySem L2
theorem ev_neg {C : Hp → Prop} {σ : St} {i : Int} : Ev C σ (tUn (rU fun i => .int (-i)) (tC (.int i))) (.int (-i)) := fun H Q _ k => ⟨i, rfl, k _ H (fun _ _ e => e) (.int (-i))⟩
end Cm
namespace Cm
open PySem L2
theorem catA_sq {K : PySem.W.Frag} {H : Hp} {Q : VK} {a b : Addr} {xs ys : List V} (ha : SqT K H a xs) (hb : SqT K H b ys) (hl : xs.length + ys.length ≤ 1000) (k : ∀ w H', Same H H' → SqT K H' w (xs ++ ys) → Q (.ref w) H') : rCatA K (.ref a) (.ref b) H Q := by
  refine ⟨a, b, xs, ys, rfl, rfl, ha, hb, small_le hl, fun e => ?_, fun _ e => ?_, fun _ _ p np => ?_⟩
  · subst e
    exact k _ H (fun _ _ e => e) hb
  · subst e
    rw [List.append_nil] at k
    exact k _ H (fun _ _ e => e) ha
  · exact k _ _ (same_upd np) (.inl (.inl upd_same))
end Cm
end
section
set_option linter.all false
set_option maxRecDepth 100000
set_option maxHeartbeats 4000000
/-! R5: the law's rows of a block, as a dict -/
namespace W1
open PySem L2 Cm
section
variable {P : Program} {w : World} {K : PySem.W.Frag} {mg : Str → Option Value} {base : Heap}
def spLRows (n : Nat) (K : PySem.W.Frag) : Sp := fun vs H Q _ => ∃ (tb tp : Addr) (p : List Int) (x : List Stm), vs = [.ref tb, .ref tp] ∧ Td H (.ref tb) (.tuple (toDs x)) ∧ SqT K H tp (p.map V.int) ∧ depths x < n ∧ x.length ≤ 500 ∧ slims x ∧ (rowsL p 0 x).length ≤ 500 ∧ p.length + 2 * n ≤ 500 ∧
  ∀ d kvs H', Same H H' → H d = none → H' d = some (.dT kvs) → KvL H' kvs (rowsL p 0 x) → Q (.ref d) H'
/-- the dict so far -/
structure Sof (K : PySem.W.Frag) (H Hc : Hp) (d : Addr) (kvs : List (List L2.Key × V)) (done : List (List Int × Stm)) : Prop where
  s : Same H Hc
  d : Hc d = some (.dT kvs)
  k : KvL Hc kvs done
theorem Sof.same {H Hc H' : Hp} {d : Addr} {kvs : List (List L2.Key × V)} {done : List (List Int × Stm)} (h : Sof K H Hc d kvs done) (s : Same Hc H') : Sof K H H' d kvs done := ⟨h.s.trans s, s _ _ h.d, h.k.mono (TK.same s)⟩
theorem Sof.len {H Hc : Hp} {d : Addr} {kvs : List (List L2.Key × V)} {done : List (List Int × Stm)} (h : Sof K H Hc d kvs done) : kvs.length = done.length := Paired.length h.k
theorem same_dict {H Hc : Hp} {d : Addr} {more : List (List L2.Key × V)} (nd : H d = none) (s : Same H Hc) : Same H (upd Hc d (.dT more)) := fun b o e => by
  rw [upd_ne (ne_of_none e nd)]
  exact s b o e
theorem tk_dict {Hc : Hp} {d : Addr} {kvs more : List (List L2.Key × V)} (hd : Hc d = some (.dT kvs)) : TK Hc (upd Hc d (.dT more)) := fun b xs e => by
  rw [upd_ne (ne_of e hd (by intro z; cases z))]
  exact e
theorem catA_r {H : Hp} {Q : VK} {a b : Addr} {xs ys : List V} (ha : SqT K H a xs) (hb : H b = some (.tup ys)) (hy : ys ≠ []) (hl : xs.length + ys.length ≤ 1000) (k : ∀ w H', Same H H' → H' w = some (.tup (xs ++ ys)) → Q (.ref w) H') : rCatA K (.ref a) (.ref b) H Q := by
  refine ⟨a, b, xs, ys, rfl, rfl, ha, .inl (.inl hb), small_le hl, fun e => ?_, fun _ e => absurd e hy, fun _ _ p np => ?_⟩
  · subst e
    exact k _ H (fun _ _ e => e) hb
  · exact k _ _ (same_upd np) upd_same
theorem lrows_body {n k : Nat} {f fB : Addr} {fd fdB : FuncData} (D : Dn K mg "_law_rows" s_law_rows ["_law_block_here", "_law_path"] f fd) (T : Bi mg) (B : Dn K mg "_law_blocks" s_law_blocks ["_law_statement_here"] fB fdB) {sp0 : Sp}
    (GR : FnOk P w K mg base CX0 (k + 1) f fd ["_law_block_here", "_law_path"] sp0) (h0 : ∀ n', n = n' + 1 → ∀ vs H Q E, spLRows n' K vs H Q E → sp0 vs H Q E) : FnOk P w K mg base CX0 (k + 2) f fd ["_law_block_here", "_law_path"] (spLRows n K) := by
  have GB : FnOk P w K mg base CX0 1 fB fdB ["_law_statement_here"] (spLBlocks K) := ok_lblocks B.F
  have nd := sc_law_rows.nd
  refine D.F.ok sc_law_rows (fun vs H Q E h => ?_) (fun cdv A outer s H vs Q E hr h => ?_)
  · obtain ⟨tb, tp, p, x, rfl, _⟩ := h
    rfl
  · obtain ⟨tb, tp, p, x, rfl, hT, hp, hd, hl, hs, hn, hpl, kk⟩ := h
    have hr1 : Room 1 _ := hr.mono (by omega)
    refine ⟨_, pss_cons (ps_set (i := 2) nd rfl (Or.inl rfl) pe_dnewT)
      (pss_cons (ps_for PassesOwn.never rfl (pi_range1 (by rfl) T.range (pa_cons (pe_callB call_len_seq (by rfl) T.len PySem.boot_len (pa_cons (pv 0) pa_nil)) pa_nil)) (pg_name (i := 3) nd rfl (Or.inl rfl))
        (pss_cons (ps_dput (hu_of hr) (pv 2) (pe_op op_catA (pv 1) (pe_tup (pa_cons (pv 3) pa_nil))) (pe_ix ix_tup (pv 0) (pv 3) (fun _ _ => rfl)) rfl)
        (pss_cons (ps_set (i := 4) nd rfl (Or.inl rfl) (pe_call GB hr1 (by rfl) B.g B.F.kp B.b .nil pass0 (pa_cons (pe_ix ix_tup (pv 0) (pv 3) (fun _ _ => rfl)) pa_nil)))
        (pss_one (ps_for PassesOwn.never rfl (pi_range1 (by rfl) T.range (pa_cons (pe_callB call_len_seq (by rfl) T.len PySem.boot_len (pa_cons (pv 4) pa_nil)) pa_nil)) (pg_name (i := 5) nd rfl (Or.inl rfl))
          (pss_one (ps_expr (pe_bmK (K := K) rfl PySem.F.plainAttrs_dict PySem.F.slot_dict_update PySem.F.type_dict_update (mt_updT (hu_of hr)) (pv 2)
            (pa_cons (pe_call GR hr (by rfl) D.g D.F.kp D.b .nil pass0 (pa_cons (pe_ix ix_tup (pv 4) (pv 5) (fun _ _ => rfl)) (pa_cons (pe_op op_catA (pv 1) (pe_tup (pa_cons (pv 3) (pa_cons (pv 5) pa_nil)))) pa_nil))) pa_nil)))))))))
      (pss_one (ps_ret (pv 2)))), ?_⟩
    obtain ⟨b2, xs, eb, hb, tx⟩ := Td.ref_inv hT
    cases eb
    have lx : xs.length = x.length := by rw [tx.length, toDs_length]
    have hbS : SqT K H tb xs := .inl (.inl hb)
    refine fun d nd0 => ?_
    have s0 := same_upd (o := .dT []) nd0
    have e0 : upd H d (.dT []) d = some (.dT []) := upd_same
    generalize upd H d (.dT []) = H0 at s0 e0
    refine ⟨_, rfl, tb, xs, rfl, .inr (sqT_same hbS s0), x.length, by rw [lx], by omega, by omega, ?_⟩
    refine for_range (lo := 0) (n := x.length) (fun i σ Hc => ∃ v3 v4 v5 kvs done, σ = [some (.ref tb), some (.ref tp), some (.ref d), v3, v4, v5] ∧ Sof K H Hc d kvs done ∧ done ++ rowsL p i (x.drop i) = rowsL p 0 x)
      ⟨none, none, none, [], [], rfl, ⟨s0, e0, .nil⟩, rfl⟩ ?_ ?_
    · rintro i σ Hc hi ⟨v3, v4, v5, kvs, done, rfl, so, er⟩
      obtain ⟨st, est⟩ : ∃ st, x[i]? = some st := ⟨x[i], List.getElem?_eq_getElem hi⟩
      rw [rowsL_drop est] at er
      have lde := congrArg List.length er
      simp only [List.length_append, List.length_cons] at lde
      have ndR := rowsL_nd x p 0
      rw [← er] at ndR
      have est2 := toDs_at est
      obtain ⟨u, hu, tu⟩ := tx.get est2
      have hi0 : ((0 : Int) + (i : Nat)) = ((i : Nat) : Int) := Int.zero_add _
      have hu0 : atI xs ((0 : Int) + (i : Nat)) = some u := by rw [hi0]; exact atI_nat hu
      refine ⟨_, rfl, _, rfl, tb, xs, _, u, rfl, rfl, sqT_same hbS so.s, hu0, _, rfl, _, rfl, _, rfl, (by show 1 ≤ sizeLine; decide), fun t1 n1 => ?_⟩
      have s1 := same_upd (o := .tup [.int ((0 : Int) + (i : Nat))]) n1
      refine catA_r (sqT_same (sqT_same hp so.s) s1) upd_same (by simp) (by rw [List.length_map]; show p.length + 1 ≤ 1000; omega) fun e H3 s3 he => ?_
      have s13 := s1.trans s3
      have so3 := so.same s13
      rw [hi0] at he
      have hek : H3 e = some (.tup ((kI (p ++ [(i : Int)])).map kV)) := by rw [he, kI_v, List.map_append]; rfl
      have hfr : valV kvs (kI (p ++ [(i : Int)])) = none := so3.k.fresh (fun hm => by
        obtain ⟨r, hr, e⟩ := List.mem_map.mp hm
        rw [List.map_append, List.nodup_append] at ndR
        exact ndR.2.2 r.1 (List.mem_map.mpr ⟨r, hr, rfl⟩) (p ++ [(i : Int)]) (List.mem_map.mpr ⟨(p ++ [(i : Int)], st), List.mem_cons_self, rfl⟩) e)
      have hlk := so3.len
      refine ⟨d, _, rfl, DPut.t so3.d hek (small1000 (by omega)), ?_⟩
      rw [putK_new u hfr]
      have tk4 : TK H3 (upd H3 d (.dT (kvs ++ [(kI (p ++ [(i : Int)]), u)]))) := tk_dict so3.d
      have so4 : Sof K H (upd H3 d (.dT (kvs ++ [(kI (p ++ [(i : Int)]), u)]))) d (kvs ++ [(kI (p ++ [(i : Int)]), u)]) (done ++ [(p ++ [(i : Int)], st)]) :=
        ⟨same_dict nd0 so3.s, upd_same, (so3.k.mono tk4).append (.cons ⟨rfl, (tu.mono (TK.same so3.s)).mono tk4⟩ .nil)⟩
      generalize upd H3 d (.dT (kvs ++ [(kI (p ++ [(i : Int)]), u)])) = H4 at tk4 so4
      -- the statement's blocks
      refine ⟨_, rfl, _, rfl, tb, xs, _, u, rfl, rfl, sqT_same hbS so4.s, hu0, u, st, rfl, tu.mono (TK.same so4.s), fun tS H5 bs s5 hS tbs => ?_⟩
      have so5 := so4.same s5
      have lb : bs.length = st.inner.length := by rw [tbs.length, List.length_map]
      have hin : st.inner.length ≤ 2 := by cases st <;> simp [Stm.inner]
      refine ⟨_, rfl, tS, bs, rfl, .inr hS, st.inner.length, by rw [lb], by omega, by omega, ?_⟩
      refine for_range (lo := 0) (n := st.inner.length) (fun m σ Hc => ∃ v5 kvs done, σ = [some (.ref tb), some (.ref tp), some (.ref d), some (.int ((0 : Int) + (i : Nat))), some (.ref tS), v5] ∧ Sof K H Hc d kvs done ∧ kvs ≠ [] ∧ SqT K Hc tS bs ∧ TdAll Hc bs (st.inner.map fun x => .tuple (toDs x)) ∧
          done ++ (rowsI (p ++ [(i : Int)]) m (st.inner.drop m) ++ rowsL p (i + 1) (x.drop (i + 1))) = rowsL p 0 x)
        ⟨_, _, _, rfl, so5, by simp, hS, tbs, by rw [← er, List.append_assoc]; rfl⟩ ?_ ?_
      · rintro m σ Hd hm ⟨v5, kvs', done', rfl, so', hne, hS', tbs', er'⟩
        obtain ⟨y, ey⟩ : ∃ y, st.inner[m]? = some y := ⟨st.inner[m], List.getElem?_eq_getElem hm⟩
        rw [rowsI_drop ey] at er'
        have lde' := congrArg List.length er'
        simp only [List.length_append] at lde'
        have ndR' := rowsL_nd x p 0
        rw [← er'] at ndR'
        have hmy : y ∈ st.inner := List.mem_of_getElem? ey
        have hdy := inner_depth hmy
        have hsy := inner_slim hmy (slims_at est hs)
        have hds := depths_at est
        obtain ⟨n', rfl⟩ : ∃ n', n = n' + 1 := ⟨n - 1, by omega⟩
        obtain ⟨v, hv, tv⟩ := tbs'.get (i := m) (d := .tuple (toDs y)) (by rw [List.getElem?_map, ey]; rfl)
        obtain ⟨by_, ys, rfl, hby, tys⟩ := Td.ref_inv tv
        have hm0 : ((0 : Int) + (m : Nat)) = ((m : Nat) : Int) := Int.zero_add _
        have hv0 : atI bs ((0 : Int) + (m : Nat)) = some (.ref by_) := by rw [hm0]; exact atI_nat hv
        refine ⟨_, rfl, .inr (.inr (.inl ⟨rfl, .inr ⟨_, so'.d⟩⟩)), _, rfl, _, rfl, tS, bs, _, _, rfl, rfl, hS', hv0, _, rfl, _, rfl, _, rfl, (by show 2 ≤ sizeLine; decide), fun t2 n2 => ?_⟩
        have s6 := same_upd (o := .tup [.int ((0 : Int) + (i : Nat)), .int ((0 : Int) + (m : Nat))]) n2
        refine catA_r (sqT_same (sqT_same hp so'.s) s6) upd_same (by simp) (by rw [List.length_map]; show p.length + 2 ≤ 1000; omega) fun e2 H7 s7 he2 => ?_
        rw [hi0, hm0] at he2
        have s67 := s6.trans s7
        have so7 := so'.same s67
        have ep : p.map V.int ++ [V.int (i : Int), V.int (m : Int)] = ((p ++ [(i : Int)]) ++ [(m : Int)]).map V.int := by simp
        rw [ep] at he2
        refine h0 n' rfl _ _ _ _ ⟨by_, e2, (p ++ [(i : Int)]) ++ [(m : Int)], y, rfl, .tup (s67 _ _ hby) (tys.mono (TK.same s67)), .inl (.inl he2), by omega, hsy.1, hsy.2, by omega, by simp only [List.length_append, List.length_cons, List.length_nil]; omega, fun d2 kvs2 H8 s8 nd2 hd2 hk2 => ?_⟩
        have so8 := so7.same s8
        have l8 := so8.len
        have l2 : kvs2.length = _ := Paired.length hk2
        have hdd : d ≠ d2 := ne_of_none so7.d nd2
        have so9k : KvL H8 (kvs' ++ kvs2) (done' ++ rowsL ((p ++ [(i : Int)]) ++ [(m : Int)]) 0 y) := so8.k.append hk2
        have ndn : ((kvs' ++ kvs2).map (·.1)).Nodup := so9k.nodup (by
          have pf : (done' ++ rowsL ((p ++ [(i : Int)]) ++ [(m : Int)]) 0 y) <+: (done' ++ (rowsL ((p ++ [(i : Int)]) ++ [(m : Int)]) 0 y ++ rowsI (p ++ [(i : Int)]) (m + 1) (st.inner.drop (m + 1)) ++ rowsL p (i + 1) (x.drop (i + 1)))) := ⟨rowsI (p ++ [(i : Int)]) (m + 1) (st.inner.drop (m + 1)) ++ rowsL p (i + 1) (x.drop (i + 1)), by simp only [List.append_assoc]⟩
          exact ndR'.sublist (pf.map _).sublist)
        have tk9 : TK H8 (upd H8 d (.dT (kvs' ++ kvs2))) := tk_dict so8.d
        refine ⟨d, d2, kvs', kvs2, rfl, rfl, hdd, hne, so8.d, hd2, small_le (by omega), ndn, ⟨_, _, _, rfl, ⟨same_dict nd0 so8.s, upd_same, so9k.mono tk9⟩, fun z => hne (List.append_eq_nil_iff.mp z).1, ?_, ?_, ?_⟩⟩
        · have hS8 : SqT K H8 tS bs := sqT_same (sqT_same hS' s67) s8
          rcases hS8 with (z | ⟨ob, z⟩) | z
          · exact .inl (.inl (tk9 _ _ z))
          · exact .inl (.inr ⟨ob, by rw [upd_ne (ne_of z so8.d (by intro q; cases q))]; exact z⟩)
          · exact .inr z
        · exact (tbs'.mono (TK.same (s67.trans s8))).mono tk9
        · rw [← er']
          simp only [List.append_assoc]
      · rintro σ Hd ⟨v5, kvs', done', rfl, so', hne, hS', tbs', er'⟩
        rw [List.drop_length] at er'
        exact ⟨_, _, _, kvs', done', rfl, so', er'⟩
    · rintro σ Hc ⟨v3, v4, v5, kvs, done, rfl, so, er⟩
      rw [List.drop_length, show rowsL p x.length [] = [] from rfl, List.append_nil] at er
      subst er
      exact ⟨_, rfl, kk d kvs Hc so.s nd0 so.d so.k⟩
theorem ok_lrows {f fB : Addr} {fd fdB : FuncData} (D : Dn K mg "_law_rows" s_law_rows ["_law_block_here", "_law_path"] f fd) (T : Bi mg) (B : Dn K mg "_law_blocks" s_law_blocks ["_law_statement_here"] fB fdB) : ∀ n, FnOk P w K mg base CX0 (n + 2) f fd ["_law_block_here", "_law_path"] (spLRows n K)
  | 0 => lrows_body (k := 0) (sp0 := fun _ _ _ _ => False) D T B ⟨fun _ _ _ _ h => h.elim, fun _ _ _ _ _ _ _ _ _ _ _ _ _ h => h.elim⟩ (fun n' h => by omega)
  | n + 1 => lrows_body (k := n + 1) D T B (ok_lrows D T B n) (fun n' h vs H Q E q => by cases (Nat.succ.inj h); exact q)
end
end W1
end
section
set_option linter.all false
set_option maxRecDepth 100000
set_option maxHeartbeats 4000000
/-! R9: Program.paths, drained -/
namespace Cm
open PySem PySem.Spec PyProof.Rows L2 GenW
def tGIf (c : TT) (t u : TGn) : TGn := fun D ys σ H => c σ H fun b H1 => if b = true then t D ys σ H1 else u D ys σ H1
theorem gs_if {X : Cx} {c : Expr} {a b : List Stmt} {pos : Pos} {tc : TT} {t u : TGn} (hc : PT X c tc) (ha : GSs X a t) (hb : GSs X b u) : GS X (.If c a b pos) (tGIf tc t u) := by
  refine ⟨fun A S ip R n ys s₀ cd fs K J gd lv s σ H D G hn k hI ht => ?_⟩
  rw [arm_exec_If]
  refine seg_bind_wrap (wpAny_standAt (seg_bind_wrap ?_))
  rw [G.over]
  obtain ⟨acc, cc, r, I⟩ := hI
  refine wpAny_mono (hc.run _ s σ H _ I ht) (fun d s1 ⟨H1, I1, q1⟩ => ?_) fun x s' hx => k.exc n s₀ x s' hx
  cases d with
  | true => exact ha.run A S ip R n ys s₀ cd fs K J gd lv s1 σ H1 D G hn k ⟨acc, cc, r, I1⟩ q1
  | false => exact hb.run A S ip R n ys s₀ cd fs K J gd lv s1 σ H1 D G hn k ⟨acc, cc, r, I1⟩ q1
/-- over a tuple -/
theorem gfor_tup {K : PySem.W.Frag} {a : Addr} {xs : List V} {g : TG} {tb : TGn} {D : GEnds} {ys : List V} {σ : L2.St} {H : Hp} (Pv : Nat → List V → L2.St → Hp → Prop) (h0 : Pv 0 ys σ H) (hl : ∀ i ys σ H, i ≤ xs.length → Pv i ys σ H → SqT K H a xs)
    (hs : ∀ i x ys σ H, xs[i]? = some x → Pv i ys σ H → g x σ H fun σ2 H2 => tb { D with nx := Pv (i + 1), ct := Pv (i + 1), bk := D.nx } ys σ2 H2) (hd : ∀ ys σ H, Pv xs.length ys σ H → D.nx ys σ H) :
    ∃ W : Nat → Nat → List V → L2.St → Hp → Prop, (∃ m, W 0 m ys σ H) ∧ ∀ i m ys σ H, W i m ys σ H → ((Itt K a).stop i H ∧ D.nx ys σ H) ∨ ((Itt K a).go i H ∧ ∃ N : List V → L2.St → Hp → Prop, (∀ ys' σ' H', N ys' σ' H' → ∃ m', m' < m ∧ W (i + 1) m' ys' σ' H') ∧
      ∀ x H', (Itt K a).yld i H x H' → g x σ H' fun σ2 H2 => tb { D with nx := N, ct := N, bk := D.nx } ys σ2 H2) := by
  refine ⟨fun i m ys σ H => m = xs.length - i ∧ i ≤ xs.length ∧ Pv i ys σ H, ⟨_, rfl, Nat.zero_le _, h0⟩, ?_⟩
  rintro i m ys σ H ⟨rfl, hi, p⟩
  have q := hl i ys σ H hi p
  rcases Nat.lt_or_ge i xs.length with hlt | hge
  · refine .inr ⟨⟨xs, xs[i], q, List.getElem?_eq_getElem hlt⟩, Pv (i + 1), fun ys' σ' H' p' => ⟨_, by omega, rfl, hlt, p'⟩, fun x H' y => ?_⟩
    obtain ⟨e, y⟩ := y
    subst e
    exact hs i x ys σ _ (y xs q) p
  · obtain rfl : i = xs.length := Nat.le_antisymm hi hge
    exact .inl ⟨⟨xs, q, Nat.le_refl _⟩, hd ys σ H p⟩
end Cm
namespace W1
open PySem L2 Cm
theorem sc_Program_paths : GScope ["self", "word", "path", "statement"] ["self", "word"] (defScope s_Program_paths) := ⟨rfl, rfl, rfl, by decide +kernel, rfl, by decide +kernel, by decide +kernel⟩
def wordV : Option Str → V
  | none => .non
  | some z => .str z
/-- the rows that a word asks for -/
def asked (wo : Option Str) (r : List Int × Stm) : Bool := match wo with
  | none => true
  | some z => decide (r.2.word = z)
def PathV (H : Hp) (v : V) (r : List Int × Stm) : Prop := ∃ tp, v = .ref tp ∧ H tp = some (.tup (r.1.map V.int))
def spPaths (K : PySem.W.Frag) (CP : Addr) : SpG := fun vs H Q _ => ∃ (a : Addr) (wo : Option Str) (names kept : List Str) (x : List Stm), vs = [.ref a, wordV wo] ∧ PObj K CP H a names x kept ∧ (rowsL [] 0 x).length ≤ 500 ∧ ∀ ys H', Same H H' → Paired (PathV H') ys ((rowsL [] 0 x).filter (asked wo)) → Q ys H'
theorem pathV_mono {H H' : Hp} (t : TK H H') {vs : List V} {rs : List (List Int × Stm)} (h : Paired (PathV H) vs rs) : Paired (PathV H') vs rs := Paired.mapP h fun _ _ ⟨tp, e, z⟩ => ⟨tp, e, t _ _ z⟩
theorem paired_snoc {α β : Type} {R : α → β → Prop} {a : α} {b : β} (h : R a b) : ∀ {as : List α} {bs : List β}, Paired R as bs → Paired R (as ++ [a]) (bs ++ [b])
  | _, _, .nil => .cons h .nil
  | _, _, .cons x y => .cons x (paired_snoc h y)
theorem rows_at {H : Hp} : ∀ {vs : List V} {rs : List (List Int × Stm)} {i : Nat} {v : V}, Paired (RowV H) vs rs → vs[i]? = some v → ∃ r, rs[i]? = some r ∧ RowV H v r
  | _, _, 0, v, .cons h _, e => by
    cases e
    exact ⟨_, rfl, h⟩
  | _, _, i + 1, v, .cons _ t, e => by
    obtain ⟨r, e2, h⟩ := rows_at (i := i) t (by simpa using e)
    exact ⟨r, by simpa using e2, h⟩
  | _, _, _, _, .nil, e => by simp at e
section
variable {P : Program} {w : World} {K : PySem.W.Frag} {mg : Str → Option Value} {base : Heap}
theorem ok_paths {CP : Addr} {f : Addr} {qual : Str} {dV kV doc pm cdv ct oc : Value} {an od : Option Addr} {osl : Array (Option Value)} (lk : K.lookup f = some ⟨oc, od, .func (PySem.W.fnOf "paths" qual (defArgs s_Program_paths) (defBody s_Program_paths) (defScope s_Program_paths) dV kV doc pm an cdv ct), osl⟩)
    (hcd : PySem.W.codeIn K cdv qual = true) (PC : PCls K CP) : GFn P w K mg base 1 f (PySem.W.fnOf "paths" qual (defArgs s_Program_paths) (defBody s_Program_paths) (defScope s_Program_paths) dV kV doc pm an cdv ct) ["self", "word"] (spPaths K CP) := by
  have nd := sc_Program_paths.nd
  refine gfn_of lk hcd sc_Program_paths (fun vs H Q E h => ?_) (fun A outer s H vs Q E pn hr h => ?_)
  · obtain ⟨a, wo, names, kept, x, rfl, _⟩ := h
    rfl
  · obtain ⟨a, wo, names, kept, x, rfl, hP, hn, k⟩ := h
    refine ⟨_, gss_cons (gs_for owns_gcx rfl (pi_tup (pe_fld (pv 0) rfl)) (pg_tup (by rfl) (pgs_cons (pg_name (i := 2) nd rfl (Or.inl rfl)) (pgs_cons (pg_name (i := 3) nd rfl (Or.inl rfl)) pgs_nil)))
      (gss_cons (gs_if (PW.pt (pw_or (pt_cmpR op_isN (pv 1) pe_non (nomark _)) (pw_or1 (pt_cmpR op_eq (pe_ix ix_tup (pv 3) pe_int (fun _ _ => rfl)) (pv 1) (nomark _)))))
        (gss_cons (gs_yield (pv 2)) gss_nil) gss_nil) gss_nil)) gss_nil, ?_⟩
    obtain ⟨dx, t, tl, tb, tk, rs, hA, ht, pr, hL, hT, hK⟩ := hP.at_
    generalize hR : rowsL [] 0 x = R at hn k pr
    have lR := rows_len pr
    have htS : SqT K H t rs := .inl (.inl ht)
    refine ⟨_, rfl, a, CP, dx, _, _, rfl, hA, PC.cl, PC.n1, rfl, t, rfl, ⟨_, htS⟩, ?_⟩
    refine gfor_tup (K := K) (a := t) (xs := rs) (fun i ys σ Hc => ∃ v2 v3, σ = [some (.ref a), some (wordV wo), v2, v3] ∧ Same H Hc ∧ ys.length ≤ i ∧ Paired (PathV Hc) ys ((R.take i).filter (asked wo))) ⟨none, none, rfl, fun _ _ e => e, Nat.zero_le _, .nil⟩ (fun i ys σ Hc _ ⟨_, _, _, s, _⟩ => sqT_same htS s) ?_ ?_
    · rintro i v ys σ Hc hv ⟨v2, v3, rfl, sc, hyl, pc⟩
      obtain ⟨r, er, hrow⟩ := rows_at pr hv
      have hi := (List.getElem?_eq_some_iff.mp er).1
      obtain ⟨t1, tp, u, rfl, ht1, htp, tu⟩ := hrow
      obtain ⟨ad, xs, rfl, had, _⟩ := stm_blocks tu
      refine ⟨t1, _, rfl, .inl (.inl (sc _ _ ht1)), rfl, _, _, rfl, _, _, rfl, rfl, ?_⟩
      have hys : ys.length < sizeLine := small1000 (by omega)
      have nxt : asked wo r = true → Paired (PathV Hc) (ys ++ [.ref tp]) ((R.take (i + 1)).filter (asked wo)) := fun c => by
        rw [filter_at er, if_pos c]
        exact paired_snoc ⟨tp, rfl, sc _ _ htp⟩ pc
      cases wo with
      | none => exact ⟨_, rfl, rfl, _, rfl, iteT (iteT ⟨hys, _, rfl, _, _, rfl, sc, by rw [List.length_append]; exact Nat.succ_le_succ hyl, nxt rfl⟩)⟩
      | some z =>
        refine ⟨_, rfl, rfl, _, rfl, iteF ⟨_, rfl, ad, _, 0, _, rfl, rfl, .inl (.inl (sc _ _ had)), at0, _, rfl, rfl, _, rfl, ?_⟩⟩
        have ed : decide (V.str r.2.word = wordV (some z)) = asked (some z) r := by simp [asked, wordV]
        rw [ed]
        cases c : asked (some z) r with
        | true => exact iteT ⟨hys, _, rfl, _, _, rfl, sc, by rw [List.length_append]; exact Nat.succ_le_succ hyl, nxt c⟩
        | false =>
          refine iteF ⟨_, _, rfl, sc, by omega, ?_⟩
          rw [filter_at er, if_neg (by rw [c]; exact Bool.false_ne_true), List.append_nil]
          exact pc
    · rintro ys σ Hc ⟨v2, v3, rfl, sc, hyl, pc⟩
      rw [lR, List.take_length] at pc
      exact k ys Hc sc pc
end
end W1
end
section
set_option linter.all false
set_option maxRecDepth 100000
set_option maxHeartbeats 4000000
/-! L1: a Program's looks; programs as data -/
namespace Cm
open PySem PySem.Spec PyProof.Rows L2
/-- len(o), o of an own class with __len__ -/
def rLenOwn (C : Addr) (sp : Sp) (E : XK) : List V → Hp → VK → Prop := fun xs H Q => ∃ (a dx : Addr) (fs : List (Str × V)), xs = [.ref a] ∧ H a = some (.ins C dx fs) ∧ sp [.ref a] H (fun v H' => ∃ n : Nat, v = .int n ∧ n ≤ sizeLine ∧ Q (.int n) H') E
theorem call_lenOwn {X : Cx} {CX : CXT} {n : Nat} {C f : Addr} {fd : FuncData} {ps : List Str} {sp : Sp} {E : XK} (F : FnOk X.prog X.w X.K X.mg X.base CX n f fd ps sp) (hs : PySem.W.findIn X.K (.ref C) "__len__" = some (some (.ref f))) (hf : PySem.W.isFn X.K (.ref f) = true)
    (hb : Binds X.K fd ps []) (hr : Room (n + 1) X.A) (hE : CX = CX0) : CallR X (.builtin "len") (rLenOwn C sp E) := by
  intro pins s σ H xs us Q I r h
  obtain ⟨a, dx, fs, rfl, ha, q⟩ := h
  obtain ⟨u, rfl, rx⟩ := r.one
  cases (show u = Value.ref a from rx)
  obtain ⟨mA, O, _⟩ := ins_get I.hok ha
  obtain ⟨od, J, _⟩ := O.look
  obtain ⟨m, hF⟩ := I.fr
  subst hE
  refine PySem.W.len_K hF I.ok.mod.kin J hs hf ?_
  have hl : ([Value.ref a] : List Value).length = ps.length := (F.len _ _ _ _ q)
  have b := hb s [.ref a] I.kIn (by rw [List.append_nil]; exact hl)
  rw [List.append_nil] at b
  refine wpAny_call (codeAny_mono (F.run X.A.in1 X.stack s H ⟨[.ref a], []⟩ [.ref a] [.ref a] _ E hr.in1 I.env0.in1 b (.cons rfl .nil) q) fun r s' hq => ?_)
  cases r with
  | error e => exact hq.elim
  | ok fl =>
    cases fl with
    | ret u =>
      obtain ⟨v, H', I', rv, k, rfl, hk, qq⟩ := I.after hq
      obtain ⟨t, rfl⟩ := rv
      have := sizeLine_eq
      exact ⟨⟨by omega, by omega⟩, .int k, H', I'.tok _, ⟨_, rfl⟩, qq⟩
    | next => exact hq.elim
    | brk => exact hq.elim
    | cont => exact hq.elim
end Cm
namespace W1
open PySem L2 Cm
section
variable {P : Program} {w : World} {K : PySem.W.Frag} {mg : Str → Option Value} {base : Heap}
def spPLen (K : PySem.W.Frag) (CP : Addr) : Sp := fun vs H Q _ => ∃ (a : Addr) (names kept : List Str) (x : List Stm), vs = [.ref a] ∧ PObj K CP H a names x kept ∧ Q (.int (rowsL [] 0 x).length) H
theorem ok_plen {CP f : Addr} {fd : FuncData} (F : Fun K "__len__" "Program.__len__" s_Program_len f fd) (T : Bi mg) (PC : PCls K CP) : FnOk P w K mg base CX0 1 f fd ["self"] (spPLen K CP) := by
  refine F.ok sc_Program_len (fun vs H Q E h => ?_) (fun cdv A outer s H vs Q E hr h => ?_)
  · obtain ⟨a, names, kept, x, rfl, _⟩ := h
    rfl
  · obtain ⟨a, names, kept, x, rfl, hP, k⟩ := h
    refine ⟨_, pss_one (ps_ret (pe_callB call_len_seq (by rfl) T.len PySem.boot_len (pa_cons (pe_fld (pv 0) rfl) pa_nil))), ?_⟩
    obtain ⟨dx, t, tl, tb, tk, rs, hA, ht, pr, hL, hT, hK⟩ := hP.at_
    refine ⟨_, rfl, a, CP, dx, _, _, rfl, hA, PC.cl, PC.n1, rfl, t, rs, rfl, .inr (.inl (.inl ht)), ?_⟩
    rw [rows_len pr]
    exact k
/-- a getter -/
theorem ok_pget {CP f : Addr} {fd : FuncData} {x qual fl : Str} {st : Stmt} {p1 p2 p3 : Pos} (F : Fun K x qual st f fd) (S : FnScope ["self"] ["self"] (defScope st)) (hb : defBody st = [.Return (some (.Attribute (.Name "self" p1) fl p2)) p3]) (c : Cls K CP) (n : NoAttr K CP fl) : FnOk P w K mg base CX0 1 f fd ["self"] (getSp CP fl) := by
  obtain ⟨oc, od, kV, doc, pm, an, cdv, ct, osl, rfl, lk, hcd⟩ := F.ex
  exact fn_getter lk hcd S rfl hb c n
end
/-! ### programs as data: not deep, not long -/
mutual
theorem toD_depth : ∀ (s : Stm), s.fine → s.toD.depth ≤ 2 * s.depth + 1
  | .ask k a b c x, h => by
    have := toDs_depth x h.2
    simp only [Stm.toD, PyData.depth, PyData.depthAll, Stm.depth]
    omega
  | .move a b, h => by simp only [Stm.toD, PyData.depth, PyData.depthAll, Stm.depth]; omega
  | .part a b, h => by simp only [Stm.toD, PyData.depth, PyData.depthAll, Stm.depth]; omega
  | .tell a b, h => by simp only [Stm.toD, PyData.depth, PyData.depthAll, Stm.depth]; omega
  | .iff a x y, h => by
    have h1 := toDs_depth x h.2.1
    have h2 := toDs_depth y h.2.2
    simp only [Stm.toD, PyData.depth, PyData.depthAll, Stm.depth]
    omega
  | .whl a x, h => by
    have := toDs_depth x h.2
    simp only [Stm.toD, PyData.depth, PyData.depthAll, Stm.depth]
    omega
  | .tms n x, h => by
    have := toDs_depth x h.2
    have hn : n.depth = 0 := by rcases h.1 with ⟨i, rfl⟩ | ⟨b, rfl⟩ <;> simp only [PyData.depth]
    simp only [Stm.toD, PyData.depth, PyData.depthAll, Stm.depth, hn]
    omega
  | .fin, h => by simp only [Stm.toD, PyData.depth, PyData.depthAll, Stm.depth]; omega
theorem toDs_depth : ∀ (x : List Stm), fines x → PyData.depthAll (toDs x) ≤ 2 * depths x + 1
  | [], h => by simp only [toDs, PyData.depthAll]; omega
  | s :: r, h => by
    have h1 := toD_depth s h.1
    have h2 := toDs_depth r h.2
    simp only [toDs, PyData.depthAll, depths]
    omega
end
mutual
theorem toD_slim : ∀ (s : Stm), s.fine → s.slim → slimD s.toD
  | .ask k a b c x, h, g => by
    have := toDs_slim x h.2 g.2
    simp only [Stm.toD, slimD, slimDs, List.length_cons, List.length_nil, toDs_length]
    exact ⟨by omega, trivial, trivial, trivial, trivial, ⟨g.1, this⟩, trivial⟩
  | .move a b, h, g => by simp [Stm.toD, slimD, slimDs]
  | .part a b, h, g => by simp [Stm.toD, slimD, slimDs]
  | .tell a b, h, g => by simp [Stm.toD, slimD, slimDs]
  | .iff a x y, h, g => by
    have h1 := toDs_slim x h.2.1 g.1.2
    have h2 := toDs_slim y h.2.2 g.2.2
    simp only [Stm.toD, slimD, slimDs, List.length_cons, List.length_nil, toDs_length]
    exact ⟨by omega, trivial, trivial, ⟨g.1.1, h1⟩, ⟨g.2.1, h2⟩, trivial⟩
  | .whl a x, h, g => by
    have := toDs_slim x h.2 g.2
    simp only [Stm.toD, slimD, slimDs, List.length_cons, List.length_nil, toDs_length]
    exact ⟨by omega, trivial, trivial, ⟨g.1, this⟩, trivial⟩
  | .tms n x, h, g => by
    have := toDs_slim x h.2 g.2
    have hn : slimD n := by rcases h.1 with ⟨i, rfl⟩ | ⟨b, rfl⟩ <;> simp [slimD]
    simp only [Stm.toD, slimD, slimDs, List.length_cons, List.length_nil, toDs_length]
    exact ⟨by omega, trivial, hn, ⟨g.1, this⟩, trivial⟩
  | .fin, h, g => by simp [Stm.toD, slimD, slimDs]
theorem toDs_slim : ∀ (x : List Stm), fines x → slims x → slimDs (toDs x)
  | [], h, g => by simp [toDs, slimDs]
  | s :: r, h, g => by
    simp only [toDs, slimDs]
    exact ⟨toD_slim s h.1 g.1, toDs_slim r h.2 g.2⟩
end
theorem strs_depth (l : List Str) : PyData.depthAll (l.map .str) = 0 := by
  induction l with
  | nil => simp [PyData.depthAll]
  | cons a r ih => simp [PyData.depthAll, PyData.depth, ih]
theorem strs_slim (l : List Str) : slimDs (l.map .str) := by
  induction l with
  | nil => simp [slimDs]
  | cons a r ih => exact ⟨trivial, ih⟩
theorem ints_depth (l : List Int) : PyData.depthAll (l.map .int) = 0 := by
  induction l with
  | nil => simp [PyData.depthAll]
  | cons a r ih => simp [PyData.depthAll, PyData.depth, ih]
theorem ints_slim (l : List Int) : slimDs (l.map .int) := by
  induction l with
  | nil => simp [slimDs]
  | cons a r ih => exact ⟨trivial, ih⟩
theorem dq_strs {K : PySem.W.Frag} {H : Hp} : ∀ l : List Str, DqAll K H (l.map V.str) (l.map .str)
  | [] => .nil
  | x :: r => .cons (.str x) (dq_strs r)
theorem dq_ints {K : PySem.W.Frag} {H : Hp} : ∀ l : List Int, DqAll K H (l.map V.int) (l.map .int)
  | [] => .nil
  | x :: r => .cons (.int x) (dq_ints r)
/-- the paths of rows, as data -/
def pathD (rs : List (List Int × Stm)) : List PyData := rs.map fun r => .tuple (r.1.map .int)
theorem paths_depth (rs : List (List Int × Stm)) : PyData.depthAll (pathD rs) ≤ 1 := by
  induction rs with
  | nil => simp [pathD, PyData.depthAll]
  | cons a r ih =>
    simp only [pathD, List.map_cons, PyData.depthAll, PyData.depth, ints_depth] at ih ⊢
    omega
theorem paths_slim {rs : List (List Int × Stm)} (h : ∀ r ∈ rs, r.1.length ≤ 500) : slimDs (pathD rs) := by
  induction rs with
  | nil => simp [pathD, slimDs]
  | cons a r ih => exact ⟨⟨by rw [List.length_map]; exact h a List.mem_cons_self, ints_slim _⟩, ih fun z hz => h z (List.mem_cons_of_mem _ hz)⟩
theorem dq_paths {K : PySem.W.Frag} {H : Hp} : ∀ {vs : List V} {rs : List (List Int × Stm)}, Paired (PathV H) vs rs → DqAll K H vs (pathD rs)
  | _, _, .nil => .nil
  | _, _, .cons ⟨tp, e, z⟩ t => by
    subst e
    exact .cons (.tup (.inl (.inl z)) (dq_ints _)) (dq_paths t)
theorem dq_keys {K : PySem.W.Frag} {H : Hp} : ∀ {kvs : List (List L2.Key × V)} {bs : List Addr} {rs : List (List Int × Stm)}, Paired (fun p b => H b = some (.tup (p.1.map kV))) kvs bs → KvL H kvs rs → DqAll K H (bs.map V.ref) (pathD rs)
  | _, _, _, .nil, .nil => .nil
  | _, _, _, .cons h t, .cons g u => by
    have e := g.1
    rw [e, kI_v] at h
    exact .cons (.tup (.inl (.inl h)) (dq_ints _)) (dq_keys t u)
theorem eqv_strs (l : List Str) : PyData.eqv (.tuple (l.map .str)) (.tuple (l.map .str)) = true := by
  have h : PyData.eqvAll (l.map .str) (l.map .str) = true := by
    induction l with
    | nil => simp [PyData.eqvAll]
    | cons a r ih => simp [PyData.eqvAll, PyData.eqv, ih]
  simpa [PyData.eqv] using h
theorem shaped_tup {xs : List Str} (h : ∀ x ∈ xs, okS x) : SeqAt.shaped (.tuple (xs.map .str)) = true := by
  have z := shaped_strs h
  unfold SeqAt.shaped at z ⊢
  rw [Bool.and_eq_true, decide_eq_true_iff] at z ⊢
  simpa only [PyData.canLay0, PyData.depth] using z
end W1
end
section
set_option linter.all false
set_option maxRecDepth 100000
set_option maxHeartbeats 4000000
/-! X1: a statement at a path, a block with another one there -/
namespace W1
open PySem L2 Cm
def at1 (bs : List (List Stm)) (n k : Int) : Option Stm := if 0 ≤ n ∧ 0 ≤ k then (bs[n.toNat]?).bind fun x => x[k.toNat]? else none
def foundR : List (List Stm) → Option Stm → List Int → Option Stm
  | bs, st, n :: k :: r => (at1 bs n k).bind fun s => foundR s.inner (some s) r
  | _, st, _ => st
def foundAt (x : List Stm) (p : List Int) : Option Stm := if p.length % 2 = 0 then none else foundR [x] none (0 :: p)
theorem mem_rowsL {z : List Int × Stm} : ∀ {x : List Stm} {q : List Int} {i : Nat}, z ∈ rowsL q i x ↔ ∃ k s, x[k]? = some s ∧ (z = (q ++ [((i + k : Nat) : Int)], s) ∨ z ∈ rowsS (q ++ [((i + k : Nat) : Int)]) s)
  | [], q, i => by simp [rowsL]
  | s0 :: l, q, i => by
    have ih := @mem_rowsL z l q (i + 1)
    simp only [rowsL, List.mem_cons, List.mem_append, ih]
    constructor
    · rintro (h | h | ⟨k, s, e, h⟩)
      · exact ⟨0, s0, rfl, .inl (by simpa using h)⟩
      · exact ⟨0, s0, rfl, .inr (by simpa using h)⟩
      · refine ⟨k + 1, s, by simpa using e, ?_⟩
        rw [show i + (k + 1) = i + 1 + k by omega]
        exact h
    · rintro ⟨k, s, e, h⟩
      cases k with
      | zero =>
        simp only [List.getElem?_cons_zero, Option.some.injEq] at e
        subst e
        rcases h with h | h
        · exact .inl (by simpa using h)
        · exact .inr (.inl (by simpa using h))
      | succ k =>
        refine .inr (.inr ⟨k, s, by simpa using e, ?_⟩)
        rw [show i + 1 + k = i + (k + 1) by omega]
        exact h
theorem mem_rowsI {z : List Int × Stm} : ∀ {bs : List (List Stm)} {q : List Int} {n : Nat}, z ∈ rowsI q n bs ↔ ∃ m b, bs[m]? = some b ∧ z ∈ rowsL (q ++ [((n + m : Nat) : Int)]) 0 b
  | [], q, n => by simp [rowsI]
  | b0 :: l, q, n => by
    have ih := @mem_rowsI z l q (n + 1)
    simp only [rowsI, List.mem_append, ih]
    constructor
    · rintro (h | ⟨m, b, e, h⟩)
      · exact ⟨0, b0, rfl, by simpa using h⟩
      · refine ⟨m + 1, b, by simpa using e, ?_⟩
        rw [show n + (m + 1) = n + 1 + m by omega]
        exact h
    · rintro ⟨m, b, e, h⟩
      cases m with
      | zero =>
        simp only [List.getElem?_cons_zero, Option.some.injEq] at e
        subst e
        exact .inl (by simpa using h)
      | succ m =>
        refine .inr ⟨m, b, by simpa using e, ?_⟩
        rw [show n + 1 + m = n + (m + 1) by omega]
        exact h
theorem mem_rowsS {z : List Int × Stm} {q : List Int} {s : Stm} : z ∈ rowsS q s ↔ ∃ (m : Nat) (b : List Stm) (k : Nat) (u : Stm), s.inner[m]? = some b ∧ b[k]? = some u ∧ (z = (q ++ [(m : Int), (k : Int)], u) ∨ z ∈ rowsS (q ++ [(m : Int), (k : Int)]) u) := by
  rw [rowsS_inner, mem_rowsI]
  constructor
  · rintro ⟨m, b, e, h⟩
    obtain ⟨k, u, e2, h⟩ := mem_rowsL.mp h
    refine ⟨m, b, k, u, e, e2, ?_⟩
    simpa using h
  · rintro ⟨m, b, k, u, e, e2, h⟩
    refine ⟨m, b, e, mem_rowsL.mpr ⟨k, u, e2, ?_⟩⟩
    simpa using h
theorem at1_iff {bs : List (List Stm)} {n k : Int} {u : Stm} : at1 bs n k = some u ↔ ∃ (m j : Nat) (b : List Stm), n = m ∧ k = j ∧ bs[m]? = some b ∧ b[j]? = some u := by
  unfold at1
  constructor
  · intro h
    split at h
    · rename_i c
      cases e : bs[n.toNat]? with
      | none => rw [e] at h; cases h
      | some b =>
        rw [e] at h
        exact ⟨n.toNat, k.toNat, b, by omega, by omega, e, h⟩
    · cases h
  · rintro ⟨m, j, b, rfl, rfl, e1, e2⟩
    rw [if_pos ⟨by omega, by omega⟩]
    simp [e1, e2]
theorem found_mem : ∀ (r : List Int) (q : List Int) (s t : Stm), r.length % 2 = 0 → (foundR s.inner (some s) r = some t ↔ (r = [] ∧ t = s) ∨ (q ++ r, t) ∈ rowsS q s)
  | [], q, s, t, _ => by
    simp only [foundR, Option.some.injEq, true_and]
    constructor
    · intro h
      exact .inl h.symm
    · rintro (h | h)
      · exact h.symm
      · obtain ⟨b, j, z, e⟩ := rowsS_form s q _ h
        simp at e
  | [_], q, s, t, h => by simp at h
  | n :: k :: r, q, s, t, h => by
    have hr : r.length % 2 = 0 := by simp only [List.length_cons] at h; omega
    have hne : ¬ (n :: k :: r = [] ∧ t = s) := fun z => by cases z.1
    simp only [foundR, Option.bind_eq_some_iff, at1_iff]
    constructor
    · rintro ⟨u, ⟨m, j, b, rfl, rfl, e1, e2⟩, hu⟩
      refine .inr (mem_rowsS.mpr ⟨m, b, j, u, e1, e2, ?_⟩)
      rcases (found_mem r (q ++ [(m : Int), (j : Int)]) u t hr).mp hu with ⟨rfl, rfl⟩ | h2
      · exact .inl rfl
      · exact .inr (by simpa using h2)
    · rintro (z | z)
      · exact absurd z hne
      · obtain ⟨m, b, j, u, e1, e2, hz⟩ := mem_rowsS.mp z
        rcases hz with hz | hz
        · have e := (Prod.mk.inj hz).1
          have e3 := (Prod.mk.inj hz).2
          have e4 := List.append_cancel_left e
          simp only [List.cons.injEq] at e4
          obtain ⟨rfl, rfl, rfl⟩ := e4
          subst e3
          exact ⟨t, ⟨m, j, b, rfl, rfl, e1, e2⟩, rfl⟩
        · obtain ⟨b', j', w', e⟩ := rowsS_form u _ _ hz
          have e' : q ++ (n :: k :: r) = q ++ ((m : Int) :: (j : Int) :: (b' :: (j' : Int) :: w')) := by simpa using e
          have e4 := List.append_cancel_left e'
          simp only [List.cons.injEq] at e4
          obtain ⟨rfl, rfl, rfl⟩ := e4
          exact ⟨u, ⟨m, j, b, rfl, rfl, e1, e2⟩, (found_mem _ (q ++ [(m : Int), (j : Int)]) u t hr).mpr (.inr (by simpa using hz))⟩
theorem odd2 {p : List Int} {b : Int} {r : List Int × Stm} (h : r.1.length % 2 = ((p ++ [b]).length + 1) % 2) : r.1.length % 2 = p.length % 2 := by
  rw [List.length_append, List.length_singleton] at h
  omega
mutual
theorem rowsS_odd : ∀ (s : Stm) (p : List Int), ∀ r ∈ rowsS p s, r.1.length % 2 = p.length % 2
  | .ask _ _ _ _ x, p, r, h => odd2 (rowsL_odd x (p ++ [0]) 0 r (by simpa [rowsS] using h))
  | .iff _ x y, p, r, h => by
    rcases (by simpa [rowsS] using h : r ∈ rowsL (p ++ [0]) 0 x ∨ r ∈ rowsL (p ++ [1]) 0 y) with h | h
    · exact odd2 (rowsL_odd x (p ++ [0]) 0 r h)
    · exact odd2 (rowsL_odd y (p ++ [1]) 0 r h)
  | .whl _ x, p, r, h => odd2 (rowsL_odd x (p ++ [0]) 0 r (by simpa [rowsS] using h))
  | .tms _ x, p, r, h => odd2 (rowsL_odd x (p ++ [0]) 0 r (by simpa [rowsS] using h))
  | .move _ _, p, r, h => by simp [rowsS] at h
  | .part _ _, p, r, h => by simp [rowsS] at h
  | .tell _ _, p, r, h => by simp [rowsS] at h
  | .fin, p, r, h => by simp [rowsS] at h
theorem rowsL_odd : ∀ (x : List Stm) (p : List Int) (i : Nat), ∀ r ∈ rowsL p i x, r.1.length % 2 = (p.length + 1) % 2
  | [], p, i, r, h => by simp [rowsL] at h
  | s :: l, p, i, r, h => by
    rcases (by simpa [rowsL] using h : r = (p ++ [(i : Int)], s) ∨ r ∈ rowsS (p ++ [(i : Int)]) s ∨ r ∈ rowsL p (i + 1) l) with h | h | h
    · subst h
      simp
    · have := rowsS_odd s (p ++ [(i : Int)]) r h
      simpa using this
    · exact rowsL_odd l p (i + 1) r h
end
/-- a path has a statement when it is one of the rows' -/
theorem found_iff {x : List Stm} {p : List Int} {t : Stm} : foundAt x p = some t ↔ (p, t) ∈ rowsL [] 0 x := by
  unfold foundAt
  constructor
  · intro h
    split at h
    · cases h
    · rename_i hp
      match p, hp with
      | k :: r, hp =>
        have hr : r.length % 2 = 0 := by simp only [List.length_cons] at hp; omega
        simp only [foundR, Option.bind_eq_some_iff, at1_iff] at h
        obtain ⟨u, ⟨m, j, b, e0, rfl, e1, e2⟩, hu⟩ := h
        obtain rfl : m = 0 := by omega
        cases e1
        refine mem_rowsL.mpr ⟨j, u, e2, ?_⟩
        rcases (found_mem r [(j : Int)] u t hr).mp hu with ⟨rfl, rfl⟩ | h2
        · exact .inl (by simp)
        · exact .inr (by simpa using h2)
  · intro h
    obtain ⟨j, u, e2, hz⟩ := mem_rowsL.mp h
    rcases hz with hz | hz
    · have e := (Prod.mk.inj hz).1
      have e3 := (Prod.mk.inj hz).2
      simp only [Nat.zero_add, List.nil_append] at e
      subst e e3
      rw [if_neg (by simp)]
      simp only [foundR, Option.bind_eq_some_iff, at1_iff]
      exact ⟨t, ⟨0, j, x, rfl, rfl, rfl, e2⟩, rfl⟩
    · simp only [Nat.zero_add, List.nil_append] at hz
      have hl := rowsS_odd u [(j : Int)] _ hz
      obtain ⟨b', j', w', e⟩ := rowsS_form u _ _ hz
      have e' : p = (j : Int) :: (b' :: (j' : Int) :: w') := by simpa using e
      subst e'
      have hw : (b' :: (j' : Int) :: w').length % 2 = 0 := by simp only [List.length_cons, List.length_nil] at hl ⊢; omega
      rw [if_neg (by simp only [List.length_cons] at hw ⊢; omega)]
      simp only [foundR, Option.bind_eq_some_iff, at1_iff]
      exact ⟨u, ⟨0, j, x, rfl, rfl, rfl, e2⟩, by
        have := (found_mem (b' :: (j' : Int) :: w') [(j : Int)] u t hw).mpr (.inr (by simpa using hz))
        simpa [foundR, Option.bind_eq_some_iff, at1_iff] using this⟩
end W1
end
section
set_option linter.all false
set_option maxRecDepth 100000
set_option maxHeartbeats 4000000
/-! X2: a block with another statement at a path -/
namespace W1
open PySem L2 Cm
def _root_.Cm.Stm.put : Stm → Nat → List Stm → Stm
  | .ask k a b c _, 0, y => .ask k a b c y
  | .iff a _ z, 0, y => .iff a y z
  | .iff a x _, 1, y => .iff a x y
  | .whl a _, 0, y => .whl a y
  | .tms n _, 0, y => .tms n y
  | s, _, _ => s
def putAt : List Stm → List Int → Stm → List Stm
  | x, k :: n :: r, t => match x[k.toNat]? with
    | some s => match s.inner[n.toNat]? with
      | some b => x.set k.toNat (s.put n.toNat (putAt b r t))
      | none => x
    | none => x
  | x, [k], t => x.set k.toNat t
  | x, [], _ => x
/-- there is a statement at the path -/
def HasAt : List Stm → List Int → Prop
  | x, k :: n :: r => ∃ (j : Nat) (s : Stm) (m : Nat) (b : List Stm), k = j ∧ n = m ∧ x[j]? = some s ∧ s.inner[m]? = some b ∧ HasAt b r
  | x, [k] => ∃ (j : Nat) (s : Stm), k = j ∧ x[j]? = some s
  | _, [] => False
theorem put_inner {s : Stm} {m : Nat} {b y : List Stm} (h : s.inner[m]? = some b) : (s.put m y).inner = s.inner.set m y := by
  cases s <;> simp only [Stm.inner] at h
  case iff a u v =>
    match m, h with
    | 0, _ => rfl
    | 1, _ => rfl
    | m + 2, h => simp at h
  all_goals first | (match m, h with | 0, _ => rfl | m + 1, h => simp at h) | simp at h
theorem put_word (s : Stm) (m : Nat) (y : List Stm) : (s.put m y).word = s.word := by
  cases s <;> first | rfl | (match m with | 0 => rfl | 1 => rfl | _ + 2 => rfl)
theorem put_names (s : Stm) (m : Nat) (y : List Stm) : (s.put m y).names = s.names := by
  cases s <;> first | rfl | (match m with | 0 => rfl | 1 => rfl | _ + 2 => rfl)
theorem put_odd (s : Stm) (m : Nat) (y : List Stm) : (s.put m y).odd = s.odd := by
  cases s <;> first | rfl | (match m with | 0 => rfl | 1 => rfl | _ + 2 => rfl)
theorem put_faulty (names : List Str) (p : List Int) (s : Stm) (m : Nat) (y : List Stm) : faulty names p (s.put m y) = faulty names p s := by
  unfold faulty
  rw [put_names, put_odd]
theorem set_get {x : List Stm} {j k : Nat} {t u : Stm} (h : (x.set j t)[k]? = some u) : (k = j ∧ u = t) ∨ (k ≠ j ∧ x[k]? = some u) := by
  rw [List.getElem?_set] at h
  by_cases e : j = k
  · subst e
    rw [if_pos rfl] at h
    split at h
    · cases h; exact .inl ⟨rfl, rfl⟩
    · cases h
  · rw [if_neg e] at h
    exact .inr ⟨fun z => e z.symm, h⟩
theorem setb_get {x : List (List Stm)} {j k : Nat} {t u : List Stm} (h : (x.set j t)[k]? = some u) : (k = j ∧ u = t) ∨ (k ≠ j ∧ x[k]? = some u) := by
  rw [List.getElem?_set] at h
  by_cases e : j = k
  · subst e
    rw [if_pos rfl] at h
    split at h
    · cases h; exact .inl ⟨rfl, rfl⟩
    · cases h
  · rw [if_neg e] at h
    exact .inr ⟨fun z => e z.symm, h⟩
theorem has_at : ∀ {p : List Int} {x : List Stm} {q : List Int} {s : Stm}, (q ++ p, s) ∈ rowsL q 0 x → HasAt x p
  | [], x, q, s, h => by
    obtain ⟨j, w, e, _⟩ := rowsL_form x q 0 _ h
    simp at e
  | [k], x, q, s, h => by
    obtain ⟨j, u, e, hz⟩ := mem_rowsL.mp h
    rcases hz with hz | hz
    · have e4 := List.append_cancel_left (Prod.mk.inj hz).1
      simp only [Nat.zero_add, List.cons.injEq, and_true] at e4
      exact ⟨j, u, e4, e⟩
    · have := rowsS_odd u _ _ hz
      obtain ⟨b', j', w', e'⟩ := rowsS_form u _ _ hz
      have e2 : q ++ [k] = q ++ (((0 + j : Nat) : Int) :: b' :: (j' : Int) :: w') := by simpa using e'
      have e4 := List.append_cancel_left e2
      simp at e4
  | k :: n :: r, x, q, s, h => by
    obtain ⟨j, u, e, hz⟩ := mem_rowsL.mp h
    rcases hz with hz | hz
    · have e4 := List.append_cancel_left (Prod.mk.inj hz).1
      simp at e4
    · rw [rowsS_inner] at hz
      obtain ⟨m, b, eb, hz⟩ := mem_rowsI.mp hz
      obtain ⟨j', w', e', _⟩ := rowsL_form b _ 0 _ hz
      have e2 : q ++ (k :: n :: r) = q ++ ((j : Int) :: (m : Int) :: (j' : Int) :: w') := by simpa using e'
      have e4 := List.append_cancel_left e2
      simp only [List.cons.injEq] at e4
      obtain ⟨rfl, rfl, rfl⟩ := e4
      refine ⟨j, u, m, b, rfl, rfl, e, eb, has_at (q := q ++ [(j : Int), (m : Int)]) (s := s) ?_⟩
      simpa using hz
/-- the rows of the block with another statement -/
theorem put_rows {t : Stm} (ht : t.inner = []) : ∀ {p : List Int} {x : List Stm} {q : List Int}, HasAt x p → ∀ r ∈ rowsL q 0 (putAt x p t), r = (q ++ p, t) ∨ ∃ s, (r.1, s) ∈ rowsL q 0 x ∧ (∀ names, faulty names r.1 r.2 = faulty names r.1 s)
  | [], x, q, h, _, _ => h.elim
  | [k], x, q, ⟨j, s, ek, ex⟩, r, hr => by
    subst ek
    obtain ⟨k', u, e, hz⟩ := mem_rowsL.mp hr
    simp only [putAt, Int.toNat_natCast] at e
    rcases set_get e with ⟨rfl, rfl⟩ | ⟨ne, e⟩
    · rcases hz with hz | hz
      · left
        simpa using hz
      · rw [rowsS_inner, ht] at hz
        simp [rowsI] at hz
    · exact .inr ⟨r.2, mem_rowsL.mpr ⟨k', u, e, hz⟩, fun _ => rfl⟩
  | k :: n :: p', x, q, ⟨j, s, m, b, ek, en, ex, eb, hh⟩, r, hr => by
    subst ek en
    simp only [putAt, Int.toNat_natCast, ex, eb] at hr
    obtain ⟨k', u, e, hz⟩ := mem_rowsL.mp hr
    rcases set_get e with ⟨rfl, rfl⟩ | ⟨ne, e⟩
    · rcases hz with hz | hz
      · refine .inr ⟨s, mem_rowsL.mpr ⟨k', s, ex, .inl (by rw [hz])⟩, fun names => ?_⟩
        rw [hz]
        exact put_faulty ..
      · rw [rowsS_inner, put_inner eb] at hz
        obtain ⟨m', b', e', hz⟩ := mem_rowsI.mp hz
        rcases setb_get e' with ⟨rfl, rfl⟩ | ⟨ne, e'⟩
        · rcases put_rows ht hh r hz with rfl | ⟨s', hs, hf⟩
          · left
            simp
          · exact .inr ⟨s', mem_rowsL.mpr ⟨k', s, ex, .inr (by rw [rowsS_inner]; exact mem_rowsI.mpr ⟨m', b, eb, hs⟩)⟩, hf⟩
        · exact .inr ⟨r.2, mem_rowsL.mpr ⟨k', s, ex, .inr (by rw [rowsS_inner]; exact mem_rowsI.mpr ⟨m', b', e', hz⟩)⟩, fun _ => rfl⟩
    · exact .inr ⟨r.2, mem_rowsL.mpr ⟨k', u, e, hz⟩, fun _ => rfl⟩
theorem put_has {t : Stm} : ∀ {p : List Int} {x : List Stm} {q : List Int}, HasAt x p → (q ++ p, t) ∈ rowsL q 0 (putAt x p t)
  | [], x, q, h => h.elim
  | [k], x, q, ⟨j, s, ek, ex⟩ => by
    subst ek
    have hj := (List.getElem?_eq_some_iff.mp ex).1
    refine mem_rowsL.mpr ⟨j, t, ?_, .inl (by simp)⟩
    simp only [putAt, Int.toNat_natCast]
    rw [List.getElem?_set, if_pos rfl, if_pos hj]
  | k :: n :: p', x, q, ⟨j, s, m, b, ek, en, ex, eb, hh⟩ => by
    subst ek en
    have hj := (List.getElem?_eq_some_iff.mp ex).1
    have hm := (List.getElem?_eq_some_iff.mp eb).1
    simp only [putAt, Int.toNat_natCast, ex, eb]
    refine mem_rowsL.mpr ⟨j, s.put m (putAt b p' t), by rw [List.getElem?_set, if_pos rfl, if_pos hj], .inr ?_⟩
    rw [rowsS_inner, put_inner eb]
    refine mem_rowsI.mpr ⟨m, putAt b p' t, by rw [List.getElem?_set, if_pos rfl, if_pos hm], ?_⟩
    have := put_has (t := t) (q := q ++ [((0 + j : Nat) : Int)] ++ [((0 + m : Nat) : Int)]) hh
    simpa using this
/-- what is kept of all statements -/
structure Closed (Pr : Stm → Prop) : Prop where
  inn : ∀ s, Pr s → ∀ b ∈ s.inner, ∀ u ∈ b, Pr u
  put : ∀ s m b y, s.inner[m]? = some b → Pr s → (∀ u ∈ y, Pr u) → y.length = b.length → Pr (s.put m y)
theorem put_length {t : Stm} : ∀ {p : List Int} {x : List Stm}, (putAt x p t).length = x.length
  | [], x => rfl
  | [k], x => by simp [putAt]
  | k :: n :: p', x => by
    simp only [putAt]
    split
    · split <;> simp
    · rfl
theorem put_all {Pr : Stm → Prop} (c : Closed Pr) {t : Stm} (ht : Pr t) : ∀ {p : List Int} {x : List Stm}, (∀ u ∈ x, Pr u) → ∀ u ∈ putAt x p t, Pr u
  | [], x, h, u, hu => h u hu
  | [k], x, h, u, hu => by
    rcases List.mem_or_eq_of_mem_set hu with h2 | rfl
    · exact h u h2
    · exact ht
  | k :: n :: p', x, h, u, hu => by
    simp only [putAt] at hu
    split at hu
    · rename_i s es
      have hs := h s (List.mem_of_getElem? es)
      split at hu
      · rename_i b eb
        rcases List.mem_or_eq_of_mem_set hu with h2 | rfl
        · exact h u h2
        · exact c.put s _ b _ eb hs (put_all c ht (c.inn s hs b (List.mem_of_getElem? eb))) put_length
      · exact h u hu
    · exact h u hu
theorem cl_fine : Closed Stm.fine := ⟨fun s h b hb u hu => by
    cases s <;> simp only [Stm.inner, List.mem_cons, List.not_mem_nil, or_false, false_or] at hb <;> simp only [Stm.fine] at h
    case iff a x y => rcases hb with rfl | rfl; exact fines_iff.mp h.2.1 u hu; exact fines_iff.mp h.2.2 u hu
    all_goals first | (subst hb; exact fines_iff.mp h.2 u hu) | (cases hb),
  fun s m b y e h hy _ => by
    have hy := fines_iff.mpr hy
    cases s <;> simp only [Stm.fine] at h
    case iff a u v =>
      match m with
      | 0 => exact ⟨h.1, hy, h.2.2⟩
      | 1 => exact ⟨h.1, h.2.1, hy⟩
      | m + 2 => exact h
    all_goals first | (match m with | 0 => exact ⟨h.1, hy⟩ | m + 1 => exact h) | exact h⟩
theorem cl_slim : Closed Stm.slim := ⟨fun s h b hb u hu => slims_iff.mp (inner_slim hb h).2 u hu,
  fun s m b y e h hy hl => by
    have hy := slims_iff.mpr hy
    have hb := (inner_slim (List.mem_of_getElem? e) h).1
    rw [← hl] at hb
    cases s <;> simp only [Stm.slim] at h
    case iff a u v =>
      match m with
      | 0 => exact ⟨⟨hb, hy⟩, h.2⟩
      | 1 => exact ⟨h.1, hb, hy⟩
      | m + 2 => exact h
    all_goals first | (match m with | 0 => exact ⟨hb, hy⟩ | m + 1 => exact h) | trivial⟩
def _root_.Cm.Stm.lay (s : Stm) : Prop := PyData.canLay0 s.toD = true
theorem lays_iff : ∀ {x : List Stm}, PyData.canLayAll0 (toDs x) = true ↔ ∀ s ∈ x, s.lay
  | [] => by simp [toDs, PyData.canLayAll0]
  | s :: r => by simp [toDs, PyData.canLayAll0, lays_iff (x := r), Stm.lay]
theorem cl_lay : Closed Stm.lay := ⟨fun s h b hb u hu => by
    cases s <;> simp only [Stm.inner, List.mem_cons, List.not_mem_nil, or_false, false_or] at hb <;> simp only [Stm.lay, Stm.toD, PyData.canLay0, PyData.canLayAll0, Bool.and_eq_true, Bool.and_true] at h
    case iff a x y => rcases hb with rfl | rfl; exact lays_iff.mp h.2.2.1 u hu; exact lays_iff.mp h.2.2.2 u hu
    case ask => subst hb; exact lays_iff.mp h.2.2.2.2 u hu
    all_goals first | (subst hb; exact lays_iff.mp h.2.2 u hu) | (cases hb),
  fun s m b y e h hy _ => by
    have hy := lays_iff.mpr hy
    cases s <;> first | exact h | skip
    case iff a u v =>
      match m with
      | 0 => simp only [Stm.lay, Stm.put, Stm.toD, PyData.canLay0, PyData.canLayAll0, Bool.and_eq_true, Bool.and_true] at h ⊢; exact ⟨h.1, h.2.1, hy, h.2.2.2⟩
      | 1 => simp only [Stm.lay, Stm.put, Stm.toD, PyData.canLay0, PyData.canLayAll0, Bool.and_eq_true, Bool.and_true] at h ⊢; exact ⟨h.1, h.2.1, h.2.2.1, hy⟩
      | m + 2 => exact h
    case ask k a' b' c' x =>
      match m with
      | 0 => simp only [Stm.lay, Stm.put, Stm.toD, PyData.canLay0, PyData.canLayAll0, Bool.and_eq_true, Bool.and_true] at h ⊢; exact ⟨h.1, h.2.1, h.2.2.1, h.2.2.2.1, hy⟩
      | m + 1 => exact h
    all_goals (match m with
      | 0 => simp only [Stm.lay, Stm.put, Stm.toD, PyData.canLay0, PyData.canLayAll0, Bool.and_eq_true, Bool.and_true] at h ⊢; exact ⟨h.1, h.2.1, hy⟩
      | m + 1 => exact h)⟩
theorem set_depths {x : List Stm} {j : Nat} {s : Stm} {d : Nat} (h : depths x ≤ d) (hs : s.depth ≤ d) : depths (x.set j s) ≤ d :=
  depths_iff.mpr fun u hu => by
    rcases List.mem_or_eq_of_mem_set hu with h2 | rfl
    · exact depths_iff.mp h u h2
    · exact hs
theorem put_stm_depth {s : Stm} {m : Nat} {b y : List Stm} {d : Nat} (h : s.inner[m]? = some b) (hs : s.depth ≤ d) (hy : depths y ≤ depths b) : (s.put m y).depth ≤ d := by
  cases s <;> simp only [Stm.inner] at h <;> simp only [Stm.depth] at hs
  case iff a u v =>
    match m, h with
    | 0, h => cases h; simp only [Stm.put, Stm.depth]; omega
    | 1, h => cases h; simp only [Stm.put, Stm.depth]; omega
    | m + 2, h => simp at h
  all_goals first | (match m, h with | 0, h => (cases h; simp only [Stm.put, Stm.depth]; omega) | m + 1, h => simp at h) | simp at h
theorem put_depths {t : Stm} (ht : t.depth = 0) : ∀ {p : List Int} {x : List Stm}, depths (putAt x p t) ≤ depths x
  | [], x => Nat.le_refl _
  | [k], x => set_depths (Nat.le_refl _) (by omega)
  | k :: n :: p', x => by
    simp only [putAt]
    split
    · rename_i s es
      split
      · rename_i b eb
        exact set_depths (Nat.le_refl _) (put_stm_depth eb (depths_at es) (put_depths ht))
      · exact Nat.le_refl _
    · exact Nat.le_refl _
theorem set_sizes : ∀ {x : List Stm} {j : Nat} {s u : Stm}, x[j]? = some s → u.size ≤ s.size → sizes (x.set j u) ≤ sizes x
  | s0 :: r, 0, s, u, h, g => by
    cases h
    simp only [List.set_cons_zero, sizes]
    omega
  | s0 :: r, j + 1, s, u, h, g => by
    have := set_sizes (x := r) (j := j) (by simpa using h) g
    simp only [List.set_cons_succ, sizes]
    omega
theorem put_stm_size {s : Stm} {m : Nat} {b y : List Stm} (h : s.inner[m]? = some b) (hy : sizes y ≤ sizes b) : (s.put m y).size ≤ s.size := by
  cases s <;> simp only [Stm.inner] at h
  case iff a u v =>
    match m, h with
    | 0, h => cases h; simp only [Stm.put, Stm.size]; omega
    | 1, h => cases h; simp only [Stm.put, Stm.size]; omega
    | m + 2, h => simp at h
  all_goals first | (match m, h with | 0, h => (cases h; simp only [Stm.put, Stm.size]; omega) | m + 1, h => simp at h) | simp at h
theorem sizeS_pos (s : Stm) : 1 ≤ s.size := by cases s <;> simp only [Stm.size] <;> omega
theorem put_sizes {t : Stm} (ht : t.size = 1) : ∀ {p : List Int} {x : List Stm}, HasAt x p → sizes (putAt x p t) ≤ sizes x
  | [], x, h => h.elim
  | [k], x, ⟨j, s, ek, ex⟩ => by
    subst ek
    simp only [putAt, Int.toNat_natCast]
    exact set_sizes ex (by have := sizeS_pos s; omega)
  | k :: n :: p', x, ⟨j, s, m, b, ek, en, ex, eb, hh⟩ => by
    subst ek en
    simp only [putAt, Int.toNat_natCast, ex, eb]
    exact set_sizes ex (put_stm_size eb (put_sizes ht hh))
end W1
end
section
set_option linter.all false
set_option maxRecDepth 100000
set_option maxHeartbeats 4000000
/-! X3: found_at -/
namespace W1
open PySem L2 Cm
/-- a statement, or None -/
def StV (H : Hp) (v : V) : Option Stm → Prop
  | none => v = .non
  | some s => Td H v s.toD
theorem StV.mono {H H' : Hp} (t : TK H H') {v : V} : ∀ {so : Option Stm}, StV H v so → StV H' v so
  | none, h => h
  | some s, h => Td.mono t h
def blksD (bs : List (List Stm)) : List PyData := bs.map fun x => .tuple (toDs x)
def spFound (K : PySem.W.Frag) : Sp := fun vs H Q _ => ∃ (v : V) (tp : Addr) (x : List Stm) (p : List Int), vs = [v, .ref tp] ∧ Td H v (.tuple (toDs x)) ∧ SqT K H tp (p.map V.int) ∧ x.length ≤ 500 ∧ slims x ∧ p.length ≤ 9 ∧
  ∀ u H', Same H H' → StV H' u (foundAt x p) → Q u H'
theorem rgc_even : ∀ n : Nat, n ≤ 5 → RgC 0 ((2 * n : Nat) : Int) 2 n := fun n h => by
  match n, h with
  | 0, _ => exact ⟨by decide, by decide, by decide +kernel, by decide +kernel⟩
  | 1, _ => exact ⟨by decide, by decide, by decide +kernel, by decide +kernel⟩
  | 2, _ => exact ⟨by decide, by decide, by decide +kernel, by decide +kernel⟩
  | 3, _ => exact ⟨by decide, by decide, by decide +kernel, by decide +kernel⟩
  | 4, _ => exact ⟨by decide, by decide, by decide +kernel, by decide +kernel⟩
  | 5, _ => exact ⟨by decide, by decide, by decide +kernel, by decide +kernel⟩
  | n + 6, h => exact absurd h (by omega)
theorem drop_two {α : Type} {l : List α} {i : Nat} (h : 2 * i + 1 < l.length) : ∃ a b, l[2 * i]? = some a ∧ l[2 * i + 1]? = some b ∧ l.drop (2 * i) = a :: b :: l.drop (2 * (i + 1)) := by
  refine ⟨l[2 * i], l[2 * i + 1], List.getElem?_eq_getElem (by omega), List.getElem?_eq_getElem h, ?_⟩
  rw [List.drop_eq_getElem_cons (by omega : 2 * i < l.length), List.drop_eq_getElem_cons h]
  rfl
theorem _root_.Cm.call_isiK {X : Cx} {K : PySem.W.Frag} (hK : X.K = K) : CallR X (.builtin "isinstance") (rIsi K) := by
  subst hK
  exact call_isi
section
variable {P : Program} {w : World} {K : PySem.W.Frag} {mg : Str → Option Value} {base : Heap}
theorem ok_found {f fN fB : Addr} {fd fdN fdB : FuncData} (F : Fun K "found_at" "found_at" s_found_at f fd) (T : Bi mg) (G : Tabs K w mg) (N : Dn K mg "is_number" s_is_number ["value", "most"] fN fdN) (B : Dn K mg "blocks_of" s_blocks_of ["statement"] fB fdB) :
    FnOk P w K mg base CX0 2 f fd ["block", "path"] (spFound K) := by
  have GN : FnOk P w K mg base CX0 1 fN fdN ["value", "most"] (spNum K) := ok_num N.F T
  have GB : FnOk P w K mg base CX0 1 fB fdB ["statement"] (spBlocks K) := ok_blocks B.F T G
  have nd := sc_found_at.nd
  refine F.ok sc_found_at (fun vs H Q E h => ?_) (fun cdv A outer s H vs Q E hr h => ?_)
  · obtain ⟨v, tp, x, p, rfl, _⟩ := h
    rfl
  · obtain ⟨v, tp, x, p, rfl, hT, hp, hxl, hxs, hp9, k⟩ := h
    refine ⟨_, pss_cons (ps_if (PW.pt (pw_or (pt_not (pt_val (pe_callB (call_isiK (K := K) rfl) (by rfl) T.isi (by decide +kernel) (pa_cons (pv 1) (pa_cons (pe_bltn (v := .ty "tuple") (by rfl) T.tuple (by decide +kernel) rfl) pa_nil)))))
        (pw_or1 (pt_cmpR op_eq (pe_op op_mod (pe_callB call_len_seq (by rfl) T.len PySem.boot_len (pa_cons (pv 1) pa_nil)) pe_int) pe_int (nomark _))))) (pss_one (ps_ret pe_non)) pss_nil)
      (pss_cons (ps_set (i := 2) nd rfl (Or.inl rfl) (pe_op op_catA (pe_tup (pa_cons pe_int pa_nil)) (pv 1)))
      (pss_cons (ps_set (i := 3) nd rfl (Or.inl rfl) (pe_tup (pa_cons (pv 0) pa_nil)))
      (pss_cons (ps_set (i := 4) nd rfl (Or.inl rfl) pe_non)
      (pss_cons (ps_for PassesOwn.never rfl (pi_range3 (by rfl) T.range (pa_cons pe_int (pa_cons (pe_callB call_len_seq (by rfl) T.len PySem.boot_len (pa_cons (pv 2) pa_nil)) (pa_cons pe_int pa_nil)))) (pg_name (i := 5) nd rfl (Or.inl rfl))
        (pss_cons (ps_par (i := 6) (j := 7) rfl nd rfl rfl (by decide) rfl rfl (pa_cons (pe_ix (r := rIxT K) ix_tup (pv 2) (pv 5) (fun _ _ => rfl)) (pa_cons (pe_ix (r := rIxT K) ix_tup (pv 2) (pe_op op_add (pv 5) pe_int) (fun _ _ => rfl)) pa_nil)) (by rfl))
        (pss_cons (ps_if (pt_not (pt_val (pe_call GN hr (by rfl) N.g N.F.kp N.b .nil pass0 (pa_cons (pv 6) (pa_cons (pe_op op_sub (pe_callB call_len_seq (by rfl) T.len PySem.boot_len (pa_cons (pv 3) pa_nil)) pe_int) pa_nil))))) (pss_one (ps_ret pe_non)) pss_nil)
        (pss_cons (ps_if (pt_not (pt_val (pe_call GN hr (by rfl) N.g N.F.kp N.b .nil pass0 (pa_cons (pv 7) (pa_cons (pe_op op_sub (pe_callB call_len_seq (by rfl) T.len PySem.boot_len (pa_cons (pe_ix (r := rIxT K) ix_tup (pv 3) (pv 6) (fun _ _ => rfl)) pa_nil)) pe_int) pa_nil))))) (pss_one (ps_ret pe_non)) pss_nil)
        (pss_cons (ps_set (i := 4) nd rfl (Or.inl rfl) (pe_ix (r := rIxT K) ix_tup (pe_ix (r := rIxT K) ix_tup (pv 3) (pv 6) (fun _ _ => rfl)) (pv 7) (fun _ _ => rfl)))
        (pss_one (ps_set (i := 3) nd rfl (Or.inl rfl) (pe_call GB hr (by rfl) B.g B.F.kp B.b .nil pass0 (pa_cons (pv 4) pa_nil)))))))))
      (pss_one (ps_ret (pv 4))))))), ?_⟩
    refine ⟨_, rfl, .ref tp, .ty "tuple", .type "tuple", .type "tuple", true, rfl, .ty _, tyx_tup hp, (kit_ty (by decide +kernel)), true, rfl, iteF ?_⟩
    refine ⟨_, rfl, tp, _, rfl, .inr hp, _, _, rfl, rfl, (by show (0 : Int) < 2; decide), rfl, _, rfl, ?_⟩
    rw [List.length_map]
    refine ite2 (fun c => k _ _ (fun _ _ e => e) ?_) (fun c => ?_)
    · have c : p.length % 2 = 0 := by
        have := of_decide_eq_true c
        injection this with h
        omega
      unfold foundAt
      rw [if_pos c]
      rfl
    have c : ¬ p.length % 2 = 0 := fun z => c (decide_eq_true (by show V.int ((p.length : Int) % 2) = .int 0; congr 1; omega))
    have hF : foundAt x p = foundR [x] none (0 :: p) := by unfold foundAt; rw [if_neg c]
    rw [hF] at k
    clear hF
    refine ⟨small_le (by simp), fun e ne => ?_⟩
    refine ⟨_, rfl, ?_⟩
    refine catA_sq (xs := [.int 0]) (ys := p.map V.int) (.inl (.inl upd_same)) (sqT_same' hp (same_upd ne)) (by simp; omega) fun tn H1 s1 hn => ?_
    have s1 := (same_upd ne).trans s1
    refine ⟨_, rfl, small_le (by simp), fun tb nb => ?_⟩
    have s2 := s1.trans (same_upd (o := .tup [v]) nb)
    have hn := sqT_same' hn (same_upd (o := .tup [v]) nb)
    have hb : upd H1 tb (.tup [v]) tb = some (.tup [v]) := upd_same
    generalize upd H1 tb (.tup [v]) = H2 at s2 hn hb
    clear s1 nb ne
    rw [show [V.int 0] ++ p.map V.int = (0 :: p).map V.int from rfl] at hn
    generalize hnum : (0 :: p : List Int) = num at k hn
    obtain ⟨n, hlen, hn5⟩ : ∃ n, num.length = 2 * n ∧ n ≤ 5 := ⟨num.length / 2, by rw [← hnum, List.length_cons]; omega, by rw [← hnum, List.length_cons]; omega⟩
    refine ⟨_, rfl, tn, _, rfl, .inr hn, 0, ((2 * n : Nat) : Int), 2, n, (by rw [List.length_map, hlen]), rgc_even n hn5, ?_⟩
    have goal : ∀ {u : V} {H' : Hp}, Same H H' → StV H' u (foundR [x] none num) → Q u H' := fun {u H'} s h => k u H' s h
    refine for_rangeC (lo := 0) (c := 2) (n := n) (fun i σ Hc => ∃ bv sv w5 w6 w7 xs bs so, σ = [some v, some (.ref tp), some (.ref tn), some (.ref bv), some sv, w5, w6, w7] ∧ Same H Hc ∧ SqT K Hc tn (num.map V.int) ∧ SqT K Hc bv xs ∧ TdAll Hc xs (blksD bs) ∧ (∀ b ∈ bs, b.length ≤ 500 ∧ slims b) ∧ StV Hc sv so ∧ foundR bs so (num.drop (2 * i)) = foundR [x] none num)
      ⟨tb, .non, none, none, none, [v], [x], none, rfl, s2, hn, .inl (.inl hb), .cons (hT.mono (TK.same s2)) .nil, (fun b hb => by cases List.mem_singleton.mp hb; exact ⟨hxl, hxs⟩), rfl, rfl⟩ ?_ ?_
    · rintro i σ Hc hi ⟨bv, sv, w5, w6, w7, xs, bs, so, rfl, sc, hnc, hbv, htd, hbs, hsv, hfr⟩
      obtain ⟨na, nb, ea, eb, ed⟩ := drop_two (l := num) (i := i) (by omega)
      have ea2 : (num.map V.int)[2 * i]? = some (.int na) := by rw [List.getElem?_map, ea]; rfl
      have eb2 : (num.map V.int)[2 * i + 1]? = some (.int nb) := by rw [List.getElem?_map, eb]; rfl
      rw [ed] at hfr
      refine ⟨_, rfl, _, rfl, tn, _, ((2 * i : Nat) : Int), _, rfl, (by show V.int (0 + (i : Int) * 2) = _; congr 1; omega), hnc, atI_nat ea2, _, rfl, _, rfl, _, _, rfl, rfl, tn, _, ((2 * i + 1 : Nat) : Int), _, rfl, (by show V.int (0 + (i : Int) * 2 + 1) = _; congr 1; omega), hnc, atI_nat eb2, _, _, rfl, ?_⟩
      have lx : xs.length = bs.length := by rw [htd.length, blksD, List.length_map]
      have no : at1 bs na nb = none → ∀ {u : V}, u = .non → Q u Hc := fun z u hu => goal sc (by
        rw [← hfr]
        show StV Hc u ((at1 bs na nb).bind _)
        rw [z]
        exact hu)
      refine ⟨_, rfl, _, rfl, bv, _, rfl, .inr hbv, _, _, rfl, rfl, .int na, (xs.length : Int) - 1, "int", rfl, .int na, _, rfl, ?_⟩
      refine ite2 (fun c => no ?_ rfl) (fun c => ?_)
      · unfold at1
        split
        · rename_i h
          rw [List.getElem?_eq_none]
          · rfl
          · by_cases z : bs.length ≤ na.toNat
            · exact z
            · exfalso
              have : numB (.int na) ((xs.length : Int) - 1) = true := by
                show (decide (0 ≤ na) && decide (na ≤ _)) = true
                rw [decide_eq_true h.1, decide_eq_true (by omega)]
                rfl
              rw [this] at c
              cases c
        · rfl
      have hna : 0 ≤ na ∧ na ≤ (xs.length : Int) - 1 := by
        cases z : numB (.int na) ((xs.length : Int) - 1) with
        | false => rw [z] at c; exact absurd rfl c
        | true =>
          have z : (decide (0 ≤ na) && decide (na ≤ (xs.length : Int) - 1)) = true := z
          rw [Bool.and_eq_true, decide_eq_true_iff, decide_eq_true_iff] at z
          exact z
      obtain ⟨m, rfl⟩ : ∃ m : Nat, na = m := ⟨na.toNat, by omega⟩
      have hm : m < bs.length := by omega
      obtain ⟨bl, ebl⟩ : ∃ bl, bs[m]? = some bl := ⟨_, List.getElem?_eq_getElem hm⟩
      obtain ⟨vb, evb, tvb⟩ := htd.get (i := m) (d := .tuple (toDs bl)) (by rw [blksD, List.getElem?_map, ebl]; rfl)
      obtain ⟨ab, ys, rfl, hab, tys⟩ := Td.ref_inv tvb
      have ly : ys.length = bl.length := by rw [tys.length, toDs_length]
      have hat : at1 bs m nb = if 0 ≤ nb then bl[nb.toNat]? else none := by
        unfold at1
        by_cases z : 0 ≤ nb
        · rw [if_pos ⟨by omega, z⟩, if_pos z]
          simp [ebl]
        · rw [if_neg (fun h => z h.2), if_neg z]
      refine ⟨_, rfl, _, rfl, _, rfl, bv, _, (m : Int), _, rfl, rfl, hbv, atI_nat evb, ab, ys, rfl, .inr (.inl (.inl hab)), _, _, rfl, rfl, .int nb, (ys.length : Int) - 1, "int", rfl, .int nb, _, rfl, ?_⟩
      refine ite2 (fun c => no ?_ rfl) (fun c => ?_)
      · rw [hat]
        by_cases z : 0 ≤ nb
        · rw [if_pos z]
          refine List.getElem?_eq_none ?_
          by_cases z2 : bl.length ≤ nb.toNat
          · exact z2
          · exfalso
            have : numB (.int nb) ((ys.length : Int) - 1) = true := by
              show (decide (0 ≤ nb) && decide (nb ≤ _)) = true
              rw [decide_eq_true z, decide_eq_true (by omega)]
              rfl
            rw [this] at c
            cases c
        · rw [if_neg z]
      have hnb : 0 ≤ nb ∧ nb ≤ (ys.length : Int) - 1 := by
        cases z : numB (.int nb) ((ys.length : Int) - 1) with
        | false => rw [z] at c; exact absurd rfl c
        | true =>
          have z : (decide (0 ≤ nb) && decide (nb ≤ (ys.length : Int) - 1)) = true := z
          rw [Bool.and_eq_true, decide_eq_true_iff, decide_eq_true_iff] at z
          exact z
      obtain ⟨j, rfl⟩ : ∃ j : Nat, nb = j := ⟨nb.toNat, by omega⟩
      have hj : j < bl.length := by omega
      obtain ⟨sm, esm⟩ : ∃ sm, bl[j]? = some sm := ⟨_, List.getElem?_eq_getElem hj⟩
      obtain ⟨vs, evs, tvs⟩ := tys.get (toDs_at esm)
      obtain ⟨asm, zs, l, rfl, hasm, hl, hil, tin⟩ := stm_inv tvs
      have hbl := hbs bl (List.mem_of_getElem? ebl)
      rw [if_pos (by omega : (0 : Int) ≤ (j : Int)), Int.toNat_natCast, esm] at hat
      refine ⟨_, rfl, _, rfl, bv, _, (m : Int), _, rfl, rfl, hbv, atI_nat evb, _, rfl, ab, ys, (j : Int), _, rfl, rfl, .inl (.inl hab), atI_nat evs, ?_⟩
      refine ⟨_, rfl, asm, sm.word, zs, l, rfl, .inl (.inl hasm), hl, hil, fun t H3 s3 ht nt => ?_⟩
      refine ⟨t, .ref asm, _, _, _, _, sm.inner, some sm, rfl, sc.trans s3, sqT_same' hnc s3, .inl (.inl ht), tin.mono (TK.same s3), (fun b hb => inner_slim hb (slims_at esm hbl.2)), tvs.mono (TK.same s3), ?_⟩
      rw [← hfr]
      show _ = (at1 bs m j).bind _
      rw [hat]
      rfl
    · rintro σ Hc ⟨bv, sv, w5, w6, w7, xs, bs, so, rfl, sc, hnc, hbv, htd, hbs, hsv, hfr⟩
      have e : num.drop (2 * n) = [] := List.drop_eq_nil_of_le (by omega)
      rw [e] at hfr
      refine ⟨_, rfl, goal sc ?_⟩
      rw [← hfr]
      cases bs <;> exact hsv
end
end W1
end
section
set_option linter.all false
set_option maxRecDepth 100000
set_option maxHeartbeats 4000000
/-! X4: with_item, with_statement_at -/
namespace W1
open PySem L2 Cm
theorem dropA_sq {K : PySem.W.Frag} {H : Hp} {Q : VK} {a : Addr} {xs : List V} {m : Nat} (ha : SqT K H a xs) (hm : m ≤ xs.length) (k : ∀ w H', Same H H' → SqT K H' w (xs.drop m) → Q (.ref w) H') : rSlA K (.ref a) (some (m : Int)) none H Q := by
  refine ⟨a, xs, rfl, ha, fun hz => ?_, fun _ p np => ?_⟩
  · have h1 := hz.1
    rw [HT.sIx_nat] at h1
    by_cases m0 : m = 0
    · subst m0
      exact k _ H (fun _ _ e => e) ha
    · have : xs = [] := by
        rw [← List.length_eq_zero_iff]
        omega
      subst this
      rw [List.drop_nil] at k
      exact k _ H (fun _ _ e => e) ha
  · rw [cut_from hm]
    exact k _ _ (same_upd np) (.inl (.inl upd_same))
theorem takeA_sq {K : PySem.W.Frag} {H : Hp} {Q : VK} {a : Addr} {xs : List V} {m : Nat} (ha : SqT K H a xs) (hm : m ≤ xs.length) (k : ∀ w H', Same H H' → SqT K H' w (xs.take m) → Q (.ref w) H') : rSlA K (.ref a) none (some (m : Int)) H Q := by
  refine ⟨a, xs, rfl, ha, fun hz => ?_, fun _ p np => ?_⟩
  · have h2 := hz.2
    rw [HT.sIx_nat] at h2
    have : xs.take m = xs := List.take_of_length_le (by omega)
    rw [this] at k
    exact k _ H (fun _ _ e => e) ha
  · rw [cut_any]
    exact k _ _ (same_upd np) (.inl (.inl upd_same))
theorem put_toD (s : Stm) : ∃ ds, s.toD = .tuple ds ∧ ds.length ≤ 5 ∧ ds[0]? = some (.str s.word) ∧ ∀ l m b, blocksAt s.word = some l → s.inner[m]? = some b → ∃ i, l[m]? = some i ∧ ds[i]? = some (.tuple (toDs b)) ∧ ∀ y, (s.put m y).toD = .tuple (ds.set i (.tuple (toDs y))) := by
  cases s with
  | ask k a b c x =>
    refine ⟨_, rfl, by simp, rfl, fun l m b' hl hm => ?_⟩
    have hl : blocksAt (askW k) = some l := hl
    have e : blocksAt (askW k) = some [4] := by
      unfold blocksAt
      rw [if_pos (askW_in k)]
    rw [e] at hl
    cases hl
    match m, hm with
    | 0, hm => cases hm; exact ⟨4, rfl, rfl, fun y => rfl⟩
    | m + 1, hm => simp [Stm.inner] at hm
  | iff a x y =>
    refine ⟨_, rfl, by simp, rfl, fun l m b' hl hm => ?_⟩
    have hl : blocksAt "if" = some l := hl
    rw [bi] at hl
    cases hl
    match m, hm with
    | 0, hm => cases hm; exact ⟨2, rfl, rfl, fun y => rfl⟩
    | 1, hm => cases hm; exact ⟨3, rfl, rfl, fun y => rfl⟩
    | m + 2, hm => simp [Stm.inner] at hm
  | whl a x =>
    refine ⟨_, rfl, by simp, rfl, fun l m b' hl hm => ?_⟩
    have hl : blocksAt "while" = some l := hl
    rw [bw] at hl
    cases hl
    match m, hm with
    | 0, hm => cases hm; exact ⟨2, rfl, rfl, fun y => rfl⟩
    | m + 1, hm => simp [Stm.inner] at hm
  | tms n x =>
    refine ⟨_, rfl, by simp, rfl, fun l m b' hl hm => ?_⟩
    have hl : blocksAt "times" = some l := hl
    rw [bs] at hl
    cases hl
    match m, hm with
    | 0, hm => cases hm; exact ⟨2, rfl, rfl, fun y => rfl⟩
    | m + 1, hm => simp [Stm.inner] at hm
  | move a b => exact ⟨_, rfl, by simp, rfl, fun l m b' hl hm => by simp [Stm.inner] at hm⟩
  | part a b => exact ⟨_, rfl, by simp, rfl, fun l m b' hl hm => by simp [Stm.inner] at hm⟩
  | tell a b => exact ⟨_, rfl, by simp, rfl, fun l m b' hl hm => by simp [Stm.inner] at hm⟩
  | fin => exact ⟨_, rfl, by simp, rfl, fun l m b' hl hm => by simp [Stm.inner] at hm⟩
theorem blocks_some (s : Stm) : ∃ l, blocksAt s.word = some l := by
  cases s with
  | ask k a b c x => exact ⟨[4], by show blocksAt (askW k) = _; unfold blocksAt; rw [if_pos (askW_in k)]⟩
  | iff => exact ⟨_, bi⟩
  | whl => exact ⟨_, bw⟩
  | tms => exact ⟨_, bs⟩
  | move => exact ⟨_, bm⟩
  | part => exact ⟨_, bp⟩
  | tell => exact ⟨_, bt⟩
  | fin => exact ⟨_, be⟩
def spItem : Sp := fun vs H Q _ => ∃ (v u : V) (i : Nat) (ds : List PyData) (d : PyData), vs = [v, .int i, u] ∧ Td H v (.tuple ds) ∧ Td H u d ∧ i < ds.length ∧ ds.length ≤ 500 ∧ ∀ x H', Same H H' → Td H' x (.tuple (ds.set i d)) → Q x H'
def spWith (n : Nat) (K : PySem.W.Frag) : Sp := fun vs H Q _ => ∃ (v u : V) (tp : Addr) (x : List Stm) (p : List Int) (t : Stm), vs = [v, .ref tp, u] ∧ Td H v (.tuple (toDs x)) ∧ SqT K H tp (p.map V.int) ∧ Td H u t.toD ∧ x.length ≤ 500 ∧ slims x ∧ HasAt x p ∧ p.length ≤ 2 * n + 1 ∧ n ≤ 9 ∧
  ∀ z H', Same H H' → Td H' z (.tuple (toDs (putAt x p t))) → Q z H'
theorem toDs_set : ∀ {x : List Stm} {i : Nat} {t : Stm}, toDs (x.set i t) = (toDs x).set i t.toD
  | [], i, t => by simp [toDs]
  | s :: r, 0, t => by simp [toDs]
  | s :: r, i + 1, t => by simp [toDs, toDs_set (x := r)]
section
variable {P : Program} {w : World} {K : PySem.W.Frag} {mg : Str → Option Value} {base : Heap}
theorem ok_item {f : Addr} {fd : FuncData} (F : Fun K "with_item" "with_item" s_with_item f fd) : FnOk P w K mg base CX0 1 f fd ["row", "at", "value"] spItem := by
  have nd := sc_with_item.nd
  refine F.ok sc_with_item (fun vs H Q E h => ?_) (fun cdv A outer s H vs Q E hr h => ?_)
  · obtain ⟨v, u, i, ds, d, rfl, _⟩ := h
    rfl
  · obtain ⟨v, u, i, ds, d, rfl, hv, hu, hi, hl, k⟩ := h
    refine ⟨_, pss_one (ps_ret (pe_op op_catA (pe_op op_catA (pe_slice sl_tupA (pv 0) po_none (po_some (pv 1))) (pe_tup (pa_cons (pv 2) pa_nil))) (pe_slice sl_tupA (pv 0) (po_some (pe_op op_add (pv 1) pe_int)) po_none))), ?_⟩
    refine ⟨_, rfl, _, rfl, _, rfl, takeA_td hv (by omega) fun w1 H1 s1 t1 => ?_⟩
    refine ⟨_, rfl, small_le (by simp), fun b nb => ?_⟩
    have s2 := same_upd (o := .tup [u]) nb
    refine catA_td (t1.mono (TK.same s2)) (es := [d]) (.tup upd_same (.cons ((hu.mono (TK.same s1)).mono (TK.same s2)) .nil)) (by rw [List.length_take]; simp only [List.length_cons, List.length_nil]; omega) fun w2 H2 s3 t2 => ?_
    have s13 := (s1.trans s2).trans s3
    refine ⟨_, rfl, _, rfl, _, _, rfl, rfl, _, rfl, ?_⟩
    unfold tNoPart
    dsimp only
    rw [show ((i : Int) + 1) = ((i + 1 : Nat) : Int) by omega]
    refine (dropA_td (m := i + 1) (hv.mono (TK.same s13)) (by omega) fun w3 H3 s4 t3 => ?_)
    refine catA_td (t2.mono (TK.same s4)) t3 (by rw [List.length_append, List.length_take, List.length_drop]; simp only [List.length_cons, List.length_nil]; omega) fun w4 H4 s5 t4 => ?_
    refine k w4 H4 (s13.trans (s4.trans s5)) ?_
    rw [List.set_eq_take_append_cons_drop, if_pos hi]
    simpa using t4
end
end W1
namespace W1
open PySem L2 Cm
section
variable {P : Program} {w : World} {K : PySem.W.Frag} {mg : Str → Option Value} {base : Heap}
theorem with_body {n k : Nat} {f fI : Addr} {fd fdI : FuncData} (D : Dn K mg "with_statement_at" s_with_statement_at ["block", "path", "statement"] f fd) (T : Bi mg) (G : Tabs K w mg) (I_ : Dn K mg "with_item" s_with_item ["row", "at", "value"] fI fdI) {sp0 : Sp}
    (GR : FnOk P w K mg base CX0 (k + 1) f fd ["block", "path", "statement"] sp0) (h0 : ∀ n', n = n' + 1 → ∀ vs H Q E, spWith n' K vs H Q E → sp0 vs H Q E) : FnOk P w K mg base CX0 (k + 2) f fd ["block", "path", "statement"] (spWith n K) := by
  have GI : FnOk P w K mg base CX0 1 fI fdI ["row", "at", "value"] spItem := ok_item I_.F
  have nd := sc_with_statement_at.nd
  refine D.F.ok sc_with_statement_at (fun vs H Q E h => ?_) (fun cdv A outer s H vs Q E hr h => ?_)
  · obtain ⟨v, u, tp, x, p, t, rfl, _⟩ := h
    rfl
  · obtain ⟨v, u, tp, x, p, t, rfl, hT, hp, hu, hxl, hxs, hh, hpn, hn9, kk⟩ := h
    have hr1 : Room 1 _ := hr.mono (by omega)
    obtain ⟨d, gd, ⟨es, n1, DD⟩, tat⟩ := G.blocks
    refine ⟨_, pss_cons (ps_set (i := 3) nd rfl (Or.inl rfl) (pe_ix (r := rIxT K) ix_tup (pv 1) pe_int (fun _ _ => rfl)))
      (pss_cons (ps_if (pt_cmpR op_eq (pe_callB call_len_seq (by rfl) T.len PySem.boot_len (pa_cons (pv 1) pa_nil)) pe_int (nomark _)) (pss_one (ps_ret (pe_call GI hr1 (by rfl) I_.g I_.F.kp I_.b .nil pass0 (pa_cons (pv 0) (pa_cons (pv 3) (pa_cons (pv 2) pa_nil)))))) pss_nil)
      (pss_cons (ps_set (i := 4) nd rfl (Or.inl rfl) (pe_ix (r := rIxT K) ix_tup (pv 0) (pv 3) (fun _ _ => rfl)))
      (pss_cons (ps_set (i := 5) nd rfl (Or.inl rfl) (pe_ix (r := rIxT K) ix_tup (pe_ix (ix_kd DD) (pe_glob (v := .ref d) (by rfl) gd rfl) (pe_ix (r := rIxT K) ix_tup (pv 4) pe_int (fun _ _ => rfl)) (fun _ _ => rfl)) (pe_ix (r := rIxT K) ix_tup (pv 1) pe_int (fun _ _ => rfl)) (fun _ _ => rfl)))
      (pss_cons (ps_set (i := 6) nd rfl (Or.inl rfl) (pe_call GR hr (by rfl) D.g D.F.kp D.b .nil pass0 (pa_cons (pe_ix (r := rIxT K) ix_tup (pv 4) (pv 5) (fun _ _ => rfl)) (pa_cons (pe_slice sl_tupA (pv 1) (po_some pe_int) po_none) (pa_cons (pv 2) pa_nil)))))
      (pss_one (ps_ret (pe_call GI hr1 (by rfl) I_.g I_.F.kp I_.b .nil pass0 (pa_cons (pv 0) (pa_cons (pv 3) (pa_cons (pe_call GI hr1 (by rfl) I_.g I_.F.kp I_.b .nil pass0 (pa_cons (pv 4) (pa_cons (pv 5) (pa_cons (pv 6) pa_nil)))) pa_nil)))))))))), ?_⟩
    have kd := kk
    match p, hh, hpn, hp, kk with
    | [], hh, _, _, _ => exact hh.elim
    | [c], ⟨j, s0, ec, ex⟩, _, hp, kk =>
      subst ec
      refine ⟨_, rfl, tp, _, 0, _, rfl, rfl, hp, at0, _, rfl, tp, _, rfl, .inr hp, rfl, _, rfl, iteT ?_⟩
      have hj := (List.getElem?_eq_some_iff.mp ex).1
      refine ⟨_, rfl, _, rfl, _, rfl, v, u, j, toDs x, t.toD, rfl, hT, hu, by rw [toDs_length]; exact hj, by rw [toDs_length]; exact hxl, fun z H' s' t' => ?_⟩
      refine kk z H' s' ?_
      rw [← toDs_set] at t'
      exact t'
    | c :: m0 :: p', ⟨j, s0, m, b, ec, em, ex, eb, hh⟩, hpn, hp, kk =>
      subst ec em
      refine ⟨_, rfl, tp, _, 0, _, rfl, rfl, hp, at0, _, rfl, tp, _, rfl, .inr hp, rfl, _, rfl, ?_⟩
      rw [decide_eq_false (by intro z; injection z with z; simp only [List.length_map, List.length_cons] at z; omega)]
      refine iteF ?_
      obtain ⟨ab, ys, rfl, hab, tys⟩ := Td.ref_inv hT
      obtain ⟨vs0, evs, tvs⟩ := tys.get (toDs_at ex)
      refine ⟨_, rfl, _, rfl, ab, _, (j : Int), _, rfl, rfl, .inl (.inl hab), atI_nat evs, ?_⟩
      obtain ⟨l, hl⟩ := blocks_some s0
      obtain ⟨ds, eds, dl, dw, dp⟩ := put_toD s0
      obtain ⟨i, hli, hdi, hput⟩ := dp l m b hl eb
      obtain ⟨tb, etb, htb⟩ := tat s0.word l hl
      have tvs' := tvs
      rw [eds] at tvs'
      obtain ⟨asv, zs, rfl, hasv, tzs⟩ := Td.ref_inv tvs'
      obtain ⟨v0, ev0, tv0⟩ := tzs.get dw
      obtain rfl := Td.str_inv tv0
      obtain ⟨vi, evi, tvi⟩ := tzs.get hdi
      refine ⟨_, rfl, asv, _, ((0 : Nat) : Int), _, rfl, rfl, .inl (.inl hasv), atI_nat ev0, s0.word, _, .ref tb, rfl, rfl, etb, rfl, ?_⟩
      have ep1 : ((((j : Nat) : Int) :: ((m : Nat) : Int) :: p').map V.int)[1]? = some (.int (m : Nat)) := rfl
      refine ⟨_, rfl, tp, _, ((1 : Nat) : Int), _, rfl, rfl, hp, atI_nat ep1, tb, _, (m : Int), _, rfl, rfl, htb H, atI_nat (v := .int (i : Nat)) (by rw [List.getElem?_map, hli]; rfl), ?_⟩
      refine ⟨_, rfl, _, rfl, asv, _, (i : Int), _, rfl, rfl, .inl (.inl hasv), atI_nat evi, _, rfl, _, rfl, ?_⟩
      unfold tNoPart
      dsimp only
      refine (dropA_sq (m := 2) hp (by simp) fun tq H1 s1 hq => ?_)
      obtain ⟨n', rfl⟩ : ∃ n', n = n' + 1 := ⟨n - 1, by simp only [List.length_cons] at hpn; omega⟩
      have hin := inner_slim (List.mem_of_getElem? eb) (slims_at ex hxs)
      refine ⟨_, rfl, h0 n' rfl _ _ _ _ ⟨vi, u, tq, b, p', t, rfl, tvi.mono (TK.same s1), hq, hu.mono (TK.same s1), hin.1, hin.2, hh, by simp only [List.length_cons] at hpn; omega, by omega, fun z H2 s2 t2 => ?_⟩⟩
      have s12 := s1.trans s2
      refine ⟨_, rfl, _, rfl, _, rfl, _, rfl, _, rfl, .ref asv, z, i, ds, .tuple (toDs (putAt b p' t)), rfl, tvs'.mono (TK.same s12), t2, ?_, by omega, fun z2 H3 s3 t3 => ?_⟩
      · have := (List.getElem?_eq_some_iff.mp hdi).1
        exact this
      rw [← hput] at t3
      have s13 := s12.trans s3
      refine ⟨.ref ab, z2, j, toDs x, _, rfl, hT.mono (TK.same s13), t3, ?_, by rw [toDs_length]; exact hxl, fun z4 H4 s4 t4 => ?_⟩
      · rw [toDs_length]
        exact (List.getElem?_eq_some_iff.mp ex).1
      refine kk z4 H4 (s13.trans s4) ?_
      rw [← toDs_set] at t4
      simp only [putAt, Int.toNat_natCast, ex, eb]
      exact t4
theorem ok_with {f fI : Addr} {fd fdI : FuncData} (D : Dn K mg "with_statement_at" s_with_statement_at ["block", "path", "statement"] f fd) (T : Bi mg) (G : Tabs K w mg) (I_ : Dn K mg "with_item" s_with_item ["row", "at", "value"] fI fdI) : ∀ n, FnOk P w K mg base CX0 (n + 2) f fd ["block", "path", "statement"] (spWith n K)
  | 0 => with_body (k := 0) (sp0 := fun _ _ _ _ => False) D T G I_ ⟨fun _ _ _ _ h => h.elim, fun _ _ _ _ _ _ _ _ _ _ _ _ _ h => h.elim⟩ (fun n' h => by omega)
  | n + 1 => with_body (k := n + 1) D T G I_ (ok_with D T G I_ n) (fun n' h vs H Q E q => by cases (Nat.succ.inj h); exact q)
end
end W1
end
section
set_option linter.all false
set_option maxRecDepth 100000
set_option maxHeartbeats 2000000
/-! M10: an own class made within a try, at the erased model. -/
namespace Em
open PySem PySem.Spec PyProof.Rows L2 GenW Gp Er Gm
section
variable {X : Cx} {Po : Dg} {W : WX} {k : Nat} {f C : Addr} {fd : FuncData} {ps : List Str} {sp : Sp} {dvs : List V} {ds : List Value} {E : XK} {x m : Str} {p pos apos : Pos} {e o : Expr} {es : List Expr} {ta : TE} {t : TA}
theorem run_make2S {pins GP : List (Addr × Obj)} {σ : L2.St} {H : Hp} {s : Shared} {Q : VK} {us : List Value} {vs : List V} (M : Mk X.K C f) (F : FnOk2 X.prog X.w X.K X.mg X.base k f fd ps sp) (hr : Room (k + 1) X.A) (hb : Binds X.K fd ps ds) (hd : Vals dvs ds) (hs : OnStack X)
    (hW : ∀ cls d H, E cls d H → W cls d σ H) (I : L2.Inv X (pins ++ GP) σ H s) (g : Gs Po GP s) (hn : Po.n ≤ s.heap.objs.size) (r : Vals vs us)
    (h : ∀ x dx, H x = none → H dx = none → dx ≠ x → sp (.ref x :: (vs ++ dvs)) (upd (upd H dx (.own x)) x (.ins C dx [])) (fun v H2 => v = .non ∧ Q (.ref x) H2) E) : wpAny (mm X.prog X.w) X.A (call (.ref C) us) (EP2 X Po pins σ Q) (XE2 X Po pins W) s := by
  have hq := h (s.heap.objs.size + 1) s.heap.objs.size (I.hok.fresh (Nat.le_succ _)) (I.hok.fresh (Nat.le_refl _)) (Nat.ne_of_lt (Nat.lt_succ_self _))
  have I2 := L2.Inv.made (C := C) I
  have r2 : Vals (V.ref (s.heap.objs.size + 1) :: (vs ++ dvs)) (Value.ref (s.heap.objs.size + 1) :: (us ++ ds)) := .cons rfl (r.append hd)
  have hl : (Value.ref (s.heap.objs.size + 1) :: us ++ ds).length = ps.length := (F.len _ _ _ _ hq ▸ r2.length).symm
  have td : Td (PoG Po.po GP) [] { s with heap := (s.heap.push PySem.W.emptyDict).push (PySem.W.instObj C s.heap.objs.size) } := g.td.gens rfl
  have hn2 : Po.n ≤ ((s.heap.push PySem.W.emptyDict).push (PySem.W.instObj C s.heap.objs.size)).objs.size := by rw [Heap.size_push, Heap.size_push]; omega
  refine wpAny_call (mm_make (f := f) I.kIn M.makes M.init (beq_iff_eq.mp M.fn) (codeAny_mono (F.run _ X.stack _ _ ⟨Value.ref (s.heap.objs.size + 1) :: us, []⟩ (Value.ref (s.heap.objs.size + 1) :: (us ++ ds)) _ _ E (PoG Po.po GP) (hr.make C us [])
    (I2.env0.make C us []) (hb _ (Value.ref (s.heap.objs.size + 1) :: us) I2.kIn hl) r2 hq td) fun r s' hq' => ?_))
  cases r with
  | error e => exact air2 I2 hs.stk hs.frm g hn2 hW hq'
  | ok fl =>
    cases fl with
    | ret u =>
      obtain ⟨GP2, ⟨v, H', I3, rv, ev, q3⟩, g3⟩ := after2 I2 hs.stk hs.frm g hn2 hq'
      subst ev
      exact ⟨rv, GP2, ⟨V.ref (s.heap.objs.size + 1), H', I3, rfl, q3⟩, g3⟩
    | next => exact False.elim hq'
    | brk => exact False.elim hq'
    | cont => exact False.elim hq'
/-- C(e, ..), what leaves is wished at the slots -/
def tMakeS (C : Addr) (sp : Sp) (dvs : List V) (E : L2.St → XK) (t : TA) : TE := fun σ H Q => t σ H fun vs H1 => ∀ x dx, H1 x = none → H1 dx = none → dx ≠ x → sp (.ref x :: (vs ++ dvs)) (upd (upd H1 dx (.own x)) x (.ins C dx [])) (fun v H2 => v = .non ∧ Q (.ref x) H2) (E σ)
theorem pe2_makeS {E : L2.St → XK} (M : Mk X.K C f) (F : FnOk2 X.prog X.w X.K X.mg X.base k f fd ps sp) (hr : Room (k + 1) X.A) (hg : Gl X x) (hm : X.mg x = some (.ref C)) (hb : Binds X.K fd ps ds) (hd : Vals dvs ds) (hs : OnStack X) (hW : ∀ σ cls d H, E σ cls d H → W cls d σ H)
    (ha : PA2 X Po W (e :: es) t) (hdb : (x == ("__debug__" : Str)) = false := by decide) (he : starEach (e :: es) X.env = (false, eval e X.env) :: starEach es X.env := by rfl) (hpl : (backTo pos (starEach es X.env)).any (·.1) = false := by rfl) :
    PE2 X Po W (.Call (.Name x p) (e :: es) [] pos) (tMakeS C sp dvs E t) := by
  refine ⟨fun pins GP s σ H Q I g hn h => wpAny_Call_Name_kw (glob2 I hg hm ?_ hdb)⟩
  refine PySem.W.callWith_K (h₀ := X.base) I.ok.mod.kin M.kp (hsz hn (wpAny_mono (ha.run pos pins GP s σ H _ I g hn h) (fun us s1 ⟨GP1, ⟨vs, H1, I1, r, q⟩, g1⟩ hn1 => ⟨I1.kIn, ?_⟩) fun _ _ x _ => x)) he hpl
  exact run_make2S M F hr hb hd hs (hW σ) I1 g1 hn1 r q
end
end Em
end
section
set_option linter.all false
set_option maxRecDepth 100000
set_option maxHeartbeats 2000000
/-! M11: o[k] of an own class, == of an own instance; tests, conditional expressions, methods and comparisons at the erased model -/
namespace Cm
open PySem PySem.Spec PyProof.Rows L2
section
variable {X : Cx} {CX : CXT} {n : Nat} {C f : Addr} {fd : FuncData} {ps : List Str} {sp : Sp}
/-- o[k], o of the class C; what leaves is wished at the slots -/
def tItIns (C : Addr) (sp : Sp) (E : L2.St → XK) (ta tb : TE) : TE := fun σ H Q => ta σ H fun x H1 => tb σ H1 fun y H2 => ∃ a dx fs, x = .ref a ∧ H2 a = some (.ins C dx fs) ∧ sp [x, y] H2 Q (E σ)
theorem pe_itIns {E : L2.St → XK} {a b : Expr} {pos : Pos} {ta tb : TE} (F : FnOk X.prog X.w X.K X.mg X.base CX n f fd ps sp) (hs : PySem.W.findIn X.K (.ref C) "__getitem__" = some (some (.ref f))) (hf : PySem.W.isFn X.K (.ref f) = true) (hfn : PySem.W.fnIn X.K f = true)
    (hb : Binds X.K fd ps []) (hr : Room (n + 1) X.A) (hx : ∀ σ, PassesAt CX X σ (E σ)) (pa : PE X a ta) (pb : PE X b tb)
    (hsl : ∀ (x : Addr) (i : Value), subscripted b true (.ref x) i = runValue (.builtin "lifetime.subscript" ⟨[.ref x, i], []⟩) := by intro _ _; with_unfolding_all rfl) : PE X (.Subscript a b pos) (tItIns C sp E ta tb) := by
  refine ⟨fun pins s σ H Q I h => Subscript_ (binT pa pb I h fun v u s2 x y H2 I2 rx ry q => ?_)⟩
  obtain ⟨a1, dx, fs, rfl, ha, q⟩ := q
  cases (show v = Value.ref a1 from rx)
  obtain ⟨mA, O, _⟩ := ins_get I2.hok ha
  obtain ⟨od, J, _⟩ := O.look
  obtain ⟨m, hF⟩ := I2.fr
  refine PySem.W.sub_K hF I2.ok.mod.kin J hs hfn hf ?_ (hsl _ _)
  have hl : ([Value.ref a1, u] : List Value).length = ps.length := (F.len _ _ _ _ q)
  have bb := hb s2 [.ref a1, u] I2.kIn (by rw [List.append_nil]; exact hl)
  rw [List.append_nil] at bb
  refine wpAny_call (codeAny_mono (F.run X.A.in1 X.stack s2 H2 ⟨[.ref a1, u], []⟩ [.ref a1, u] [.ref a1, y] _ (E σ) hr.in1 I2.env0.in1 bb (.cons rfl (.cons ry .nil)) q) fun r s' hq => ?_)
  cases r with
  | error e => exact hx σ pins H2 s2 e s' I2 hq
  | ok fl =>
    cases fl with
    | ret u => exact I2.after hq
    | next => exact hq.elim
    | brk => exact hq.elim
    | cont => exact hq.elim
end
end Cm
namespace Em
open PySem PySem.Spec PyProof.Rows L2 GenW Gp Er Gm
def TP2 (X : Cx) (Po : Dg) (pins : List (Addr × Obj)) (σ : L2.St) (Q : Bool → Hp → Prop) (c : Bool) (s' : Shared) : Prop := ∃ GP H', L2.Inv X (pins ++ GP) σ H' s' ∧ Q c H' ∧ Gs Po GP s'
structure PT2 (X : Cx) (Po : Dg) (W : WX) (e : Expr) (t : TT) : Prop where
  run : ∀ (pins GP : List (Addr × Obj)) (s : Shared) (σ : L2.St) (H : Hp) (Q : Bool → Hp → Prop), L2.Inv X (pins ++ GP) σ H s → Gs Po GP s → Po.n ≤ s.heap.objs.size → t σ H Q → wpAny (mm X.prog X.w) X.A (isTrue e X.env (eval e X.env)) (TP2 X Po pins σ Q) (XE2 X Po pins W) s
structure PW2 (X : Cx) (Po : Dg) (W : WX) (e : Expr) (t : TT) : Prop where
  run : ∀ (whole : Sem Value) (pins GP : List (Addr × Obj)) (s : Shared) (σ : L2.St) (H : Hp) (Q : Bool → Hp → Prop), L2.Inv X (pins ++ GP) σ H s → Gs Po GP s → Po.n ≤ s.heap.objs.size → t σ H Q → wpAny (mm X.prog X.w) X.A (isTrue e X.env whole) (TP2 X Po pins σ Q) (XE2 X Po pins W) s
section
variable {X : Cx} {Po : Dg} {W : WX} {a b c e : Expr} {rest : List Expr} {pos : Pos} {ta tb : TE} {tA tB' : TT}
theorem PW2.pt (h : PW2 X Po W e tA) : PT2 X Po W e tA := ⟨h.run _⟩
theorem pt2_of (h : ∀ pn, PT (X.tr pn noX) e tA) : PT2 X Po W e tA :=
  ⟨fun pins GP s σ H Q I g hn hq => wpAny_mono (liftt noX I fun s J => (h _).run [] s σ H Q J hq) (fun d s1 ⟨v, l, H1, I1, q1⟩ => ⟨GP, H1, (l.inv I.bare I1).ofTry I.ok, q1, g.like l⟩) fun _ _ ⟨_, _, x⟩ => x.elim⟩
theorem pt2_val (h : PE2 X Po W e ta) (he : ∀ whole, isTrue e X.env whole = (do let v ← whole; standAt e.pos; holding [v] (truthy v)) := by intro _; rfl) : PT2 X Po W e (tB ta) := by
  refine ⟨fun pins GP s σ H Q I g hn hw => isTrue_plain (thn (h.run pins GP s σ H _ I g hn hw) fun v s1 ⟨GP1, ⟨x, H1, I1, r1, q1⟩, g1⟩ => ?_) (he _)⟩
  obtain ⟨d, rfl, q⟩ := q1
  cases r1
  exact wpAny_truthy_bool ⟨GP1, H1, I1, q, g1⟩
theorem pt2_not (h : PT2 X Po W a tA) : PT2 X Po W (.UnaryOp .Not a pos) (tNot tA) :=
  ⟨fun pins GP s σ H Q I g hn hw => isTrue_not (h.run pins GP s σ H (fun c H1 => Q (!c) H1) I g hn hw)⟩
theorem pw2_or1 (h : PT2 X Po W a tA) : PW2 X Po W (.BoolOp .Or [a] pos) tA := by
  refine ⟨fun wh pins GP s σ H Q I g hn hw => isTrue_or (thn (h.run pins GP s σ H Q I g hn hw) fun c s1 z => ?_)⟩
  cases c with
  | false => exact isTrue_or_nil z
  | true => exact z
theorem pw2_and1 (h : PT2 X Po W a tA) : PW2 X Po W (.BoolOp .And [a] pos) tA := by
  refine ⟨fun wh pins GP s σ H Q I g hn hw => isTrue_and (thn (h.run pins GP s σ H Q I g hn hw) fun c s1 z => ?_)⟩
  cases c with
  | true => exact isTrue_and_nil z
  | false => exact z
theorem pw2_or (ha : PT2 X Po W a tA) (hb : PW2 X Po W (.BoolOp .Or (b :: rest) pos) tB') : PW2 X Po W (.BoolOp .Or (a :: b :: rest) pos) (tOr tA tB') := by
  refine ⟨fun wh pins GP s σ H Q I g hn hw => isTrue_or (hsz hn (wpAny_mono (ha.run pins GP s σ H _ I g hn hw) (fun c s1 ⟨GP1, H1, I1, q1, g1⟩ hn1 => ?_) fun _ _ z _ => z))⟩
  cases c with
  | true => exact ⟨GP1, H1, I1, q1, g1⟩
  | false => exact hb.run wh pins GP1 s1 σ H1 Q I1 g1 hn1 q1
theorem pw2_and (ha : PT2 X Po W a tA) (hb : PW2 X Po W (.BoolOp .And (b :: rest) pos) tB') : PW2 X Po W (.BoolOp .And (a :: b :: rest) pos) (tAnd tA tB') := by
  refine ⟨fun wh pins GP s σ H Q I g hn hw => isTrue_and (hsz hn (wpAny_mono (ha.run pins GP s σ H _ I g hn hw) (fun c s1 ⟨GP1, H1, I1, q1, g1⟩ hn1 => ?_) fun _ _ z _ => z))⟩
  cases c with
  | false => exact ⟨GP1, H1, I1, q1, g1⟩
  | true => exact hb.run wh pins GP1 s1 σ H1 Q I1 g1 hn1 q1
/-- a op b; the operator raises nothing -/
theorem pe2_cmp {op : CmpOp} {r : R2} (ho : ∀ pn, OpR (X.tr pn noX) (compareOp op) r) (ha : PE2 X Po W a ta) (hb : PE2 X Po W b tb) (hm : behindInMarks op b = false) : PE2 X Po W (.Compare a [op] [b] pos) (tOp r ta tb) := by
  refine ⟨fun pins GP s σ H Q I g hn h => wpAny_Compare1 (hsz hn (wpAny_mono (ha.run pins GP s σ H _ I g hn h) (fun v s1 ⟨GP1, ⟨x, H1, I1, r1, q1⟩, g1⟩ hn1 =>
    hsz hn1 (wpAny_mono (hb.run pins GP1 s1 σ H1 _ I1 g1 hn1 q1) (fun u s2 ⟨GP2, ⟨y, H2, I2, r2, q2⟩, g2⟩ hn2 => ?_) fun _ _ z _ => z)) fun _ _ z _ => z)) hm⟩
  exact wpAny_mono (liftt noX I2 fun s J => ho _ [] s σ H2 x y v u Q J r1 r2 q2) (fun u s' ⟨v, l, x⟩ => ⟨GP2, of_ep I2.ok l I2.bare x, g2.like l⟩) fun _ _ ⟨_, _, x⟩ => x.elim
theorem pt2_cmp {op : CmpOp} {r : R2} (ho : ∀ pn, OpR (X.tr pn noX) (compareOp op) r) (ha : PE2 X Po W a ta) (hb : PE2 X Po W b tb) (hm : behindInMarks op b = false) : PT2 X Po W (.Compare a [op] [b] pos) (tTest (tOp r ta tb)) := by
  refine ⟨fun pins GP s σ H Q I g hn h => wpAny_isTrue_Compare1 (hsz hn (wpAny_mono (ha.run pins GP s σ H _ I g hn h) (fun v s1 ⟨GP1, ⟨x, H1, I1, r1, q1⟩, g1⟩ hn1 =>
    hsz hn1 (wpAny_mono (hb.run pins GP1 s1 σ H1 _ I1 g1 hn1 q1) (fun u s2 ⟨GP2, ⟨y, H2, I2, r2, q2⟩, g2⟩ hn2 => ?_) fun _ _ z _ => z)) fun _ _ z _ => z)) hm⟩
  refine wpAny_mono (liftt noX I2 fun s J => ho _ [] s σ H2 x y v u _ J r1 r2 q2) (fun u s' ⟨v, l, x⟩ => ?_) fun _ _ ⟨_, _, x⟩ => x.elim
  obtain ⟨z, H3, I3, r3, k, e, q3⟩ := of_ep I2.ok l I2.bare x
  subst e
  cases r3
  exact wpAny_truthy_bool ⟨GP2, H3, I3, q3, g2.like l⟩
/-- an expression that may raise -/
theorem pe2_raise {t : TE} (h : ∀ pn xe, Takes (X.tr pn xe) W → PE (X.tr pn xe) e t) : PE2 X Po W e t := by
  refine ⟨fun pins GP s σ H Q I g hn hq => ?_⟩
  have tk : Takes (X.tr (X.pn ++ (pins ++ GP)) fun u s' => XEp X (pins ++ GP) W u s') W := fun u s' x => XEp.of_tr I.ok x
  exact wpAny_mono (liftt _ I fun s J => (h _ _ tk).run [] s σ H Q J hq) (fun u s' ⟨v, l, x⟩ => ⟨GP, of_ep I.ok l I.bare x, g.like l⟩) fun u s' ⟨v, l, x⟩ => ⟨GP, XEp.like x l I.bare, g.like l⟩
theorem pe2_ifExp (hc : PT2 X Po W c tA) (ha : PE2 X Po W a ta) (hb : PE2 X Po W b tb) : PE2 X Po W (.IfExp c a b pos) (tIf tA ta tb) := by
  refine ⟨fun pins GP s σ H Q I g hn h => wpAny_IfExp (hsz hn (wpAny_mono (hc.run pins GP s σ H _ I g hn h) (fun d s1 ⟨GP1, H1, I1, q1, g1⟩ hn1 => ?_) fun _ _ z _ => z))⟩
  cases d with
  | true => exact ha.run pins GP1 s1 σ H1 Q I1 g1 hn1 q1
  | false => exact hb.run pins GP1 s1 σ H1 Q I1 g1 hn1 q1
theorem ps2_ifB {sa sb : List Stmt} {t u : TS} (hc : PT2 X Po W c tA) (ha : PSs2 X Po W sa t) (hb : PSs2 X Po W sb u) : PS2 X Po W (.If c sa sb pos) (tIfS tA t u) := by
  refine ⟨fun pins GP s σ H D I g hn h => wpAny_If (hsz hn (wpAny_mono (hc.run pins GP s σ H _ I g hn h) (fun d s1 ⟨GP1, H1, I1, q1, g1⟩ hn1 => ?_) fun _ _ z _ => z))⟩
  cases d with
  | true => exact ha.run pins GP1 s1 σ H1 D I1 g1 hn1 q1
  | false => exact hb.run pins GP1 s1 σ H1 D I1 g1 hn1 q1
end
section
variable {X : Cx} {Po : Dg} {W : WX} {k : Nat} {f C : Addr} {fd : FuncData} {ps : List Str} {sp : Sp} {dvs : List V} {ds : List Value} {m : Str} {p pos apos : Pos} {e o : Expr} {es : List Expr} {ta : TE} {t : TA}
theorem run_fn2S {E : L2.St → XK} {pins GP : List (Addr × Obj)} {σ : L2.St} {H : Hp} {s : Shared} {Q : VK} {us : List Value} {vs : List V} (F : FnOk2 X.prog X.w X.K X.mg X.base k f fd ps sp) (hr : Room k X.A) (hb : Binds X.K fd ps ds) (hd : Vals dvs ds) (hs : OnStack X)
    (hW : ∀ cls d H, E σ cls d H → W cls d σ H) (I : L2.Inv X (pins ++ GP) σ H s) (g : Gs Po GP s) (hn : Po.n ≤ s.heap.objs.size) (r : Vals vs us) (h : sp (vs ++ dvs) H Q (E σ)) : wpAny (mm X.prog X.w) X.A (call (.ref f) us) (EP2 X Po pins σ Q) (XE2 X Po pins W) s := by
  have r2 : Vals (vs ++ dvs) (us ++ ds) := r.append hd
  have hl : (us ++ ds).length = ps.length := by rw [← r2.length]; exact F.len _ _ _ _ h
  refine wpAny_call (codeAny_mono (F.run X.A X.stack s H ⟨us, []⟩ (us ++ ds) (vs ++ dvs) Q (E σ) (PoG Po.po GP) hr I.env0 (hb s us I.kIn hl) r2 h g.td) fun r s' hq => ?_)
  cases r with
  | error e => exact air2 I hs.stk hs.frm g hn (fun c d H' => hW c d H') hq
  | ok fl =>
    cases fl with
    | ret u => exact after2 I hs.stk hs.frm g hn hq
    | next => exact False.elim hq
    | brk => exact False.elim hq
    | cont => exact False.elim hq
/-- o.m(e, ..); what leaves is wished at the slots -/
def tMethS (C : Addr) (m : Str) (sp : Sp) (dvs : List V) (E : L2.St → XK) (ta : TE) (t : TA) : TE := fun σ H Q => ta σ H fun x H1 => ∃ a dx fs, x = .ref a ∧ H1 a = some (.ins C dx fs) ∧ fs.lookup m = none ∧
  t σ H1 fun vs H2 => sp (x :: (vs ++ dvs)) H2 Q (E σ)
theorem pe2_meth {E : L2.St → XK} {pl : Sem Bool} (he : PE2 X Po W o ta) (c : Cls X.K C) (hm : Meth X.K C m f) (F : FnOk2 X.prog X.w X.K X.mg X.base k f fd ps sp) (hr : Room k X.A) (hb : Binds X.K fd ps ds) (hd : Vals dvs ds) (hs : OnStack X)
    (hW : ∀ σ cls d H, E σ cls d H → W cls d σ H) (ha : PA2 X Po W (e :: es) t)
    (hst : starEach (e :: es) X.env = (false, eval e X.env) :: starEach es X.env := by rfl) (hpl : (backTo pos (starEach es X.env)).any (·.1) = false := by rfl)
    (ht : eval (.Call (.Attribute o m apos) (e :: es) [] pos) X.env = (do
      let ov ← eval o X.env
      standAt apos.atName
      let (f, first) ← holding [ov] (getMethod ov m pl)
      callWith pos f first (backTo pos (starEach (e :: es) X.env)) (backToKw pos (keywordEach [] X.env))) := by rfl) :
    PE2 X Po W (.Call (.Attribute o m apos) (e :: es) [] pos) (tMethS C m sp dvs E ta t) := by
  refine ⟨fun pins GP s σ H Q I g hn h => ?_⟩
  refine PySem.W.methodCall_KW (pl := pl) (hsz hn (wpAny_mono (he.run pins GP s σ H _ I g hn h) (fun u s1 ⟨GP1, ⟨x, H1, I1, rx, a, dx, fs, ex, ea, l, q⟩, g1⟩ hn1 => ?_) fun _ _ z _ => z)) ht
  subst ex
  obtain rfl : u = Value.ref a := rx
  refine wpAny_mono (unere (lift (M := model X.prog X.w) (Q := fun fx s' => fx = (Value.ref f, [Value.ref a]) ∧ s' = { s1 with gens := blankA s1.gens }) (E := noX) (getmeth_ok (Gp.Inv.gens I1 (blankA_bare _)) ea c hm l ⟨rfl, rfl⟩))) (fun fx s' ⟨v, lk, e1, e2⟩ => ?_) fun _ _ ⟨_, _, q⟩ => q.elim
  subst e1 e2
  rw [lk.eq, rest_blank]
  refine PySem.W.callWith_K (first := [.ref a]) (h₀ := X.base) I1.ok.mod.kin hm.kp (hsz hn1 (wpAny_mono (ha.run pos pins GP1 s1 σ H1 _ I1 g1 hn1 q) (fun us s2 ⟨GP2, ⟨vs, H2, I2, r, q2⟩, g2⟩ hn2 => ⟨I2.kIn, ?_⟩) fun _ _ x _ => x)) hst hpl
  exact run_fn2S (us := .ref a :: us) (vs := .ref a :: vs) F hr hb hd hs (hW σ) I2 g2 hn2 (.cons rfl r) q2
end
end Em
end
section
set_option linter.all false
set_option maxRecDepth 100000
set_option maxHeartbeats 4000000
/-! X5: raise NoStatement(path); program[path], program == other -/
namespace W1
open PySem L2 Cm
def tNS (C : Addr) (W : WX) (te : TE) : TS := fun _ σ H => te σ H fun v H1 => ∀ d H2, H1 d = none → (∀ b o, H1 b = some o → H2 b = some o) → H2 d = some (.xd [("path", v)]) → W (.ref C) (some d) σ H2
def RaisesNS (P : Program) (w : World) (K : PySem.W.Frag) (mg : Str → Option Value) (base : Heap) (k : Nat) (C : Addr) : Prop :=
  ∀ (X : Cx) (W : WX) (e : Expr) (te : TE) (p1 p2 p3 : Pos), X.prog = P → X.w = w → X.K = K → X.mg = mg → X.base = base → X.calm = true → Room k X.A → Gl X "NoStatement" → Takes X W → PE X e te →
    starEach [e] X.env = (false, eval e X.env) :: starEach [] X.env → PS X (.Raise (some (.Call (.Name "NoStatement" p1) [e] [] p2)) none p3) (tNS C W te)
theorem raises_ns {P : Program} {w : World} {K : PySem.W.Frag} {mg : Str → Option Value} {base : Heap} {C cc cda f : Addr} {fd : FuncData} {st : Stmt} {m : Str} {j : Nat} {q1 p0 p1 p2 p3 p4 p5 p6 p7 p8 : Pos}
    (F : FunX K "NoStatement.__init__" st cc cda f fd) (W : InitIs st (.Constant (.str m) j q1) p0 p1 p2 p3 p4 p5 p6 p7 p8) (SC : SupC P K mg C cc cda) (hno : PySem.W.findIn K (.ref C) "path" = some none)
    (hev : ∀ A outer s H E, Says (cxI P w K mg base st "NoStatement.__init__" cc cda f A outer s H E).env (.Constant (.str m) j q1) p0 p1 p2 p3 p4)
    (iC : PySem.W.findIn K (.ref C) "__init__" = some (some (.ref f))) (tI : PySem.W.typeIn K (.ref f) = some (.type "function")) (hg : mg "NoStatement" = some (.ref C)) : RaisesNS P w K mg base 3 C := by
  have FI : FnOk P w K mg base CX0 2 f fd ["self", "path"] (spXI C fun _ _ => True) := ok_xinit (k := 1) F W SC hno hev fun A outer s H E a v hr ok => ⟨_, pe_str, fun Q k => k _⟩
  intro X Wx e te b1 b2 b3 eP ew eK em eb hc hr gl tk pe hs
  subst eP ew eK em eb
  have Rc : Raises X (.ref C) := raises_own SC.T.exC SC.T.tyC
  have pe' : PE X e (fun σ H Q => ∃ Q0 : VK, te σ H Q0 ∧ ∀ v H1, Q0 v H1 → Q v H1) := ⟨fun pins s σ H Q I ⟨Q0, h, k⟩ => wpAny_mono (pe.run pins s σ H Q0 I h) (fun u s' ⟨v, H', I', r, q⟩ => ⟨v, H', I', r, k _ _ q⟩) fun _ _ x => x⟩
  refine ⟨fun pins s σ H D I q => (ps_raise hc tk (pmk_oex (ps := ["self", "path"]) (ds := []) (dvs := []) SC.T iC tI FI hr (F.binds W) .nil pass0 gl hg (pa_cons pe' pa_nil hs) (by decide) hs (by rfl))).run pins s σ H D I ⟨_, q, fun v H1 kW => ?_⟩⟩
  refine ⟨by simp, fun a ha => ⟨a, v, rfl, upd_same, trivial, fun d hd hda => ⟨rfl, d, [("path", v)], upd_same, ?_, ?_, ?_⟩⟩⟩
  · rw [upd_ne hda]
    exact upd_same
  · rw [upd_ne hda] at hd
    exact hd
  · rw [upd_ne hda] at hd
    refine kW d _ hd (fun b o z => ?_) upd_same
    have nb : b ≠ a := ne_of_none z ha
    have nd : b ≠ d := ne_of_none z hd
    rw [upd_ne nd, del_ne nb, upd_ne nb, upd_ne nd, upd_ne nb]
    exact z
theorem ns_is : ∃ m j q1 p0 p1 p2 p3 p4 p5 p6 p7 p8, InitIs s_NoStatement_init (.Constant (.str m) j q1) p0 p1 p2 p3 p4 p5 p6 p7 p8 ∧
    ∀ (P : Program) (w : World) (K : PySem.W.Frag) (mg : Str → Option Value) (base : Heap) cc cda f A outer s H E, Says (cxI P w K mg base s_NoStatement_init "NoStatement.__init__" cc cda f A outer s H E).env (.Constant (.str m) j q1) p0 p1 p2 p3 p4 := by
  refine ⟨_, _, _, _, _, _, _, _, _, _, _, _, ⟨rfl, NdefX.nscope_by (by decide +kernel), rfl, ⟨_, rfl, rfl⟩, fun us hl => ?_⟩, fun P w K mg base cc cda f A outer s H E => ⟨?_, ?_, ?_, ?_⟩⟩
  · match us, hl with
    | [_, _], _ => exact fun _ _ _ _ _ _ _ _ _ _ => rfl
  · rfl
  · rfl
  · rfl
  · exact ⟨_, rfl⟩
/-- what the methods of a Program need of the object -/
def spGet (K : PySem.W.Frag) (CP CN : Addr) : Sp := fun vs H Q E => ∃ (a tp : Addr) (names kept : List Str) (x : List Stm) (p : List Int), vs = [.ref a, .ref tp] ∧ PObj K CP H a names x kept ∧ SqT K H tp (p.map V.int) ∧ x.length ≤ 500 ∧ slims x ∧ p.length ≤ 9 ∧
  (∀ t, foundAt x p = some t → ∀ v H', Same H H' → Td H' v t.toD → Q v H') ∧ (foundAt x p = none → ∀ d H', Same H H' → H' d = some (.xd [("path", .ref tp)]) → E (.ref CN) (some d) H')
theorem _root_.Cm.kit_self {K : PySem.W.Frag} {C : Addr} : PySem.W.kitOne K (.ref C) (.ref C) = some true := by
  unfold PySem.W.kitOne
  rw [if_pos (beq_self_eq_true _)]
section
variable {P : Program} {w : World} {K : PySem.W.Frag} {mg : Str → Option Value} {base : Heap}
theorem ok_getitem {CP CN : Addr} {f fF fN fB : Addr} {fd fdF fdN fdB : FuncData} (F : Fun K "__getitem__" "Program.__getitem__" s_Program_getitem f fd) (T : Bi mg) (G : Tabs K w mg) (PC : PCls K CP) (N : Dn K mg "is_number" s_is_number ["value", "most"] fN fdN) (B : Dn K mg "blocks_of" s_blocks_of ["statement"] fB fdB)
    (Fo : Dn K mg "found_at" s_found_at ["block", "path"] fF fdF) (RN : RaisesNS P w K mg base 3 CN) : FnOk P w K mg base (L2.CX P w) 4 f fd ["self", "path"] (spGet K CP CN) := by
  have GF : FnOk P w K mg base CX0 2 fF fdF ["block", "path"] (spFound K) := ok_found Fo.F T G N B
  have nd := sc_Program_getitem.nd
  obtain ⟨oc, od, kV, doc, pm, an, cdv, ct, osl, rfl, lk, hcd⟩ := F.ex
  refine fn_of (CX := L2.CX P w) lk hcd sc_Program_getitem (fun vs H Q E h => ?_) (fun A outer s H vs Q E hr h => ?_)
  · obtain ⟨a, tp, names, kept, x, p, rfl, _⟩ := h
    rfl
  · obtain ⟨a, tp, names, kept, x, p, rfl, hP, hp, hxl, hxs, hp9, k1, k2⟩ := h
    have hr2 : Room 2 _ := hr.mono (by decide)
    obtain ⟨dx, t, tl, tb, tk, rs, hA, ht, pr, hL, hT, hK⟩ := hP.at_
    refine ⟨_, pss_cons (ps_set (i := 2) nd rfl (Or.inl rfl) (pe_call GF hr2 (by rfl) Fo.g Fo.F.kp Fo.b .nil pass0 (pa_cons (pe_fld (pv 0) rfl) (pa_cons (pv 1) pa_nil))))
      (pss_cons (ps_if (pt_cmpR op_isN (pv 2) pe_non (nomark _)) (pss_one (RN _ _ _ _ _ _ _ rfl rfl rfl rfl rfl rfl hr (by rfl) (takes_of rfl rfl rfl rfl) (pv 1) rfl)) pss_nil)
      (pss_one (ps_ret (pv 2)))), ?_⟩
    refine ⟨_, rfl, a, CP, dx, _, _, rfl, hA, PC.cl, PC.n3, rfl, _, rfl, .ref tb, tp, x, p, rfl, hT, hp, hxl, hxs, hp9, fun u H1 s1 hu => ?_⟩
    cases e : foundAt x p with
    | none =>
      rw [e] at hu
      obtain rfl : u = .non := hu
      exact ⟨_, rfl, rfl, _, rfl, iteT ⟨_, rfl, fun d H2 nd s2 ed => k2 e d H2 (s1.trans s2) ed⟩⟩
    | some t =>
      rw [e] at hu
      have hu : Td H1 u t.toD := hu
      obtain ⟨au, xs, l, rfl, _⟩ := stm_inv hu
      exact ⟨_, rfl, rfl, _, rfl, iteF ⟨_, rfl, k1 t e _ H1 s1 hu⟩⟩
/-- == of a Program with a Program or a tuple -/
def spPEq (K : PySem.W.Frag) (CP : Addr) : Sp := fun vs H Q _ => ∃ (a : Addr) (names kept : List Str) (x : List Stm) (v : V), vs = [.ref a, v] ∧ PObj K CP H a names x kept ∧ (∀ z ∈ names, okS z) ∧ (∀ z ∈ kept, okS z) ∧ PyData.canLayAll0 (toDs x) = true ∧ depths x ≤ 4 ∧
  ((∃ b t, v = .ref b ∧ SqT K H b t ∧ ∀ H', Same H H' → Q (.bl false) H') ∨
   (∃ b names' kept' x', v = .ref b ∧ PObj K CP H b names' x' kept' ∧ (∀ z ∈ names', okS z) ∧ (∀ z ∈ kept', okS z) ∧ PyData.canLayAll0 (toDs x') = true ∧ depths x' ≤ 4 ∧ fines x ∧ fines x' ∧
      ∀ H', Same H H' → Q (.bl (PyData.eqv (.tuple (names.map .str)) (.tuple (names'.map .str)) && (PyData.eqv (.tuple (toDs x)) (.tuple (toDs x')) && PyData.eqv (.tuple (kept.map .str)) (.tuple (kept'.map .str))))) H'))
theorem shaped_blk {x : List Stm} (h : PyData.canLayAll0 (toDs x) = true) (hf : fines x) (hd : depths x ≤ 4) : SeqAt.shaped (.tuple (toDs x)) = true := by
  unfold SeqAt.shaped
  rw [Bool.and_eq_true, decide_eq_true_iff]
  refine ⟨h, ?_⟩
  have := toDs_depth x hf
  simp only [PyData.depth]
  omega
theorem ok_peq {CP : Addr} {f : Addr} {fd : FuncData} (F : Fun K "__eq__" "Program.__eq__" s_Program_eq f fd) (T : Bi mg) (PC : PCls K CP) (gP : mg "Program" = some (.ref CP)) (c1 : PySem.W.findIn K (.ref CP) "__class__" = some (some (.builtin "object.__class__")))
    (c2 : PySem.W.specialIn K (.builtin "object.__class__") "__get__" = some (some (.builtin "getset_descriptor.__get__"))) (c3 : PySem.W.takesIn K (.builtin "object.__class__") = some true) (c4 : PySem.W.mroIn K CP (.type "object") = some true)
    (kt : PySem.W.kitOne K (.type "tuple") (.ref CP) = some false) : FnOk P w K mg base CX0 1 f fd ["self", "other"] (spPEq K CP) := by
  have nd := sc_Program_eq.nd
  refine F.ok sc_Program_eq (fun vs H Q E h => ?_) (fun cdv A outer s H vs Q E hr h => ?_)
  · obtain ⟨a, names, kept, x, v, rfl, _⟩ := h
    rfl
  · obtain ⟨a, names, kept, x, v, rfl, hP, hn, hk, hx, hd, h⟩ := h
    obtain ⟨dx, t, tl, tb, tk, rs, hA, ht, pr, hL, hT, hK⟩ := hP.at_
    refine ⟨_, pss_one (ps_ret (pe_and (pe_callB (call_isiK (K := K) rfl) (by rfl) T.isi (by decide +kernel) (pa_cons (pv 1) (pa_cons (pe_glob (v := .ref CP) (by rfl) gP rfl) pa_nil)))
      (pe_and (pe_cmpR (op_eqD hr.units) (pe_fld (pv 0) rfl) (pe_fld (pv 1) rfl) (nomark _))
      (pe_and (pe_cmpR (op_eqD hr.units) (pe_fld (pv 0) rfl) (pe_fld (pv 1) rfl) (nomark _))
      (pe_one (pe_cmpR (op_eqD hr.units) (pe_fld (pv 0) rfl) (pe_fld (pv 1) rfl) (nomark _))))))), ?_⟩
    rcases h with ⟨b, xs, rfl, hb, k⟩ | ⟨b, names', kept', x', rfl, hP', hn', hk', hx', hd', hf, hf', k⟩
    · exact ⟨_, rfl, .ref b, .ref CP, .type "tuple", .ref CP, false, rfl, .own CP, tyx_tup hb, kt, false, rfl, k H fun _ _ e => e⟩
    · obtain ⟨dx', t', tl', tb', tk', rs', hA', ht', pr', hL', hT', hK'⟩ := hP'.at_
      refine ⟨_, rfl, .ref b, .ref CP, .ref CP, .ref CP, true, rfl, .own CP, .base (.ins hA' PC.cl c1 c2 c3 c4), kit_self, true, rfl, iteT ?_⟩
      refine ⟨_, rfl, a, CP, dx, _, _, rfl, hA, PC.cl, PC.n2, rfl, _, rfl, b, CP, dx', _, _, rfl, hA', PC.cl, PC.n2, rfl, _, _, .tup hL.sq (dp_strs _), .tup hL'.sq (dp_strs _), shaped_tup hn, shaped_tup hn', _, rfl, ?_⟩
      refine ite2 (fun e1 => ?_) (fun e1 => ?_)
      · rw [e1, Bool.true_and] at k
        refine ⟨_, rfl, a, CP, dx, _, _, rfl, hA, PC.cl, PC.n3, rfl, _, rfl, b, CP, dx', _, _, rfl, hA', PC.cl, PC.n3, rfl, _, _, hT.dp, hT'.dp, shaped_blk hx hf hd, shaped_blk hx' hf' hd', _, rfl, ?_⟩
        refine ite2 (fun e2 => ?_) (fun e2 => ?_)
        · rw [e2, Bool.true_and] at k
          exact ⟨_, rfl, a, CP, dx, _, _, rfl, hA, PC.cl, PC.n4, rfl, _, rfl, b, CP, dx', _, _, rfl, hA', PC.cl, PC.n4, rfl, _, _, .tup hK.sq (dp_strs _), .tup hK'.sq (dp_strs _), shaped_tup hk, shaped_tup hk', k H fun _ _ e => e⟩
        · have : PyData.eqv (.tuple (toDs x)) (.tuple (toDs x')) = false := by simpa using e2
          rw [this, Bool.false_and] at k
          exact k H fun _ _ e => e
      · have : PyData.eqv (.tuple (names.map .str)) (.tuple (names'.map .str)) = false := by simpa using e1
        rw [this, Bool.false_and] at k
        exact k H fun _ _ e => e
end
end W1
end
section
set_option linter.all false
set_option maxRecDepth 100000
set_option maxHeartbeats 4000000
/-! X6: Program.with_statement -/
namespace W1
open PySem L2 Cm
theorem _root_.Cm.pe_fldK {X : Cx} {K : PySem.W.Frag} {e : Expr} {ta : TE} {f : Str} {pos : Pos} (hK : X.K = K) (he : PE X e ta) (hb : attributeBase e f X.env (eval e X.env) = eval e X.env) : PE X (.Attribute e f pos) (tFld K ta f) := by
  subst hK
  exact pe_fld he hb
/-- what can be said of a block that a Program is made of -/
structure Okx (x : List Stm) : Prop where
  d : depths x ≤ dW
  l : x.length ≤ 500
  s : slims x
  f : ∀ r ∈ rowsL [] 0 x, r.2.flatN
  n : (rowsL [] 0 x).length ≤ 500
section
variable {K : PySem.W.Frag}
theorem pinit_use {CP CL CB o dx tl tb tk : Addr} {H : Hp} {names kept : List Str} {x : List Stm} {R : Hp → Prop} {E : XK} (no : H o = none) (ndx : H dx = none) (hL : TupX K H tl (names.map V.str)) (hK : TupX K H tk (kept.map V.str)) (hn : ∀ a ∈ names, a.length ≤ 1000) (hn5 : names.length ≤ 500) (hk5 : kept.length ≤ 500)
    (hT : Td H (.ref tb) (.tuple (toDs x))) (ox : Okx x) (k3 : areLists names kept = true → judged names (rowsL [] 0 x) = none → ∀ H', Same H H' → PObj K CP H' o names x (keptOf names kept) → R H') (k1 : areLists names kept = false → ∀ H', Same H H' → E (.ref CL) none H')
    (k2 : areLists names kept = true → ∀ p, judged names (rowsL [] 0 x) = some p → ∀ d tp H', Same H H' → H' d = some (.xd [("path", .ref tp)]) → H' tp = some (.tup (p.map V.int)) → E (.ref CB) (some d) H') :
    spPInit K CP CL CB [.ref o, .ref tl, .ref tb, .ref tk] (upd (upd H dx (.own o)) o (.ins CP dx [])) (fun v H2 => v = .non ∧ R H2) E := by
  have s1 : Same H (upd (upd H dx (.own o)) o (.ins CP dx [])) := same_at (same_upd ndx) no
  have off : ∀ H', (∀ b u, upd (upd H dx (.own o)) o (.ins CP dx []) b = some u → b ≠ o → H' b = some u) → Same H H' := fun H' h b u e => h b u (s1 b u e) fun z => by
    subst z
    rw [no] at e
    cases e
  refine ⟨o, dx, tl, tb, tk, names, kept, x, rfl, upd_same, hL.same s1, hK.same s1, hn, hn5, hk5, hT.mono (TK.same s1), ox.d, ox.l, ox.s, ox.f, ox.n, fun hA hj H' hO po => ⟨rfl, k3 hA hj H' (off H' hO) po⟩, fun hA H' hs => k1 hA H' (s1.trans hs), fun hA p hp d tp H' hs nd' e1 e2 => k2 hA p hp d tp H' (s1.trans hs) e1 e2⟩
def spWS (K : PySem.W.Frag) (CP CN CL CB : Addr) : Sp := fun vs H Q E => ∃ (a tp : Addr) (u : V) (names kept : List Str) (x : List Stm) (p : List Int) (t : Stm), vs = [.ref a, .ref tp, u] ∧ PObj K CP H a names x kept ∧ SqT K H tp (p.map V.int) ∧ Td H u t.toD ∧ x.length ≤ 500 ∧ slims x ∧ p.length ≤ 9 ∧
  (∀ a ∈ names, a.length ≤ 1000) ∧ names.length ≤ 500 ∧ kept.length ≤ 500 ∧ areLists names kept = true ∧ (∀ s, foundAt x p = some s → Okx (putAt x p t)) ∧
  (foundAt x p = none → ∀ d H', Same H H' → H' d = some (.xd [("path", .ref tp)]) → E (.ref CN) (some d) H') ∧
  (∀ s, foundAt x p = some s → judged names (rowsL [] 0 (putAt x p t)) = none → ∀ b H', Same H H' → PObj K CP H' b names (putAt x p t) (keptOf names kept) → Q (.ref b) H') ∧
  (∀ s, foundAt x p = some s → ∀ q, judged names (rowsL [] 0 (putAt x p t)) = some q → ∀ d tq H', Same H H' → H' d = some (.xd [("path", .ref tq)]) → H' tq = some (.tup (q.map V.int)) → E (.ref CB) (some d) H')
end
section
variable {P : Program} {w : World} {K : PySem.W.Frag} {mg : Str → Option Value} {base : Heap}
theorem ok_ws {CP CN CL CB : Addr} {f fF fN fB fW fI fP : Addr} {fd fdF fdN fdB fdW fdI fdP : FuncData} (F : Fun K "with_statement" "Program.with_statement" s_Program_with_statement f fd) (T : Bi mg) (G : Tabs K w mg) (PC : PCls K CP) (gP : mg "Program" = some (.ref CP)) (mkP : Mk K CP fP)
    (N : Dn K mg "is_number" s_is_number ["value", "most"] fN fdN) (B : Dn K mg "blocks_of" s_blocks_of ["statement"] fB fdB) (Fo : Dn K mg "found_at" s_found_at ["block", "path"] fF fdF)
    (Ws : Dn K mg "with_statement_at" s_with_statement_at ["block", "path", "statement"] fW fdW) (I_ : Dn K mg "with_item" s_with_item ["row", "at", "value"] fI fdI) (RN : RaisesNS P w K mg base 3 CN)
    (hb : Binds K fdP ["self", "lists", "block", "kept"] []) (GI : Em.FnOk2 P w K mg base 14 fP fdP ["self", "lists", "block", "kept"] (spPInit K CP CL CB)) : Em.FnOk2 P w K mg base 16 f fd ["self", "path", "statement"] (spWS K CP CN CL CB) := by
  have GF : FnOk P w K mg base CX0 2 fF fdF ["block", "path"] (spFound K) := ok_found Fo.F T G N B
  have GW : FnOk P w K mg base CX0 6 fW fdW ["block", "path", "statement"] (spWith 4 K) := ok_with Ws T G I_ 4
  have nd := sc_Program_with_statement.nd
  refine fun2 F sc_Program_with_statement (fun vs H Q E h => ?_) (fun cdv A outer s H vs Q E Po hr h => ?_)
  · obtain ⟨a, tp, u, names, kept, x, p, t, rfl, _⟩ := h
    rfl
  · obtain ⟨a, tp, u, names, kept, x, p, t, rfl, hP, hp, hu, hxl, hxs, hp9, hn, hn5, hk5, hAre, ox, k0, k1, k2⟩ := h
    have hr2 : Room 2 _ := hr.mono (by decide)
    have hr3 : Room 3 _ := hr.mono (by decide)
    have hr6 : Room 6 _ := hr.mono (by decide)
    refine ⟨_, Em.pss2_cons (Em.ps2_if (fun _ => pt_cmpR op_isN (pe_call GF hr2 (by rfl) Fo.g Fo.F.kp Fo.b .nil pass0 (pa_cons (pe_fldK (K := K) rfl (pv 0) rfl) (pa_cons (pv 1) pa_nil))) pe_non (nomark _))
        (Em.pss2_one (Em.ps2_raise fun pn xe tk => RN _ _ _ _ _ _ _ rfl rfl rfl rfl rfl rfl hr3 (by rfl) tk (pv 1) rfl)) Em.pss2_nil)
      (Em.pss2_cons (Em.ps2_of fun _ => ps_set (i := 3) nd rfl (Or.inl rfl) (pe_call GW hr6 (by rfl) Ws.g Ws.F.kp Ws.b .nil pass0 (pa_cons (pe_fldK (K := K) rfl (pv 0) rfl) (pa_cons (pv 1) (pa_cons (pv 2) pa_nil)))))
      (Em.pss2_one (Em.ps2_ret (Em.pe2_make mkP GI hr (by rfl) gP hb .nil ⟨rfl, rfl⟩ (fun _ _ _ _ h => h) (Em.pa2_cons (Em.pe2_of fun _ => pe_fldK (K := K) rfl (pv 0) rfl) (Em.pa2_cons (Em.pe2_of fun _ => pv 3) (Em.pa2_cons (Em.pe2_of fun _ => pe_fldK (K := K) rfl (pv 0) rfl) Em.pa2_nil))))))), ?_⟩
    obtain ⟨dx, t0, tl, tb, tk, rs, hA, ht, pr, hL, hT, hK⟩ := hP.at_
    refine ⟨_, rfl, a, CP, dx, _, _, rfl, hA, PC.cl, PC.n3, rfl, _, rfl, .ref tb, tp, x, p, rfl, hT, hp, hxl, hxs, hp9, fun v H1 s1 hv => ?_⟩
    cases e : foundAt x p with
    | none =>
      rw [e] at hv
      obtain rfl : v = .non := hv
      exact ⟨rfl, _, rfl, iteT ⟨_, rfl, fun d H2 nd s2 ed => k0 e d H2 (s1.trans s2) ed⟩⟩
    | some sm =>
      rw [e] at hv
      have hv : Td H1 v sm.toD := hv
      obtain ⟨au, xs, l, rfl, _⟩ := stm_inv hv
      have hh : HasAt x p := has_at (q := []) (s := sm) (by simpa using found_iff.mp e)
      refine ⟨rfl, _, rfl, iteF ?_⟩
      refine ⟨_, rfl, a, CP, dx, _, _, rfl, s1 _ _ hA, PC.cl, PC.n3, rfl, _, rfl, _, rfl, .ref tb, u, tp, x, p, t, rfl, hT.mono (TK.same s1), sqT_same' hp s1, hu.mono (TK.same s1), hxl, hxs, hh, by omega, by decide, fun z H2 s2 tz => ?_⟩
      have s12 := s1.trans s2
      obtain ⟨az, zs, rfl, haz, _⟩ := Td.ref_inv tz
      refine ⟨_, rfl, a, CP, dx, _, _, rfl, s12 _ _ hA, PC.cl, PC.n2, rfl, _, rfl, _, rfl, a, CP, dx, _, _, rfl, s12 _ _ hA, PC.cl, PC.n4, rfl, fun o do_ no ndo ne => ?_⟩
      refine pinit_use no ndo (hL.same s12) (hK.same s12) hn hn5 hk5 tz (ox sm e) (fun _ hj H' s' po => k1 sm e hj o H' (s12.trans s') po) (fun z => by rw [hAre] at z; cases z) (fun _ q hq d tq H' s' e1 e2 => k2 sm e q hq d tq H' (s12.trans s') e1 e2)
end
end W1
end
section
set_option linter.all false
set_option maxRecDepth 100000
set_option maxHeartbeats 1000000
/-! Q7: what is drawn, or spoiled, is fit for Program and the law's looks -/
namespace W1
open PySem L2 Cm
mutual
theorem rowsS_len : ∀ (s : Stm) (p : List Int), (rowsS p s).length + 1 = s.size
  | .ask _ _ _ _ x, p => by
    have := rowsL_len x (p ++ [0]) 0
    simp only [rowsS, Stm.size]
    omega
  | .iff _ x y, p => by
    have h1 := rowsL_len x (p ++ [0]) 0
    have h2 := rowsL_len y (p ++ [1]) 0
    simp only [rowsS, Stm.size, List.length_append]
    omega
  | .whl _ x, p => by
    have := rowsL_len x (p ++ [0]) 0
    simp only [rowsS, Stm.size]
    omega
  | .tms _ x, p => by
    have := rowsL_len x (p ++ [0]) 0
    simp only [rowsS, Stm.size]
    omega
  | .move _ _, p => rfl
  | .part _ _, p => rfl
  | .tell _ _, p => rfl
  | .fin, p => rfl
theorem rowsL_len : ∀ (x : List Stm) (p : List Int) (i : Nat), (rowsL p i x).length = sizes x
  | [], p, i => rfl
  | s :: r, p, i => by
    have h1 := rowsS_len s (p ++ [(i : Int)])
    have h2 := rowsL_len r p (i + 1)
    simp only [rowsL, sizes, List.length_cons, List.length_append]
    omega
end
/-- what a row of fine statements is -/
def RowFine (r : List Int × Stm) : Prop := r.2.flatN ∧ ∀ a ∈ r.2.names, okA a
theorem fine_row {s : Stm} (h : s.fine) (p : List Int) : RowFine (p, s) := by
  cases s with
  | ask k a b c x =>
    obtain ⟨⟨h1, h2, h3⟩, _⟩ := h
    refine ⟨trivial, fun z hz => ?_⟩
    simp only [Stm.names, List.mem_cons, List.not_mem_nil, or_false] at hz
    rcases hz with rfl | rfl | rfl <;> assumption
  | move a b =>
    obtain ⟨h1, h2⟩ := h
    refine ⟨trivial, fun z hz => ?_⟩
    simp only [Stm.names, List.mem_cons, List.not_mem_nil, or_false] at hz
    rcases hz with rfl | rfl <;> assumption
  | part a b =>
    obtain ⟨h1, h2⟩ := h
    refine ⟨trivial, fun z hz => ?_⟩
    simp only [Stm.names, List.mem_cons, List.not_mem_nil, or_false] at hz
    rcases hz with rfl | rfl <;> assumption
  | tell a w =>
    refine ⟨trivial, fun z hz => ?_⟩
    simp only [Stm.names, List.mem_cons, List.not_mem_nil, or_false] at hz
    subst hz
    exact h
  | iff a x y =>
    refine ⟨trivial, fun z hz => ?_⟩
    simp only [Stm.names, List.mem_cons, List.not_mem_nil, or_false] at hz
    subst hz
    exact h.1
  | whl a x =>
    refine ⟨trivial, fun z hz => ?_⟩
    simp only [Stm.names, List.mem_cons, List.not_mem_nil, or_false] at hz
    subst hz
    exact h.1
  | tms n x => exact ⟨h.1, fun z hz => by simp [Stm.names] at hz⟩
  | fin => exact ⟨trivial, fun z hz => by simp [Stm.names] at hz⟩
mutual
theorem rowsS_fine : ∀ (s : Stm) (p : List Int), s.fine → ∀ r ∈ rowsS p s, RowFine r
  | .ask _ _ _ _ x, p, h, r, hr => rowsL_fine x (p ++ [0]) 0 h.2 r (by simpa [rowsS] using hr)
  | .iff _ x y, p, h, r, hr => by
    rcases (by simpa [rowsS] using hr : r ∈ rowsL (p ++ [0]) 0 x ∨ r ∈ rowsL (p ++ [1]) 0 y) with hr | hr
    · exact rowsL_fine x (p ++ [0]) 0 h.2.1 r hr
    · exact rowsL_fine y (p ++ [1]) 0 h.2.2 r hr
  | .whl _ x, p, h, r, hr => rowsL_fine x (p ++ [0]) 0 h.2 r (by simpa [rowsS] using hr)
  | .tms _ x, p, h, r, hr => rowsL_fine x (p ++ [0]) 0 h.2 r (by simpa [rowsS] using hr)
  | .move _ _, p, h, r, hr => by simp [rowsS] at hr
  | .part _ _, p, h, r, hr => by simp [rowsS] at hr
  | .tell _ _, p, h, r, hr => by simp [rowsS] at hr
  | .fin, p, h, r, hr => by simp [rowsS] at hr
theorem rowsL_fine : ∀ (x : List Stm) (p : List Int) (i : Nat), fines x → ∀ r ∈ rowsL p i x, RowFine r
  | [], p, i, h, r, hr => by simp [rowsL] at hr
  | s :: l, p, i, h, r, hr => by
    rcases (by simpa [rowsL] using hr : r = (p ++ [(i : Int)], s) ∨ r ∈ rowsS (p ++ [(i : Int)]) s ∨ r ∈ rowsL p (i + 1) l) with hr | hr | hr
    · subst hr
      exact fine_row h.1 _
    · exact rowsS_fine s _ h.1 r hr
    · exact rowsL_fine l p (i + 1) h.2 r hr
end
theorem Good.okx {n : Nat} {names kept : List Str} {x : List Stm} (g : Good n names kept x) (hn : n ≤ 3) : Okx x where
  d := Nat.le_trans g.d (by decide)
  l := by have := g.xl; omega
  s := g.s
  f := fun r hr => (rowsL_fine x [] 0 g.f r hr).1
  n := by rw [rowsL_len]; have := g.z; omega
theorem size_pos : ∀ s : Stm, 1 ≤ s.size := fun s => by cases s <;> simp only [Stm.size] <;> omega
theorem len_sizes : ∀ x : List Stm, x.length ≤ sizes x
  | [] => Nat.zero_le _
  | s :: r => by
    have h1 := size_pos s
    have h2 := len_sizes r
    simp only [sizes, List.length_cons]
    omega
mutual
theorem wf_ok {ls : List Str} (h : ∀ a ∈ ls, okA a) : ∀ (s : Stm) (n : Nat), s.wf ls n → s.size ≤ 500 → s.fine ∧ s.slim ∧ s.depth ≤ n + 1
  | .ask k a b c x, n, w, z => by
    simp only [Stm.size] at z
    have i := wfs_ok h x n w.2.2.2.2 (by omega)
    have l := len_sizes x
    exact ⟨⟨⟨h a w.2.1, h b w.2.2.1, h c w.2.2.2.1⟩, i.1⟩, ⟨by omega, i.2.1⟩, by simp only [Stm.depth]; omega⟩
  | .move a b, n, w, z => ⟨⟨h a w.1, h b w.2⟩, trivial, Nat.zero_le _⟩
  | .part a b, n, w, z => ⟨⟨h a w.1, h b w.2⟩, trivial, Nat.zero_le _⟩
  | .tell a b, n, w, z => ⟨h a w.1, trivial, Nat.zero_le _⟩
  | .iff a x y, n, w, z => by
    simp only [Stm.size] at z
    have i := wfs_ok h x n w.2.1 (by omega)
    have j := wfs_ok h y n w.2.2 (by omega)
    have l := len_sizes x
    have l2 := len_sizes y
    exact ⟨⟨h a w.1, i.1, j.1⟩, ⟨⟨by omega, i.2.1⟩, by omega, j.2.1⟩, by simp only [Stm.depth]; omega⟩
  | .whl a x, n, w, z => by
    simp only [Stm.size] at z
    have i := wfs_ok h x n w.2 (by omega)
    have l := len_sizes x
    exact ⟨⟨h a w.1, i.1⟩, ⟨by omega, i.2.1⟩, by simp only [Stm.depth]; omega⟩
  | .tms a x, n, w, z => by
    simp only [Stm.size] at z
    have i := wfs_ok h x n w.2 (by omega)
    have l := len_sizes x
    obtain ⟨⟨j, e, _⟩, _⟩ := w
    exact ⟨⟨.inl ⟨j, e⟩, i.1⟩, ⟨by omega, i.2.1⟩, by simp only [Stm.depth]; omega⟩
  | .fin, n, w, z => ⟨trivial, trivial, Nat.zero_le _⟩
theorem wfs_ok {ls : List Str} (h : ∀ a ∈ ls, okA a) : ∀ (x : List Stm) (n : Nat), wfs ls n x → sizes x ≤ 500 → fines x ∧ slims x ∧ depths x ≤ n
  | [], n, w, z => ⟨trivial, trivial, Nat.zero_le _⟩
  | s :: r, 0, w, z => w.elim
  | s :: r, n + 1, w, z => by
    simp only [sizes] at z
    have i := wf_ok h s n w.1 (by omega)
    have j := wfs_ok h r (n + 1) w.2 (by omega)
    exact ⟨⟨i.1, j.1⟩, ⟨i.2.1, j.2.1⟩, by simp only [depths]; omega⟩
end
theorem menu_ok : ∀ a ∈ menuN, okA a := fun a h => okA_lit ((by decide +kernel : ∀ a ∈ menuN, (PyData.strOk a && decide (a.length ≤ 9)) = true) a h)
/-- what is drawn is good -/
theorem good_drawn {names kept : List Str} {x : List Stm} (hN : NamesOk names) (hk : kept.Sublist names) (w : wfs names 3 x) (z : sizes x ≤ 10) (l : x.length ≤ 4) : Good 0 names kept x := by
  have hn : names.length ≤ 3 := by rcases hN.2.1 with h | h <;> omega
  have nk : ∀ a ∈ names, okA a := fun a h => menu_ok a (hN.2.2 a h)
  have i := wfs_ok nk x 3 w (by omega)
  exact ⟨by omega, by have := hk.length_le; omega, nk, fun a h => nk a (hk.subset h), by omega, i.2.2, i.2.1, i.1, by omega⟩
end W1
end
section
set_option linter.all false
set_option maxRecDepth 100000
set_option maxHeartbeats 4000000
/-! X9: what is drawn is right; what is put in
-/
namespace W1
open PySem L2 Cm
theorem nodup_count (l : List Str) : decide l.Nodup = l.all fun a => decide (l.count a = 1) := by
  rw [Bool.eq_iff_iff, decide_eq_true_iff, List.all_eq_true]
  constructor
  · intro h a ha
    exact decide_eq_true (List.Nodup.count h |>.trans (if_pos ha))
  · intro h
    refine List.nodup_iff_count.mpr fun a => ?_
    by_cases ha : a ∈ l
    · exact Nat.le_of_eq (of_decide_eq_true (h a ha))
    · rw [List.count_eq_zero_of_not_mem ha]
      exact Nat.zero_le _
theorem all_and {α : Type} (l : List α) (f g : α → Bool) : (l.all fun a => f a && g a) = (l.all f && l.all g) := by
  induction l with
  | nil => rfl
  | cons a r ih =>
    simp only [List.all_cons, ih]
    cases f a <;> cases g a <;> cases r.all f <;> cases r.all g <;> rfl
theorem are_eq (names kept : List Str) : areLists names kept = ((decide (1 ≤ names.length) && decide (names.length ≤ 4)) && (names.all nameB && (decide names.Nodup && (decide kept.Nodup && kept.all fun a => decide (a ∈ names))))) := by
  unfold areLists
  rw [all_and, all_and, nodup_count, nodup_count]
  cases names.all nameB <;> cases (names.all fun a => decide (names.count a = 1)) <;> cases (kept.all fun a => decide (a ∈ names)) <;> cases (kept.all fun a => decide (kept.count a = 1)) <;> simp
theorem KvL.at' {H : Hp} : ∀ {kvs : List (List L2.Key × V)} {rs : List (List Int × Stm)} {i : Nat} {kv : List L2.Key × V}, KvL H kvs rs → kvs[i]? = some kv → ∃ r, rs[i]? = some r ∧ KvR H kv r
  | _, _, 0, kv, .cons h _, e => by
    cases e
    exact ⟨_, rfl, h⟩
  | _, _, i + 1, kv, .cons _ t, e => by
    obtain ⟨r, e2, h⟩ := KvL.at' (i := i) t (by simpa using e)
    exact ⟨r, by simpa using e2, h⟩
  | _, _, _, _, .nil, e => by simp at e
theorem valV_at : ∀ {kvs : List (List L2.Key × V)} {i : Nat} {k : List L2.Key} {v : V}, (kvs.map (·.1)).Nodup → kvs[i]? = some (k, v) → valV kvs k = some v
  | [], i, k, v, _, e => by simp at e
  | (k0, v0) :: r, 0, k, v, _, e => by
    cases e
    exact valV_pos rfl
  | (k0, v0) :: r, i + 1, k, v, n, e => by
    rw [List.map_cons, List.nodup_cons] at n
    have e' : r[i]? = some (k, v) := by simpa using e
    rw [valV_neg fun z => n.1 (List.mem_map.mpr ⟨(k, v), List.mem_of_getElem? e', z.symm⟩)]
    exact valV_at n.2 e'
/-! ### drawn programs -/
theorem menu_name : ∀ a ∈ menuN, nameB a = true := by decide +kernel
mutual
theorem wf_rows {ls : List Str} : ∀ (s : Stm) (n : Nat) (p : List Int), s.wf ls n → ∀ r ∈ rowsS p s, r.1.length ≤ p.length + 2 * n ∧ ∃ k, r.2.wf ls k
  | .ask k a b c x, n, p, w, r, hr => by
    have i := wfs_rows x n (p ++ [0]) 0 w.2.2.2.2 r (by simpa [rowsS] using hr)
    refine ⟨?_, i.2⟩
    have := i.1
    simp only [List.length_append, List.length_cons, List.length_nil] at this
    omega
  | .iff a x y, n, p, w, r, hr => by
    rcases (by simpa [rowsS] using hr : r ∈ rowsL (p ++ [0]) 0 x ∨ r ∈ rowsL (p ++ [1]) 0 y) with hr | hr
    · have i := wfs_rows x n (p ++ [0]) 0 w.2.1 r hr
      refine ⟨?_, i.2⟩
      have := i.1
      simp only [List.length_append, List.length_cons, List.length_nil] at this
      omega
    · have i := wfs_rows y n (p ++ [1]) 0 w.2.2 r hr
      refine ⟨?_, i.2⟩
      have := i.1
      simp only [List.length_append, List.length_cons, List.length_nil] at this
      omega
  | .whl a x, n, p, w, r, hr => by
    have i := wfs_rows x n (p ++ [0]) 0 w.2 r (by simpa [rowsS] using hr)
    refine ⟨?_, i.2⟩
    have := i.1
    simp only [List.length_append, List.length_cons, List.length_nil] at this
    omega
  | .tms a x, n, p, w, r, hr => by
    have i := wfs_rows x n (p ++ [0]) 0 w.2 r (by simpa [rowsS] using hr)
    refine ⟨?_, i.2⟩
    have := i.1
    simp only [List.length_append, List.length_cons, List.length_nil] at this
    omega
  | .move _ _, n, p, w, r, hr => by simp [rowsS] at hr
  | .part _ _, n, p, w, r, hr => by simp [rowsS] at hr
  | .tell _ _, n, p, w, r, hr => by simp [rowsS] at hr
  | .fin, n, p, w, r, hr => by simp [rowsS] at hr
theorem wfs_rows {ls : List Str} : ∀ (x : List Stm) (n : Nat) (p : List Int) (i : Nat), wfs ls n x → ∀ r ∈ rowsL p i x, r.1.length + 1 ≤ p.length + 2 * n ∧ ∃ k, r.2.wf ls k
  | [], n, p, i, w, r, hr => by simp [rowsL] at hr
  | s :: l, 0, p, i, w, r, hr => w.elim
  | s :: l, n + 1, p, i, w, r, hr => by
    rcases (by simpa [rowsL] using hr : r = (p ++ [(i : Int)], s) ∨ r ∈ rowsS (p ++ [(i : Int)]) s ∨ r ∈ rowsL p (i + 1) l) with hr | hr | hr
    · subst hr
      refine ⟨?_, n, w.1⟩
      simp only [List.length_append, List.length_cons, List.length_nil]
      omega
    · have i := wf_rows s n (p ++ [(i : Int)]) w.1 r hr
      refine ⟨?_, i.2⟩
      have := i.1
      simp only [List.length_append, List.length_cons, List.length_nil] at this
      omega
    · exact wfs_rows l (n + 1) p (i + 1) w.2 r hr
end
theorem wf_names {ls : List Str} {s : Stm} {n : Nat} (w : s.wf ls n) : (s.names.all fun a => decide (a ∈ ls)) = true ∧ s.odd = false := by
  cases s with
  | ask k a b c x => exact ⟨by simp [Stm.names, w.2.1, w.2.2.1, w.2.2.2.1], rfl⟩
  | move a b => exact ⟨by simp [Stm.names, w.1, w.2], rfl⟩
  | part a b => exact ⟨by simp [Stm.names, w.1, w.2], rfl⟩
  | tell a b => exact ⟨by simp [Stm.names, w.1], by rcases w.2 with h | h <;> simp [Stm.odd, h]⟩
  | iff a x y => exact ⟨by simp [Stm.names, w.1], rfl⟩
  | whl a x => exact ⟨by simp [Stm.names, w.1], rfl⟩
  | tms a x =>
    obtain ⟨⟨i, rfl, h0, h1⟩, _⟩ := w
    exact ⟨by simp [Stm.names], by simp [Stm.odd, numD, h0, h1]⟩
  | fin => exact ⟨by simp [Stm.names], rfl⟩
theorem drawn_right {ls : List Str} {x : List Stm} (w : wfs ls 3 x) : ∀ r ∈ rowsL [] 0 x, faulty ls r.1 r.2 = false := fun r hr => by
  have i := wfs_rows x 3 [] 0 w r hr
  obtain ⟨k, wk⟩ := i.2
  have h := wf_names wk
  unfold faulty
  rw [h.1, h.2, decide_eq_false (by have := i.1; simp only [List.length_nil] at this; omega)]
  rfl
theorem fault_none {names : List Str} : ∀ {rs : List (List Int × Stm)}, (∀ r ∈ rs, faulty names r.1 r.2 = false) → faultAt names rs = none
  | [], h => rfl
  | r :: l, h => by
    unfold faultAt
    rw [if_neg (by rw [h r List.mem_cons_self]; simp)]
    exact fault_none fun z hz => h z (List.mem_cons_of_mem _ hz)
theorem fault_only {names : List Str} {p : List Int} : ∀ {rs : List (List Int × Stm)}, (∀ r ∈ rs, faulty names r.1 r.2 = true → r.1 = p) → (∃ r ∈ rs, faulty names r.1 r.2 = true) → faultAt names rs = some p
  | [], h, g => by obtain ⟨r, hr, _⟩ := g; cases hr
  | r :: l, h, g => by
    unfold faultAt
    cases c : faulty names r.1 r.2 with
    | true => rw [if_pos rfl, h r List.mem_cons_self c]
    | false =>
      rw [if_neg (by simp)]
      refine fault_only (fun z hz => h z (List.mem_cons_of_mem _ hz)) ?_
      obtain ⟨z, hz, e⟩ := g
      rcases List.mem_cons.mp hz with rfl | hz
      · rw [c] at e; cases e
      · exact ⟨z, hz, e⟩
theorem judged_none {names : List Str} {rs : List (List Int × Stm)} (h : ∀ r ∈ rs, faulty names r.1 r.2 = false) (hl : rs.length ≤ 20) : judged names rs = none := by
  unfold judged
  rw [fault_none h]
  exact if_neg (by omega)
theorem drawn_lists {names kept : List Str} (hN : NamesOk names) (hk : kept.Sublist names) : areLists names kept = true := by
  rw [are_eq]
  have h1 : names.all nameB = true := List.all_eq_true.mpr fun a ha => menu_name a (hN.2.2 a ha)
  have h2 : (kept.all fun a => decide (a ∈ names)) = true := List.all_eq_true.mpr fun a ha => decide_eq_true (hk.subset ha)
  rw [h1, h2, decide_eq_true hN.1, decide_eq_true (hN.1.sublist hk)]
  rcases hN.2.1 with h | h <;> simp [h]
theorem kept_same {names kept : List Str} (nd : names.Nodup) (h : kept.Sublist names) : keptOf names kept = kept := by
  induction h with
  | slnil => rfl
  | @cons kept names a h ih =>
    have nd := List.nodup_cons.mp nd
    unfold keptOf
    rw [List.filter_cons, if_neg (by simpa using fun z => nd.1 (h.subset z))]
    exact ih nd.2
  | @cons_cons kept names a h ih =>
    have nd := List.nodup_cons.mp nd
    have ih := ih nd.2
    unfold keptOf at ih ⊢
    rw [List.filter_cons, if_pos (by simp)]
    congr 1
    refine Eq.trans (List.filter_congr fun z hz => ?_) ih
    have : z ≠ a := fun e => nd.1 (e ▸ hz)
    simp [this]
/-- what the law puts in: a move, an end, a tell of a list that there is not -/
def putOk (names : List Str) : Stm → Prop
  | .move a b => a ∈ names ∧ b ∈ names
  | .fin => True
  | .tell a w => a = "lost" ∧ w = "done"
  | _ => False
theorem putOk_flat {names : List Str} {t : Stm} (h : putOk names t) : t.inner = [] ∧ t.depth = 0 ∧ t.size = 1 := by
  cases t <;> first | exact ⟨rfl, rfl, rfl⟩ | exact h.elim
theorem lost_not : ("lost" : Str) ∉ menuN := by decide +kernel
theorem putOk_fine {names : List Str} {t : Stm} (hn : ∀ a ∈ names, okA a) (h : putOk names t) : t.fine ∧ t.slim ∧ t.lay := by
  have hl : okA "lost" := okA_lit (by decide +kernel)
  cases t with
  | move a b => exact ⟨⟨hn a h.1, hn b h.2⟩, trivial, by
      have h1 : PyData.strOk a = true := (hn a h.1).1
      have h2 : PyData.strOk b = true := (hn b h.2).1
      simp only [Stm.lay, Stm.toD, PyData.canLay0, PyData.canLayAll0, h1, h2]
      decide +kernel⟩
  | fin => exact ⟨trivial, trivial, by unfold Stm.lay; decide +kernel⟩
  | tell a w =>
    obtain ⟨rfl, rfl⟩ := h
    exact ⟨hl, trivial, by unfold Stm.lay; decide +kernel⟩
  | _ => exact h.elim
mutual
theorem wf_lay {ls : List Str} (h : ∀ a ∈ ls, okA a) : ∀ (s : Stm) (n : Nat), s.wf ls n → s.lay
  | .ask k a b c x, n, w => by
    have hk : PyData.strOk (askW k) = true := by rcases askW_in k with e | e | e <;> rw [e] <;> decide +kernel
    have i := wfs_lay h x n w.2.2.2.2
    have h1 : PyData.strOk a = true := (h a w.2.1).1
    have h2 : PyData.strOk b = true := (h b w.2.2.1).1
    have h3 : PyData.strOk c = true := (h c w.2.2.2.1).1
    simp only [Stm.lay, Stm.toD, PyData.canLay0, PyData.canLayAll0, h1, h2, h3, hk, i]
    rfl
  | .move a b, n, w => by
    have h1 : PyData.strOk a = true := (h a w.1).1
    have h2 : PyData.strOk b = true := (h b w.2).1
    simp only [Stm.lay, Stm.toD, PyData.canLay0, PyData.canLayAll0, h1, h2]
    decide +kernel
  | .part a b, n, w => by
    have h1 : PyData.strOk a = true := (h a w.1).1
    have h2 : PyData.strOk b = true := (h b w.2).1
    simp only [Stm.lay, Stm.toD, PyData.canLay0, PyData.canLayAll0, h1, h2]
    decide +kernel
  | .tell a b, n, w => by
    have h1 : PyData.strOk a = true := (h a w.1).1
    have h2 : PyData.strOk b = true := by rcases w.2 with e | e <;> rw [e] <;> decide +kernel
    simp only [Stm.lay, Stm.toD, PyData.canLay0, PyData.canLayAll0, h1, h2]
    decide +kernel
  | .iff a x y, n, w => by
    have i := wfs_lay h x n w.2.1
    have j := wfs_lay h y n w.2.2
    have h1 : PyData.strOk a = true := (h a w.1).1
    simp only [Stm.lay, Stm.toD, PyData.canLay0, PyData.canLayAll0, h1, i, j]
    decide +kernel
  | .whl a x, n, w => by
    have i := wfs_lay h x n w.2
    have h1 : PyData.strOk a = true := (h a w.1).1
    simp only [Stm.lay, Stm.toD, PyData.canLay0, PyData.canLayAll0, h1, i]
    decide +kernel
  | .tms a x, n, w => by
    have i := wfs_lay h x n w.2
    obtain ⟨⟨j, e, _⟩, _⟩ := w
    subst e
    simp only [Stm.lay, Stm.toD, PyData.canLay0, PyData.canLayAll0, i]
    decide +kernel
  | .fin, n, w => by unfold Stm.lay; decide +kernel
theorem wfs_lay {ls : List Str} (h : ∀ a ∈ ls, okA a) : ∀ (x : List Stm) (n : Nat), wfs ls n x → PyData.canLayAll0 (toDs x) = true
  | [], n, w => rfl
  | s :: r, 0, w => w.elim
  | s :: r, n + 1, w => by
    have i : PyData.canLay0 s.toD = true := wf_lay h s n w.1
    have j := wfs_lay h r (n + 1) w.2
    simp only [toDs, PyData.canLayAll0, i, j]
    rfl
end
end W1
end
section
set_option linter.all false
set_option maxRecDepth 100000
set_option maxHeartbeats 4000000
/-! N1: sorted of a tuple of texts -/
namespace Cm
open PySem PySem.Calls PySem.Spec PyProof.Rows
section
variable {prog : Program} {w : World} {A : Around} {E : Value → Shared → Prop} {s : Shared}
theorem collect_tup {l : Addr} {vs : List Value} {o : Obj} {n : Nat} {Q : List Value → Shared → Prop} (ho : s.heap.get? l = some o) (hc : o.cls = .type "tuple") (hd : o.data = .seq vs.toArray n)
    (h : Q vs { s with heap := (s.heap.push (seqObj "list" #[] 0)).update s.heap.objs.size (Obj.mapSeq (· ++ vs.toArray)) }) (hsz : vs.length ≤ sizeLine) : wpAny (model prog w) A (collect (.ref l)) Q E s := by
  unfold collect
  refine wpAny_bind (wpAny_runValue (codeAny_builtin entry_proto_collect' ?_))
  show wpAny _ _ (do again (.builtin "list.__iadd__" ⟨[← newList [], .ref l], []⟩)) _ _ s
  refine wpAny_bind (wpAny_newList (wpAny_pure ⟨Code.quiet_builtin _ (by decide +kernel), codeAny_builtin entry_list_iadd' ?_⟩))
  show wpAny _ _ (Builtin.List.listExtendWith (.ref s.heap.objs.size) (.ref l) (.ref s.heap.objs.size)) _ _ { s with heap := s.heap.push (seqObj "list" #[] 0) }
  unfold Builtin.List.listExtendWith
  have ho' : (s.heap.push (seqObj "list" #[] 0)).get? l = some o := Heap.get?_push_of_some _ ho
  refine wpAny_bind (wpAny_typeOf (T := "tuple") ⟨o, ho', hc⟩ ?_)
  have ht : (Value.type "tuple" == Value.type "tuple") = true := by rfl
  rw [if_pos (by rw [ht]; simp)]
  refine wpAny_bind (listItems_at ho' hd ?_)
  refine wpAny_bind (listItems_at (xs := #[]) (n := 0) (Heap.get?_push_size _ rfl) rfl ?_)
  rw [if_neg (by simp)]
  refine wpAny_bind (listUpdate_at (xs := #[]) (n := 0) (Heap.get?_push_size _ rfl) rfl ?_ (Nat.zero_le _) (by show (#[] ++ vs.toArray).size ≤ sizeLine + 1; simp only [Array.size_append, List.size_toArray, List.length_nil]; omega))
  refine wpAny_pure ?_
  show wpAny (model prog w) A (do
      let o ← load s.heap.objs.size
      match o.data with
      | .seq xs _ => pure xs.toList
      | _ => unsupported "internal:collect") Q E { s with heap := (s.heap.push (seqObj "list" #[] 0)).update s.heap.objs.size (Obj.mapSeq (· ++ vs.toArray)) }
  refine wpAny_bind (wpAny_load (get?_update_seq (Heap.get?_push_size _ rfl) _) ?_)
  show wpAny _ _ (pure ((#[] : Array Value) ++ vs.toArray).toList) Q E _
  rw [show ((#[] : Array Value) ++ vs.toArray).toList = vs by simp]
  exact wpAny_pure h
theorem sorted_strsT {l : Addr} {vs : List Value} {ss : List Str} {o : Obj} {n : Nat} {Q : Value → Shared → Prop} (ho : s.heap.get? l = some o) (hc : o.cls = .type "tuple") (hd : o.data = .seq vs.toArray n) (hS : StrsAre vs ss) (hL : vs.length ≤ sizeLine)
    (h : ∀ (out : Array Value) (ss' : List Str), StrsAre out.toList ss' → ss'.Perm ss → sortedS ss' = true → Q (.ref (s.heap.objs.size + 1)) { s with heap := sortedAll s.heap vs out }) :
    wpAny (model prog w) A (call (.builtin "sorted") [.ref l]) Q E s := by
  refine Calls.call_function_entry kind_sorted plain_sorted entry_sorted (args_sorted1 _) ?_
  unfold Builtin.«sorted»
  refine wpAny_bind (m := checkCount "sorted" 1 1 _) (wpAny_pure ?_)
  refine wpAny_bind (collect_tup ho hc hd ?_ hL)
  refine wpAny_bind (wpAny_newList ?_)
  have hsz : ((s.heap.push (seqObj "list" #[] 0)).update s.heap.objs.size (Obj.mapSeq (· ++ vs.toArray))).objs.size = s.heap.objs.size + 1 := by
    rw [Heap.size_update, size_push']
  have hoL : (((s.heap.push (seqObj "list" #[] 0)).update s.heap.objs.size (Obj.mapSeq (· ++ vs.toArray))).push (seqObj "list" vs.toArray 0)).get? (s.heap.objs.size + 1) = some (seqObj "list" vs.toArray 0) := by
    rw [← hsz]; exact Heap.get?_push_size _ rfl
  show wpAny _ _ _ _ _ { s with heap := ((s.heap.push (seqObj "list" #[] 0)).update s.heap.objs.size (Obj.mapSeq (· ++ vs.toArray))).push (seqObj "list" vs.toArray 0) }
  rw [hsz]
  refine wpAny_bind (wpAny_holding (wpAny_call_entry slot_list_sort ⟨_, hoL, rfl⟩ entry_list_sort (list_sort_treeKAny strKind_oneLt hoL hS.keysOf (fun v₁ v₂ rest e => keyKind_strs (by rw [← e]; exact hS)) hL fun st' a1 a2 => ⟨_, rfl, ?_⟩) (args_list_sort _)))
  obtain ⟨ss', h1, h2, h3⟩ := sorted_out_str hS a1 a2
  exact wpAny_pure ⟨_, rfl, h _ ss' h1 h2 h3⟩
end
open L2
def rSortedST (K : PySem.W.Frag) : List V → Hp → VK → Prop := fun vs H Q => ∃ (a : Addr) (xs : List Str), vs = [V.ref a] ∧ SqT K H a (xs.map V.str) ∧ xs.length ≤ 1000 ∧ ∀ (ys : List Str) (p : Addr), ys.Perm xs → sortedS ys = true → H p = none → Q (.ref p) (upd H p (.lst (ys.map V.str)))
theorem cr_sortedST {X : Cx} {K : PySem.W.Frag} (hK : X.K = K) : CallR X (.builtin "sorted") (rSortedST K) := by
  subst hK
  intro pins s σ H vs us Q I r h
  obtain ⟨a, xs, rfl, hs, h64, q⟩ := h
  obtain ⟨its, rv, ⟨o, ho, hc, n, hd⟩, _⟩ := I.tuple hs
  rw [Vals.ref1 r]
  have hlen0 := rv.length
  rw [List.length_map] at hlen0
  refine sorted_strsT ho hc hd rv.strs (by rw [← hlen0]; exact Nat.le_trans h64 (by rw [sizeLine_eq]; decide)) fun out ys h1 h2 h3 => ?_
  obtain ⟨ep, he'⟩ := PyProof.Rows.sortedAll_at s.heap its out
  have hlen : (ys.map V.str).length ≤ sizeLine := by rw [List.length_map, h2.length_eq]; exact Nat.le_trans h64 (by rw [sizeLine_eq]; decide)
  exact ⟨.ref _, upd H (s.heap.objs.size + 1) (.lst (ys.map V.str)), I.laid (t' := s.toks) (fun _ _ => PyProof.Rows.sortedAll_old) (Nat.le_succ _) ⟨hlen, out.toList, ep, vals_of_strs h1, he'⟩, rfl, q ys _ h2 h3 (I.hok.fresh (Nat.le_succ _))⟩
end Cm
end
section
set_option linter.all false
set_option maxRecDepth 100000
set_option maxHeartbeats 4000000
/-! X10: whether two drawn programs are the same -/
namespace W1
open PySem L2 Cm
/-- what the law draws -/
structure Drw (names kept : List Str) (x : List Stm) : Prop where
  n : NamesOk names
  k : kept.Sublist names
  w : wfs names 3 x
  z : sizes x ≤ 10
  l : x.length ≤ 4
section
variable {names kept : List Str} {x : List Stm}
theorem Drw.good (d : Drw names kept x) : Good 0 names kept x := good_drawn d.n d.k d.w (by have := d.z; omega) d.l
theorem Drw.nk (d : Drw names kept x) : ∀ a ∈ names, okA a := d.good.nk
theorem Drw.ns (d : Drw names kept x) : ∀ a ∈ names, okS a := fun a h => (d.nk a h).1
theorem Drw.ks (d : Drw names kept x) : ∀ a ∈ kept, okS a := fun a h => (d.good.kk a h).1
theorem Drw.lay (d : Drw names kept x) : PyData.canLayAll0 (toDs x) = true := wfs_lay d.nk x 3 d.w
theorem Drw.okx (d : Drw names kept x) : Okx x := Good.okx d.good (by decide)
theorem Drw.are (d : Drw names kept x) : areLists names kept = true := drawn_lists d.n d.k
theorem Drw.jn (d : Drw names kept x) : judged names (rowsL [] 0 x) = none := judged_none (drawn_right d.w) (by rw [rowsL_len]; have := d.z; omega)
theorem Drw.ko (d : Drw names kept x) : keptOf names kept = kept := kept_same d.n.1 d.k
/-- the block with another statement -/
structure PutX (names : List Str) (x : List Stm) (p : List Int) (t : Stm) : Prop where
  okx : Okx (putAt x p t)
  fin : fines (putAt x p t)
  lay : PyData.canLayAll0 (toDs (putAt x p t)) = true
  dep : depths (putAt x p t) ≤ 3
  jud : judged names (rowsL [] 0 (putAt x p t)) = if t.word = "tell" then some p else none
theorem Drw.put (d : Drw names kept x) {p : List Int} {s t : Stm} (hf : foundAt x p = some s) (ht : putOk names t) : PutX names x p t := by
  have hr := found_iff.mp hf
  have hh : HasAt x p := has_at (q := []) (s := s) (by simpa using hr)
  obtain ⟨f1, f2, f3⟩ := putOk_flat ht
  obtain ⟨g1, g2, g3⟩ := putOk_fine d.nk ht
  have fin : fines (putAt x p t) := fines_iff.mpr (put_all cl_fine g1 (fines_iff.mp d.good.f))
  have slm : slims (putAt x p t) := slims_iff.mpr (put_all cl_slim g2 (slims_iff.mp d.good.s))
  have dep : depths (putAt x p t) ≤ 3 := Nat.le_trans (put_depths f2) d.good.d
  have siz : sizes (putAt x p t) ≤ 10 := Nat.le_trans (put_sizes f3 hh) d.z
  have rw_ := put_rows (t := t) (q := []) f1 hh
  have lenp : p.length ≤ 5 := by
    have := (wfs_rows x 3 [] 0 d.w _ hr).1
    simp only [List.length_nil] at this
    omega
  refine ⟨⟨Nat.le_trans dep (by decide), by rw [put_length]; have := d.l; omega, slm, fun r hr => (rowsL_fine _ [] 0 fin r hr).1, by rw [rowsL_len]; omega⟩, fin, lays_iff.mpr (put_all cl_lay g3 (lays_iff.mp d.lay)), dep, ?_⟩
  have old2 : ∀ r ∈ rowsL [] 0 (putAt x p t), r = (p, t) ∨ faulty names r.1 r.2 = false := fun r hr => by
    rcases rw_ r hr with e | ⟨s', hs, e⟩
    · exact .inl (by simpa using e)
    · exact .inr (by rw [e]; exact drawn_right d.w _ hs)
  have len : (rowsL [] 0 (putAt x p t)).length ≤ 20 := by rw [rowsL_len]; omega
  cases t with
  | tell a w =>
    obtain ⟨rfl, rfl⟩ := ht
    refine Eq.trans ?_ (if_pos (by rfl)).symm
    unfold judged
    have hl : ("lost" : Str) ∉ names := fun h => lost_not (d.n.2.2 _ h)
    have bad : faulty names p (.tell "lost" "done") = true := by
      unfold faulty
      simp [Stm.names, hl]
    rw [fault_only (p := p) (fun r hr e => by
      rcases old2 r hr with h | h
      · rw [h]
      · rw [h] at e; cases e) ⟨(p, .tell "lost" "done"), by simpa using put_has (t := Stm.tell "lost" "done") (q := []) hh, bad⟩]
  | move a b =>
    refine Eq.trans ?_ (if_neg (by simp only [Stm.word]; decide +kernel)).symm
    refine judged_none (fun r hr => ?_) len
    rcases old2 r hr with h | h
    · rw [h]
      unfold faulty
      simp [Stm.names, ht.1, ht.2, Stm.odd]
      omega
    · exact h
  | fin =>
    refine Eq.trans ?_ (if_neg (by simp only [Stm.word]; decide +kernel)).symm
    refine judged_none (fun r hr => ?_) len
    rcases old2 r hr with h | h
    · rw [h]
      unfold faulty
      simp [Stm.names, Stm.odd]
      omega
    · exact h
  | _ => exact ht.elim
end
/-! ### == of names -/
theorem eqvAll_strs : ∀ l l' : List Str, PyData.eqvAll (l.map .str) (l'.map .str) = decide (l = l')
  | [], [] => by simp [PyData.eqvAll]
  | [], _ :: _ => by simp [PyData.eqvAll]
  | _ :: _, [] => by simp [PyData.eqvAll]
  | a :: r, b :: r' => by
    have ih := eqvAll_strs r r'
    simp only [List.map_cons, PyData.eqvAll, PyData.eqv, ih]
    by_cases h : a = b <;> simp [h]
theorem eqv_tup_strs (l l' : List Str) : PyData.eqv (.tuple (l.map .str)) (.tuple (l'.map .str)) = decide (l = l') := by
  rw [PyData.eqv]
  exact eqvAll_strs l l'
theorem eqv_lst_strs (l l' : List Str) : PyData.eqv (.list (l.map .str)) (.list (l'.map .str)) = decide (l = l') := by
  rw [PyData.eqv]
  exact eqvAll_strs l l'
/-! ### sorted lists of names -/
def leS (a b : Str) : Prop := ¬ b.cps.toList < a.cps.toList
theorem leS_anti {a b : Str} (h : leS a b) (h' : leS b a) : a = b := by
  have e : a.cps.toList = b.cps.toList := List.le_antisymm h h'
  cases a with
  | mk ca => cases b with
    | mk cb =>
      congr 1
      exact Array.toList_inj.mp e
theorem leS_trans {a b c : Str} (h : leS a b) (h' : leS b c) : leS a c := List.le_trans h h'
theorem rising_pw : ∀ (l : List Str) (p : Str), PyProof.Rows.risingS p l = true → (p :: l).Pairwise leS
  | [], p, _ => by simp
  | x :: r, p, h => by
    simp only [PyProof.Rows.risingS, Bool.and_eq_true, Bool.not_eq_true'] at h
    have ih := rising_pw r x h.2
    have hx : leS p x := fun z => by
      have := h.1
      rw [PyProof.Rows.ltCps_eq, decide_eq_false_iff_not] at this
      exact this z
    refine List.pairwise_cons.mpr ⟨fun y hy => ?_, ih⟩
    rcases List.mem_cons.mp hy with rfl | hy
    · exact hx
    · exact leS_trans hx ((List.pairwise_cons.mp ih).1 y hy)
theorem sorted_pw : ∀ {l : List Str}, PyProof.Rows.sortedS l = true → l.Pairwise leS
  | [], _ => .nil
  | x :: r, h => rising_pw r x h
theorem sorted_uniq {l l' : List Str} (h : PyProof.Rows.sortedS l = true) (h' : PyProof.Rows.sortedS l' = true) (p : l.Perm l') : l = l' :=
  List.Perm.eq_of_pairwise (fun a b _ _ => leS_anti) (sorted_pw h) (sorted_pw h') p
theorem kept_perm {names k k' : List Str} (nd : names.Nodup) (h : k.Sublist names) (h' : k'.Sublist names) (p : k.Perm k') : k = k' := by
  rw [← kept_same nd h, ← kept_same nd h']
  unfold keptOf
  exact List.filter_congr fun z _ => by simp [p.mem_iff]
end W1
end
section
set_option linter.all false
set_option maxRecDepth 100000
set_option maxHeartbeats 8000000
/-! X12a: what stands while the law looks -/
namespace W1
open PySem L2 Cm
section
variable {K : PySem.W.Frag}
theorem PObj.same {CP a : Addr} {H H' : Hp} {names kept : List Str} {x : List Stm} (p : PObj K CP H a names x kept) (s : Same H H') : PObj K CP H' a names x kept := by
  obtain ⟨dx, t, tl, tb, tk, rs, hA, ht, pr, hL, hT, hK⟩ := p.at_
  exact ⟨dx, t, tl, tb, tk, rs, s _ _ hA, s _ _ ht, rows_mono (TK.same s) pr, hL.same s, hT.mono (TK.same s), hK.same s⟩
theorem PObj.keep {CP a p q : Addr} {H H' : Hp} {names kept : List Str} {x : List Stm} (o : PObj K CP H a names x kept) (hH : HS H p q) (k : Keep p q H H') : PObj K CP H' a names x kept := by
  obtain ⟨dx, t, tl, tb, tk, rs, hA, ht, pr, hL, hT, hK⟩ := o.at_
  have tk' := TK.keep hH k
  have hA' : H' a = some (.ins CP dx [("_rows", .ref t), ("_lists", .ref tl), ("_block", .ref tb), ("_kept", .ref tk)]) := by
    obtain ⟨aa, i, ns, h1, h2, _⟩ := hH
    exact k _ _ hA (ne_of hA h1 (by intro z; cases z)) (ne_of hA h2 (by intro z; cases z))
  exact ⟨dx, t, tl, tb, tk, rs, hA', tk' _ _ ht, rows_mono tk' pr, hL.keep hH k, hT.mono tk', hK.keep hH k⟩
/-- what stands while the law looks -/
structure Lst (K : PySem.W.Frag) (CP p q t t' o dd : Addr) (names kept : List Str) (x : List Stm) (names' kept' : List Str) (x' : List Stm) (kvs : List (List L2.Key × V)) (H : Hp) : Prop where
  hs : HS H p q
  P : Prog K H t names x kept
  P' : Prog K H t' names' x' kept'
  O : PObj K CP H o names x kept
  D : H dd = some (.dT kvs)
  kv : KvL H kvs (rowsL [] 0 x)
section
variable {CP p q t t' o dd : Addr} {names kept : List Str} {x : List Stm} {names' kept' : List Str} {x' : List Stm} {kvs : List (List L2.Key × V)} {H H' : Hp}
theorem Lst.same (l : Lst K CP p q t t' o dd names kept x names' kept' x' kvs H) (s : Same H H') : Lst K CP p q t t' o dd names kept x names' kept' x' kvs H' :=
  ⟨l.hs.same s, l.P.same s, l.P'.same s, l.O.same s, s _ _ l.D, l.kv.mono (TK.same s)⟩
theorem Lst.keep (l : Lst K CP p q t t' o dd names kept x names' kept' x' kvs H) (h : HS H' p q) (k : Keep p q H H') : Lst K CP p q t t' o dd names kept x names' kept' x' kvs H' := by
  have hD : H' dd = some (.dT kvs) := by
    obtain ⟨aa, i, ns, h1, h2, _⟩ := l.hs
    exact k _ _ l.D (ne_of l.D h1 (by intro z; cases z)) (ne_of l.D h2 (by intro z; cases z))
  exact ⟨h, l.P.keep l.hs k, l.P'.keep l.hs k, l.O.keep l.hs k, hD, l.kv.mono (TK.keep l.hs k)⟩
end
/-- a path as a value -/
def PthV (H : Hp) (v : V) (p : List Int) : Prop := ∃ tp, v = .ref tp ∧ H tp = some (.tup (p.map V.int))
theorem pths_mono {H H' : Hp} (t : TK H H') {vs : List V} {ps : List (List Int)} (h : Paired (PthV H) vs ps) : Paired (PthV H') vs ps := Paired.mapP h fun _ _ ⟨tp, e, z⟩ => ⟨tp, e, t _ _ z⟩
theorem dp_ints {H : Hp} : ∀ l : List Int, DpAll K H (l.map V.int) (l.map .int)
  | [] => .nil
  | x :: r => .cons (.int x) (dp_ints r)
theorem dp_paths {H : Hp} : ∀ {vs : List V} {rs : List (List Int × Stm)}, Paired (PathV H) vs rs → DpAll K H vs (pathD rs)
  | _, _, .nil => .nil
  | _, _, .cons ⟨tp, e, z⟩ t => by
    subst e
    exact .cons (.tup (.inl (.inl z)) (dp_ints _)) (dp_paths t)
theorem ints_lay (l : List Int) : PyData.canLayAll0 (l.map .int) = true := by
  induction l with
  | nil => rfl
  | cons a r ih => simp only [List.map_cons, PyData.canLayAll0, PyData.canLay0, ih]; rfl
theorem paths_lay (rs : List (List Int × Stm)) : PyData.canLayAll0 (pathD rs) = true := by
  induction rs with
  | nil => rfl
  | cons a r ih =>
    have h := ints_lay a.1
    simp only [pathD, List.map_cons, PyData.canLayAll0, PyData.canLay0, h] at ih ⊢
    exact ih
theorem shaped_paths (rs : List (List Int × Stm)) : SeqAt.shaped (.list (pathD rs)) = true := by
  have h1 := paths_lay rs
  have h2 := paths_depth rs
  unfold SeqAt.shaped
  rw [Bool.and_eq_true, decide_eq_true_iff]
  exact ⟨h1, by simp only [PyData.depth]; omega⟩
theorem shaped_self {d : PyData} (h : SeqAt.shaped d = true) : PyData.eqv d d = true := by
  unfold SeqAt.shaped at h
  rw [Bool.and_eq_true] at h
  exact PySem.SeqAt.eqv_refl d h.1
end
end W1
end
section
set_option linter.all false
set_option maxRecDepth 100000
set_option maxHeartbeats 8000000
/-! X12b: pieces of the law's reading -/
namespace W1
open PySem L2 Cm
mutual
theorem rowsS_all {Pr : Stm → Prop} (h : ∀ s, Pr s → ∀ b ∈ s.inner, ∀ u ∈ b, Pr u) : ∀ (s : Stm) (p : List Int), Pr s → ∀ r ∈ rowsS p s, Pr r.2
  | .ask k a b c x, p, g, r, hr => rowsL_all h x (p ++ [0]) 0 (h _ g x (by simp [Stm.inner])) r (by simpa [rowsS] using hr)
  | .iff a x y, p, g, r, hr => by
    rcases (by simpa [rowsS] using hr : r ∈ rowsL (p ++ [0]) 0 x ∨ r ∈ rowsL (p ++ [1]) 0 y) with hr | hr
    · exact rowsL_all h x (p ++ [0]) 0 (h _ g x (by simp [Stm.inner])) r hr
    · exact rowsL_all h y (p ++ [1]) 0 (h _ g y (by simp [Stm.inner])) r hr
  | .whl a x, p, g, r, hr => rowsL_all h x (p ++ [0]) 0 (h _ g x (by simp [Stm.inner])) r (by simpa [rowsS] using hr)
  | .tms a x, p, g, r, hr => rowsL_all h x (p ++ [0]) 0 (h _ g x (by simp [Stm.inner])) r (by simpa [rowsS] using hr)
  | .move _ _, p, g, r, hr => by simp [rowsS] at hr
  | .part _ _, p, g, r, hr => by simp [rowsS] at hr
  | .tell _ _, p, g, r, hr => by simp [rowsS] at hr
  | .fin, p, g, r, hr => by simp [rowsS] at hr
theorem rowsL_all {Pr : Stm → Prop} (h : ∀ s, Pr s → ∀ b ∈ s.inner, ∀ u ∈ b, Pr u) : ∀ (x : List Stm) (p : List Int) (i : Nat), (∀ u ∈ x, Pr u) → ∀ r ∈ rowsL p i x, Pr r.2
  | [], p, i, g, r, hr => by simp [rowsL] at hr
  | s :: l, p, i, g, r, hr => by
    rcases (by simpa [rowsL] using hr : r = (p ++ [(i : Int)], s) ∨ r ∈ rowsS (p ++ [(i : Int)]) s ∨ r ∈ rowsL p (i + 1) l) with hr | hr | hr
    · subst hr
      exact g s List.mem_cons_self
    · exact rowsS_all h s _ (g s List.mem_cons_self) r hr
    · exact rowsL_all h l p (i + 1) (fun u hu => g u (List.mem_cons_of_mem _ hu)) r hr
end
/-- a statement of a drawn program, as data -/
theorem Drw.at_ {names kept : List Str} {x : List Stm} (d : Drw names kept x) {p : List Int} {s : Stm} (h : foundAt x p = some s) : s.toD.depth < 12 ∧ slimD s.toD := by
  have hr := found_iff.mp h
  have h1 : s.fine := rowsL_all cl_fine.inn x [] 0 (fines_iff.mp d.good.f) _ hr
  have h2 : s.slim := rowsL_all cl_slim.inn x [] 0 (slims_iff.mp d.good.s) _ hr
  have h3 : s.depth ≤ 3 := rowsL_all (Pr := fun s => s.depth ≤ 3) (fun s g b hb u hu => by
    have k1 := inner_depth hb
    have k2 := depths_iff.mp (Nat.le_refl (depths b)) u hu
    omega) x [] 0 (depths_iff.mp d.good.d) _ hr
  have := toD_depth s h1
  exact ⟨by omega, toD_slim s h1 h2⟩
section
variable {K : PySem.W.Frag}
theorem paired_at {α β : Type} {R : α → β → Prop} : ∀ {as : List α} {bs : List β} {j : Nat} {a : α}, Paired R as bs → as[j]? = some a → ∃ b, bs[j]? = some b ∧ R a b
  | _, _, 0, a, .cons h _, e => by
    cases e
    exact ⟨_, rfl, h⟩
  | _, _, j + 1, a, .cons _ t, e => paired_at (j := j) t (by simpa using e)
  | _, _, _, _, .nil, e => by simp at e
theorem paired_app {α β : Type} {R : α → β → Prop} : ∀ {as as' : List α} {bs bs' : List β}, Paired R as bs → Paired R as' bs' → Paired R (as ++ as') (bs ++ bs')
  | _, _, _, _, .nil, h => h
  | _, _, _, _, .cons a t, h => .cons a (paired_app t h)
theorem keys_pths {H : Hp} : ∀ {kvs : List (List L2.Key × V)} {bs : List Addr} {rs : List (List Int × Stm)}, Paired (fun p b => H b = some (.tup (p.1.map kV))) kvs bs → KvL H kvs rs → Paired (PthV H) (bs.map V.ref) (rs.map (·.1))
  | _, _, _, .nil, .nil => .nil
  | _, _, _, .cons h t, .cons g u => by
    have e := g.1
    rw [e, kI_v] at h
    exact .cons ⟨_, rfl, h⟩ (keys_pths t u)
theorem kvl_to {H : Hp} : ∀ {kvs : List (List L2.Key × V)} {rs : List (List Int × Stm)} {i : Nat} {r : List Int × Stm}, KvL H kvs rs → rs[i]? = some r → ∃ kv, kvs[i]? = some kv ∧ KvR H kv r
  | _, _, 0, _, .cons g _, e => by
    cases e
    exact ⟨_, rfl, g⟩
  | _, _, i + 1, _, .cons _ u, e => by
    obtain ⟨kv, e2, g⟩ := kvl_to (i := i) u (by simpa using e)
    exact ⟨kv, by simpa using e2, g⟩
  | _, _, _, _, .nil, e => by simp at e
/-- what the rows' dict has at a path -/
theorem val_found {H : Hp} {kvs : List (List L2.Key × V)} {x : List Stm} {p : List Int} (h : KvL H kvs (rowsL [] 0 x)) : match foundAt x p with
    | none => valV kvs (kI p) = none
    | some s => ∃ v, valV kvs (kI p) = some v ∧ Td H v s.toD := by
  cases e : foundAt x p with
  | none =>
    refine h.fresh fun hm => ?_
    obtain ⟨r, hr, er⟩ := List.mem_map.mp hm
    have : foundAt x p = some r.2 := found_iff.mpr (by rw [← er]; exact hr)
    rw [e] at this
    cases this
  | some s =>
    have hr := found_iff.mp e
    obtain ⟨i, ei⟩ := List.mem_iff_getElem?.mp hr
    obtain ⟨kv, ek, g⟩ := kvl_to h ei
    have gk : kv.1 = kI p := g.1
    refine ⟨kv.2, valV_at (h.nodup (rowsL_nd x [] 0)) (i := i) (by rw [ek, ← gk]), g.2⟩
theorem dget_p {H : Hp} {dd tp : Addr} {kvs : List (List L2.Key × V)} {p : List Int} (hD : H dd = some (.dT kvs)) (ht : H tp = some (.tup (p.map V.int))) {r : Option V} (e : valV kvs (kI p) = r) : DGet H dd (.ref tp) r :=
  .inr ⟨kvs, kI p, tp, .inl hD, rfl, by rw [kI_v]; exact ht, e.symm⟩
theorem dp_wp {H : Hp} {l tp : Addr} {w : Str} {p : List Int} (hl : H l = some (.lst [.str w, .ref tp])) (ht : H tp = some (.tup (p.map V.int))) : Dp K H (.ref l) (.list [.str w, .tuple (p.map .int)]) :=
  .lst (SqL.of hl) (.cons (.str w) (.cons (.tup (.inl (.inl ht)) (dp_ints p)) .nil))
theorem dq_wp {H : Hp} {l tp : Addr} {w : Str} {p : List Int} (hl : H l = some (.lst [.str w, .ref tp])) (ht : H tp = some (.tup (p.map V.int))) : Dq K H (.ref l) (.list [.str w, .tuple (p.map .int)]) :=
  .lst hl (.cons (.str w) (.cons (.tup (.inl (.inl ht)) (dq_ints p)) .nil))
theorem shaped_wp {w : Str} {p : List Int} (hw : okS w) : SeqAt.shaped (.list [.str w, .tuple (p.map .int)]) = true := by
  have h1 := ints_lay p
  have hw : PyData.strOk w = true := hw
  unfold SeqAt.shaped
  rw [Bool.and_eq_true, decide_eq_true_iff]
  refine ⟨by simp only [PyData.canLay0, PyData.canLayAll0, h1, hw]; rfl, ?_⟩
  simp only [PyData.depth, PyData.depthAll, ints_depth]
  omega
theorem ne_wp {H : Hp} {Q : VK} {l l' tq tp : Addr} {w : Str} {p : List Int} (hl : H l = some (.lst [.str w, .ref tq])) (ht : H tq = some (.tup (p.map V.int))) (hl' : H l' = some (.lst [.str w, .ref tp])) (ht' : H tp = some (.tup (p.map V.int))) (hw : okS w) (k : Q (.bl false) H) : rNeD K (.ref l) (.ref l') H Q :=
  ⟨_, _, dp_wp hl ht, dp_wp hl' ht', shaped_wp hw, shaped_wp hw, by rw [shaped_self (shaped_wp hw)]; exact k⟩
/-- the statement that goes in -/
theorem newer_use {p q t : Addr} {names kept : List Str} {x : List Stm} {σ : L2.St} {H : Hp} {Q : VK} (h1 : σ[1]? = some (some (.ref p))) (h3 : σ[3]? = some (some (.ref t))) (hP : Prog K H t names x kept) (hs : HS H p q) (d : Drw names kept x)
    (k : ∀ v tn H', HS H' p q → Keep p q H H' → Td H' v tn.toD → putOk names tn → tn.word ≠ "tell" → Q v H') :
    tOp (rIxL K) (tLst (tCons (tTup (tCons (tC (.str "move")) (tCons (tOp (rIxT K) (tOp (rIxT K) (tVar 3) (tC (.int 0))) (tC (.int 0))) (tCons (tOp (rIxT K) (tOp (rIxT K) (tVar 3) (tC (.int 0))) (tUn (rU fun i => .int (-i)) (tC (.int 1)))) tNil)))) (tCons (tTup (tCons (tC (.str "end")) tNil)) tNil)))
      (tCall spNext [] E0 (tCons (tVar 1) (tCons (tC (.int 2)) tNil))) σ H Q := by
  obtain ⟨tl, tb, tk, ht, hL, hT, hK⟩ := hP.at_
  have hS : SqT K H t [.ref tl, .ref tb, .ref tk] := .inl (.inl ht)
  obtain ⟨n0, nl, e0, el, m0, ml⟩ : ∃ n0 nl, atI (names.map V.str) 0 = some (.str n0) ∧ atI (names.map V.str) (-1) = some (.str nl) ∧ n0 ∈ names ∧ nl ∈ names := by
    rcases d.n.2.1 with h | h
    · match names, h with
      | [a, b], _ => exact ⟨a, b, rfl, rfl, by simp, by simp⟩
    · match names, h with
      | [a, b, c], _ => exact ⟨a, c, rfl, rfl, by simp, by simp⟩
  refine ⟨_, h3, t, _, 0, _, rfl, rfl, hS, rfl, tl, _, 0, _, rfl, rfl, hL.sq, e0, _, h3, t, _, 0, _, rfl, rfl, hS, rfl, 1, rfl, tl, _, -1, _, rfl, rfl, hL.sq, el, small_le (by simp), fun a1 n1 => ?_⟩
  have s1 := same_upd (o := .tup [.str "move", .str n0, .str nl]) n1
  have e1 : upd H a1 (.tup [.str "move", .str n0, .str nl]) a1 = some (.tup [.str "move", .str n0, .str nl]) := upd_same
  generalize upd H a1 (.tup [.str "move", .str n0, .str nl]) = H1 at s1 e1
  refine ⟨small_le (by simp), fun a2 n2 => ?_⟩
  have s2 := same_upd (o := .tup [.str "end"]) n2
  have e2 : upd H1 a2 (.tup [.str "end"]) a2 = some (.tup [.str "end"]) := upd_same
  have e1 := s2 _ _ e1
  generalize upd H1 a2 (.tup [.str "end"]) = H2 at s2 e1 e2
  have s12 := s1.trans s2
  refine ⟨small_le (by simp), fun a3 n3 => ?_⟩
  have s3 := same_upd (o := .lst [.ref a1, .ref a2]) n3
  have e3 : upd H2 a3 (.lst [.ref a1, .ref a2]) a3 = some (.lst [.ref a1, .ref a2]) := upd_same
  have hs2 := hs.same s12
  have np := hs2.np n3
  have e1 := s3 _ _ e1
  have e2 := s3 _ _ e2
  have hs3 := hs2.same s3
  generalize upd H2 a3 (.lst [.ref a1, .ref a2]) = H3 at s3 e1 e2 e3 hs3
  have s13 := s12.trans s3
  refine ⟨_, h1, p, q, 2, rfl, by decide, by decide, hs3, fun v H4 v0 v1 hs4 k4 => ?_⟩
  have tk4 := TK.keep hs3 k4
  have e3 := k4 _ _ e3 np.1 np.2
  have keep : Keep p q H H4 := fun b o e h1 h2 => k4 b o (s13 b o e) h1 h2
  have hv : v = 0 ∨ v = 1 := by omega
  rcases hv with rfl | rfl
  · exact ⟨a3, _, 0, .ref a1, rfl, rfl, SqL.of e3, rfl, k _ (.move n0 nl) H4 hs4 keep (.tup (tk4 _ _ e1) (.cons (.str _) (.cons (.str _) (.cons (.str _) .nil)))) ⟨m0, ml⟩ (by simp only [Stm.word]; decide +kernel)⟩
  · exact ⟨a3, _, 1, .ref a2, rfl, rfl, SqL.of e3, rfl, k _ .fin H4 hs4 keep (.tup (tk4 _ _ e2) (.cons (.str _) .nil)) trivial (by simp only [Stm.word]; decide +kernel)⟩
end
end W1
end
section
set_option linter.all false
set_option maxRecDepth 100000
set_option maxHeartbeats 4000000
/-! Z1: a block with keyed asks at some paths -/
namespace W1
open PySem L2 Cm
mutual
def keyS (ps : List (List Int)) (q : List Int) : Stm → Stm
  | .ask k a b c x => .ask (if q ∈ ps then 1 else k) a b c (keyL ps (q ++ [0]) 0 x)
  | .iff a x y => .iff a (keyL ps (q ++ [0]) 0 x) (keyL ps (q ++ [1]) 0 y)
  | .whl a x => .whl a (keyL ps (q ++ [0]) 0 x)
  | .tms n x => .tms n (keyL ps (q ++ [0]) 0 x)
  | .move a b => .move a b
  | .part a b => .part a b
  | .tell a b => .tell a b
  | .fin => .fin
def keyL (ps : List (List Int)) (q : List Int) (i : Nat) : List Stm → List Stm
  | [] => []
  | s :: r => keyS ps (q ++ [(i : Int)]) s :: keyL ps q (i + 1) r
end
mutual
theorem keyS_nil : ∀ (s : Stm) (q : List Int), keyS [] q s = s
  | .ask k a b c x, q => by simp [keyS, keyL_nil x]
  | .iff a x y, q => by simp [keyS, keyL_nil x, keyL_nil y]
  | .whl a x, q => by simp [keyS, keyL_nil x]
  | .tms n x, q => by simp [keyS, keyL_nil x]
  | .move a b, q => rfl
  | .part a b, q => rfl
  | .tell a b, q => rfl
  | .fin, q => rfl
theorem keyL_nil : ∀ (x : List Stm) (q : List Int) (i : Nat), keyL [] q i x = x
  | [], q, i => rfl
  | s :: r, q, i => by simp [keyL, keyS_nil s, keyL_nil r]
end
theorem keyL_at (ps : List (List Int)) (q : List Int) : ∀ (x : List Stm) (i j : Nat), (keyL ps q i x)[j]? = (x[j]?).map (keyS ps (q ++ [((i + j : Nat) : Int)]))
  | [], i, j => by simp [keyL]
  | s :: r, i, 0 => by simp [keyL]
  | s :: r, i, j + 1 => by
    have := keyL_at ps q r (i + 1) j
    simp only [keyL, List.getElem?_cons_succ, this]
    rw [show i + 1 + j = i + (j + 1) by omega]
theorem keyL_length (ps : List (List Int)) (q : List Int) : ∀ (x : List Stm) (i : Nat), (keyL ps q i x).length = x.length
  | [], i => rfl
  | s :: r, i => by simp [keyL, keyL_length ps q r]
mutual
theorem keyS_size (ps : List (List Int)) : ∀ (s : Stm) (q : List Int), (keyS ps q s).size = s.size
  | .ask k a b c x, q => by simp [keyS, Stm.size, keyL_sizes ps x]
  | .iff a x y, q => by simp [keyS, Stm.size, keyL_sizes ps x, keyL_sizes ps y]
  | .whl a x, q => by simp [keyS, Stm.size, keyL_sizes ps x]
  | .tms n x, q => by simp [keyS, Stm.size, keyL_sizes ps x]
  | .move a b, q => rfl
  | .part a b, q => rfl
  | .tell a b, q => rfl
  | .fin, q => rfl
theorem keyL_sizes (ps : List (List Int)) : ∀ (x : List Stm) (q : List Int) (i : Nat), sizes (keyL ps q i x) = sizes x
  | [], q, i => rfl
  | s :: r, q, i => by simp [keyL, sizes, keyS_size ps s, keyL_sizes ps r]
end
mutual
theorem keyS_wf {ls : List Str} (ps : List (List Int)) : ∀ (s : Stm) (q : List Int) (n : Nat), s.wf ls n → (keyS ps q s).wf ls n
  | .ask k a b c x, q, n, w => ⟨by split; omega; exact w.1, w.2.1, w.2.2.1, w.2.2.2.1, keyL_wfs ps x _ _ n w.2.2.2.2⟩
  | .iff a x y, q, n, w => ⟨w.1, keyL_wfs ps x _ _ n w.2.1, keyL_wfs ps y _ _ n w.2.2⟩
  | .whl a x, q, n, w => ⟨w.1, keyL_wfs ps x _ _ n w.2⟩
  | .tms a x, q, n, w => ⟨w.1, keyL_wfs ps x _ _ n w.2⟩
  | .move a b, q, n, w => w
  | .part a b, q, n, w => w
  | .tell a b, q, n, w => w
  | .fin, q, n, w => w
theorem keyL_wfs {ls : List Str} (ps : List (List Int)) : ∀ (x : List Stm) (q : List Int) (i n : Nat), wfs ls n x → wfs ls n (keyL ps q i x)
  | [], q, i, n, w => by simp [keyL, wfs]
  | s :: r, q, i, 0, w => w.elim
  | s :: r, q, i, n + 1, w => ⟨keyS_wf ps s _ n w.1, keyL_wfs ps r q (i + 1) (n + 1) w.2⟩
end
/-- what is keyed is drawn as well -/
theorem Drw.key {names kept : List Str} {x : List Stm} (d : Drw names kept x) (ps : List (List Int)) : Drw names kept (keyL ps [] 0 x) :=
  ⟨d.n, d.k, keyL_wfs ps x [] 0 3 d.w, by rw [keyL_sizes]; exact d.z, by rw [keyL_length]; exact d.l⟩
mutual
theorem keyS_rows (ps : List (List Int)) : ∀ (s : Stm) (q : List Int), rowsS q (keyS ps q s) = (rowsS q s).map fun r => (r.1, keyS ps r.1 r.2)
  | .ask k a b c x, q => by simp [keyS, rowsS, keyL_rows ps x]
  | .iff a x y, q => by simp [keyS, rowsS, keyL_rows ps x, keyL_rows ps y]
  | .whl a x, q => by simp [keyS, rowsS, keyL_rows ps x]
  | .tms n x, q => by simp [keyS, rowsS, keyL_rows ps x]
  | .move a b, q => rfl
  | .part a b, q => rfl
  | .tell a b, q => rfl
  | .fin, q => rfl
theorem keyL_rows (ps : List (List Int)) : ∀ (x : List Stm) (q : List Int) (i : Nat), rowsL q i (keyL ps q i x) = (rowsL q i x).map fun r => (r.1, keyS ps r.1 r.2)
  | [], q, i => rfl
  | s :: r, q, i => by simp [keyL, rowsL, keyS_rows ps s, keyL_rows ps r]
end
theorem key_found {ps : List (List Int)} {x : List Stm} {p : List Int} {s : Stm} (h : foundAt x p = some s) : foundAt (keyL ps [] 0 x) p = some (keyS ps p s) := by
  refine found_iff.mpr ?_
  rw [keyL_rows]
  exact List.mem_map.mpr ⟨_, found_iff.mp h, rfl⟩
mutual
theorem keyS_off (ps : List (List Int)) (P : List Int) : ∀ (s : Stm) (q : List Int), q ≠ P → (∀ r ∈ rowsS q s, r.1 ≠ P) → keyS (ps ++ [P]) q s = keyS ps q s
  | .ask k a b c x, q, n, h => by
    have hx := keyL_off ps P x (q ++ [0]) 0 fun r hr => h r (by simpa [rowsS] using hr)
    simp [keyS, hx, n]
  | .iff a x y, q, n, h => by
    have hx := keyL_off ps P x (q ++ [0]) 0 fun r hr => h r (by simp [rowsS, hr])
    have hy := keyL_off ps P y (q ++ [1]) 0 fun r hr => h r (by simp [rowsS, hr])
    simp [keyS, hx, hy]
  | .whl a x, q, n, h => by
    have hx := keyL_off ps P x (q ++ [0]) 0 fun r hr => h r (by simpa [rowsS] using hr)
    simp [keyS, hx]
  | .tms m x, q, n, h => by
    have hx := keyL_off ps P x (q ++ [0]) 0 fun r hr => h r (by simpa [rowsS] using hr)
    simp [keyS, hx]
  | .move a b, q, _, _ => rfl
  | .part a b, q, _, _ => rfl
  | .tell a b, q, _, _ => rfl
  | .fin, q, _, _ => rfl
theorem keyL_off (ps : List (List Int)) (P : List Int) : ∀ (x : List Stm) (q : List Int) (i : Nat), (∀ r ∈ rowsL q i x, r.1 ≠ P) → keyL (ps ++ [P]) q i x = keyL ps q i x
  | [], q, i, h => rfl
  | s :: r, q, i, h => by
    have h1 := keyS_off ps P s (q ++ [(i : Int)]) (h (q ++ [(i : Int)], s) (by simp [rowsL])) fun z hz => h z (by simp [rowsL, hz])
    have h2 := keyL_off ps P r q (i + 1) fun z hz => h z (by simp [rowsL, hz])
    simp [keyL, h1, h2]
end
/-- the statement at the path -/
def AtS : List Stm → List Int → Stm → Prop
  | x, k :: n :: r, s => ∃ (j : Nat) (s0 : Stm) (m : Nat) (b : List Stm), k = j ∧ n = m ∧ x[j]? = some s0 ∧ s0.inner[m]? = some b ∧ AtS b r s
  | x, [k], s => ∃ j : Nat, k = j ∧ x[j]? = some s
  | _, [], _ => False
theorem at_s : ∀ {p : List Int} {x : List Stm} {q : List Int} {s : Stm}, (q ++ p, s) ∈ rowsL q 0 x → AtS x p s
  | [], x, q, s, h => by
    obtain ⟨j, w, e, _⟩ := rowsL_form x q 0 _ h
    simp at e
  | [k], x, q, s, h => by
    obtain ⟨j, u, e, hz⟩ := mem_rowsL.mp h
    rcases hz with hz | hz
    · have e4 := List.append_cancel_left (Prod.mk.inj hz).1
      simp only [Nat.zero_add, List.cons.injEq, and_true] at e4
      have e5 := (Prod.mk.inj hz).2
      subst e5
      exact ⟨j, e4, e⟩
    · obtain ⟨b', j', w', e'⟩ := rowsS_form u _ _ hz
      have e2 : q ++ [k] = q ++ (((0 + j : Nat) : Int) :: b' :: (j' : Int) :: w') := by simpa using e'
      have e4 := List.append_cancel_left e2
      simp at e4
  | k :: n :: r, x, q, s, h => by
    obtain ⟨j, u, e, hz⟩ := mem_rowsL.mp h
    rcases hz with hz | hz
    · have e4 := List.append_cancel_left (Prod.mk.inj hz).1
      simp at e4
    · rw [rowsS_inner] at hz
      obtain ⟨m, b, eb, hz⟩ := mem_rowsI.mp hz
      obtain ⟨j', w', e', _⟩ := rowsL_form b _ 0 _ hz
      have e2 : q ++ (k :: n :: r) = q ++ ((j : Int) :: (m : Int) :: (j' : Int) :: w') := by simpa using e'
      have e4 := List.append_cancel_left e2
      simp only [List.cons.injEq] at e4
      obtain ⟨rfl, rfl, rfl⟩ := e4
      refine ⟨j, u, m, b, rfl, rfl, e, eb, at_s (q := q ++ [(j : Int), (m : Int)]) (s := s) ?_⟩
      simpa using hz
theorem key_inner (ps : List (List Int)) (q : List Int) {s : Stm} {m : Nat} {b : List Stm} (h : s.inner[m]? = some b) : (keyS ps q s).inner[m]? = some (keyL ps (q ++ [(m : Int)]) 0 b) := by
  cases s <;> simp only [Stm.inner] at h
  case iff a u v =>
    match m, h with
    | 0, h => cases h; rfl
    | 1, h => cases h; rfl
    | m + 2, h => simp at h
  all_goals first | (match m, h with | 0, h => (cases h; rfl) | m + 1, h => simp at h) | simp at h
/-- a row below q ++ [c] is not the one at P, if P is no longer or goes another way -/
theorem off_L {x : List Stm} {q : List Int} {i : Nat} {P : List Int} (h : ∀ (j : Nat) (w : List Int), i ≤ j → q ++ (j : Int) :: w ≠ P) : ∀ r ∈ rowsL q i x, r.1 ≠ P := fun r hr e => by
  obtain ⟨j, w, e', hj⟩ := rowsL_form x q i r hr
  exact h j w hj (by rw [← e', e])
theorem off_S {s : Stm} {q : List Int} {P : List Int} (h : ∀ w : List Int, q ++ w ≠ P) : ∀ r ∈ rowsS q s, r.1 ≠ P := fun r hr e => by
  obtain ⟨b, j, w, e'⟩ := rowsS_form s q r hr
  exact h _ (by rw [← e', e])
theorem key_stm (ps : List (List Int)) {Q P r : List Int} {s : Stm} {m : Nat} {b : List Stm} (h : s.inner[m]? = some b) (hP : P = Q ++ (m : Int) :: r) : keyS (ps ++ [P]) Q s = (keyS ps Q s).put m (keyL (ps ++ [P]) (Q ++ [(m : Int)]) 0 b) := by
  have nQ : Q ≠ P := fun e => by
    rw [hP] at e
    have := congrArg List.length e
    simp at this
  have other : ∀ (m' : Nat) (y : List Stm), m' ≠ m → keyL (ps ++ [P]) (Q ++ [(m' : Int)]) 0 y = keyL ps (Q ++ [(m' : Int)]) 0 y := fun m' y hm => keyL_off ps P y _ 0 (off_L fun j w _ e => by
    rw [hP] at e
    have e2 : Q ++ ((m' : Int) :: (j : Int) :: w) = Q ++ (m : Int) :: r := by simpa using e
    have e4 := List.append_cancel_left e2
    simp only [List.cons.injEq] at e4
    exact hm (by omega))
  cases s <;> simp only [Stm.inner] at h
  case iff a u v =>
    match m, h with
    | 0, h =>
      cases h
      have := other 1 v (by decide)
      simp only [keyS, Stm.put]
      rw [show ((1 : Int)) = ((1 : Nat) : Int) from rfl, this]
      rfl
    | 1, h =>
      cases h
      have := other 0 u (by decide)
      simp only [keyS, Stm.put]
      rw [show ((0 : Int)) = ((0 : Nat) : Int) from rfl, this]
      rfl
    | m + 2, h => simp at h
  case ask k a' b' c' x =>
    match m, h with
    | 0, h =>
      cases h
      simp only [keyS, Stm.put, List.mem_append, List.mem_singleton, nQ, or_false]
      rfl
    | m + 1, h => simp at h
  all_goals first | (match m, h with | 0, h => (cases h; rfl) | m + 1, h => simp at h) | simp at h
theorem key_put {ps : List (List Int)} {a b c : Str} {y : List Stm} : ∀ {p : List Int} {x : List Stm} {q : List Int}, AtS x p (.ask 0 a b c y) → putAt (keyL ps q 0 x) p (.ask 1 a b c (keyL ps (q ++ p ++ [0]) 0 y)) = keyL (ps ++ [q ++ p]) q 0 x
  | [], x, q, h => h.elim
  | [k], x, q, ⟨j, ek, ex⟩ => by
    subst ek
    simp only [putAt, Int.toNat_natCast]
    have hj := (List.getElem?_eq_some_iff.mp ex).1
    refine List.ext_getElem? fun l => ?_
    rw [List.getElem?_set, keyL_length, keyL_at, keyL_at]
    by_cases e : j = l
    · subst e
      rw [if_pos rfl, if_pos hj, ex, Nat.zero_add]
      simp only [Option.map_some, keyS]
      rw [keyL_off ps (q ++ [(j : Int)]) y _ 0 (off_L fun j' w _ e => by
        have := congrArg List.length e
        simp at this)]
      simp
    · rw [if_neg e, Nat.zero_add]
      cases ex' : x[l]? with
      | none => rfl
      | some s' =>
        simp only [Option.map_some]
        congr 1
        have hne : ∀ w : List Int, q ++ [(l : Int)] ++ w ≠ q ++ [(j : Int)] := fun w h => by
          have e2 : q ++ ((l : Int) :: w) = q ++ [(j : Int)] := by simpa using h
          have e4 := List.append_cancel_left e2
          simp only [List.cons.injEq] at e4
          omega
        exact (keyS_off ps _ s' _ (by simpa using hne []) (off_S hne)).symm
  | k :: n :: r, x, q, ⟨j, s0, m, b', ek, en, ex, eb, hh⟩ => by
    subst ek en
    have hj := (List.getElem?_eq_some_iff.mp ex).1
    have e0 : (keyL ps q 0 x)[j]? = some (keyS ps (q ++ [(j : Int)]) s0) := by rw [keyL_at, ex, Nat.zero_add]; rfl
    have ei := key_inner ps (q ++ [(j : Int)]) eb
    have ih := key_put (ps := ps) (a := a) (b := b) (c := c) (y := y) (q := q ++ [(j : Int)] ++ [(m : Int)]) hh
    have eP : q ++ [(j : Int)] ++ [(m : Int)] ++ r = q ++ (j : Int) :: (m : Int) :: r := by simp
    rw [eP] at ih
    simp only [putAt, Int.toNat_natCast, e0, ei]
    rw [ih]
    refine List.ext_getElem? fun l => ?_
    rw [List.getElem?_set, keyL_length, keyL_at, keyL_at]
    by_cases e : j = l
    · subst e
      rw [if_pos rfl, if_pos hj, ex, Nat.zero_add]
      simp only [Option.map_some]
      rw [key_stm ps (Q := q ++ [(j : Int)]) (P := q ++ (j : Int) :: (m : Int) :: r) (r := r) eb (by simp)]
    · rw [if_neg e, Nat.zero_add]
      cases ex' : x[l]? with
      | none => rfl
      | some s' =>
        simp only [Option.map_some]
        congr 1
        have hne : ∀ w : List Int, q ++ [(l : Int)] ++ w ≠ q ++ (j : Int) :: (m : Int) :: r := fun w h => by
          have e2 : q ++ ((l : Int) :: w) = q ++ ((j : Int) :: (m : Int) :: r) := by simpa using h
          have e4 := List.append_cancel_left e2
          simp only [List.cons.injEq] at e4
          omega
        exact (keyS_off ps _ s' _ (by simpa using hne []) (off_S hne)).symm
end W1
end
section
set_option linter.all false
set_option maxRecDepth 100000
set_option maxHeartbeats 4000000
/-! N2: list.count, flat items -/
namespace Cm
open PySem PySem.Spec PyProof.Rows L2
def rCntL (K : PySem.W.Frag) : V → List V → Hp → VK → Prop := fun x xs H Q => ∃ (p : Addr) (ys : List V) (y : V), x = .ref p ∧ xs = [y] ∧ SqL K H p ys ∧ flatV y = true ∧ ys.all flatV = true ∧ Q (.int ((ys.countP fun z => eqV z y : Nat) : Int)) H
theorem mt_lcountF {X : Cx} {K : PySem.W.Frag} (hK : X.K = K) : MtR X "list.count" (rCntL K) := by
  subst hK
  rintro pins s σ H x xs v us Q I rx rxs ⟨p, ys, y, rfl, rfl, hs, fy, fys, q⟩
  cases (show v = Value.ref p from rx)
  cases rxs with | cons ru rt => ?_
  cases rt
  rename_i u
  obtain ⟨its, rv, ⟨⟨cls, dd, data, sl⟩, n, ho, hc, hdn, hd⟩, hlen⟩ := I.list hs
  simp only at hc hd
  subst hc hd
  refine call_meets PySem.F.slot_list_count ⟨_, ho, rfl⟩ PySem.F.entry_list_count (PySem.F.args_list_count_2 (.ref p) u) (SeqAt.list_countAt p its.toArray n dd sl u (eqU y)) ⟨ho, fun z hz => mem_eqAt ru fy rv fys z (by simpa using hz), ?_⟩
  refine ⟨.int ((ys.countP fun z => eqV z y : Nat) : Int), H, Inv.tok I (s.toks + 1), ⟨s.toks, ?_⟩, q⟩
  show Value.int ((its.toArray.toList.countP (eqU y) : Nat) : Int) s.toks = _
  rw [show its.toArray.toList = its from rfl, countP_eqU rv fys]
end Cm
end
section
set_option linter.all false
set_option maxRecDepth 100000
set_option maxHeartbeats 4000000
/-! Z2: is_send, mended -/
namespace W1
open PySem L2 Cm
def isSend (x : List Stm) (p : List Int) : Bool := match foundAt x p with
  | some s => decide (s.word = "send")
  | none => false
theorem word_send {s : Stm} (h : s.word = "send") : ∃ a b c y, s = .ask 0 a b c y := by
  cases s with
  | ask k a b c y =>
    match k, h with
    | 0, _ => exact ⟨a, b, c, y, rfl⟩
    | 1, h => exact absurd h (by simp only [Stm.word, askW]; decide +kernel)
    | k + 2, h => exact absurd h (by simp only [Stm.word, askW]; decide +kernel)
  | _ =>
    simp only [Stm.word] at h
    exact absurd h (by decide +kernel)
def spSend (K : PySem.W.Frag) (CP : Addr) : Sp := fun vs H Q _ => ∃ (a tp : Addr) (names kept : List Str) (x : List Stm) (p : List Int), vs = [.ref a, .ref tp] ∧ PObj K CP H a names x kept ∧ SqT K H tp (p.map V.int) ∧ x.length ≤ 500 ∧ slims x ∧ p.length ≤ 9 ∧ ∀ H', Same H H' → Q (.bl (isSend x p)) H'
/-- what mended needs of Program's class -/
structure Lm (K : PySem.W.Frag) (mg : Str → Option Value) (CP fI fG fS p1 p2 p3 g1 g2 g3 : Addr) (fdI fdG fdS gd1 gd2 gd3 : FuncData) : Prop where
  gP : mg "Program" = some (.ref CP)
  mkP : Mk K CP fI
  bI : Binds K fdI ["self", "lists", "block", "kept"] []
  ig : PySem.W.findIn K (.ref CP) "__getitem__" = some (some (.ref fG))
  ifn : PySem.W.isFn K (.ref fG) = true
  ifi : PySem.W.fnIn K fG = true
  bG : Binds K fdG ["self", "path"] []
  ms : Meth K CP "with_statement" fS
  bS : Binds K fdS ["self", "path", "statement"] []
  q1 : PropOf K CP "lists" p1 g1
  q2 : PropOf K CP "block" p2 g2
  q3 : PropOf K CP "kept" p3 g3
  b1 : Binds K gd1 ["self"] []
  b2 : Binds K gd2 ["self"] []
  b3 : Binds K gd3 ["self"] []
  F1 : Fun K "lists" "Program.lists" s_Program_lists g1 gd1
  F2 : Fun K "block" "Program.block" s_Program_block g2 gd2
  F3 : Fun K "kept" "Program.kept" s_Program_kept g3 gd3
def listsOk (names ls : List Str) : Bool := ls.all fun a => decide (a ∈ names) && decide (ls.count a = 1)
def spMend (K : PySem.W.Frag) (CP CN CL : Addr) : Sp := fun vs H Q E => ∃ (a lp ln : Addr) (names kept : List Str) (x : List Stm) (vps : List V) (ps : List (List Int)) (ls : List Str), vs = [.ref a, .ref lp, .ref ln] ∧ PObj K CP H a names x kept ∧ Drw names kept x ∧
  H lp = some (.lst vps) ∧ Paired (PthV H) vps ps ∧ H ln = some (.lst (ls.map V.str)) ∧ (∀ p ∈ ps, p.length ≤ 9) ∧ ls.length ≤ 400 ∧
  (∀ (j : Nat) (p : List Int) (v : V), (∀ (i : Nat) (p' : List Int), i < j → ps[i]? = some p' → isSend x p' = true) → ps[j]? = some p → vps[j]? = some v → isSend x p = false → ∀ d H', Same H H' → H' d = some (.xd [("path", v)]) → E (.ref CN) (some d) H') ∧
  ((∀ p ∈ ps, isSend x p = true) → listsOk names ls = false → ∀ H', Same H H' → E (.ref CL) none H') ∧
  ((∀ p ∈ ps, isSend x p = true) → listsOk names ls = true → ps.Nodup ∧ ∀ b H', Same H H' → PObj K CP H' b names (keyL ps [] 0 x) (keptOf names (kept ++ ls.filter fun a => !decide (a ∈ kept))) → Q (.ref b) H')
section
variable {P : Program} {w : World} {K : PySem.W.Frag} {mg : Str → Option Value} {base : Heap}
theorem ok_send {CP : Addr} {fI fG fS p1 p2 p3 g1 g2 g3 : Addr} {fdI fdG fdS gd1 gd2 gd3 : FuncData} {f fF fN fB : Addr} {fd fdF fdN fdB : FuncData} (F : Fun K "is_send" "is_send" s_is_send f fd) (T : Bi mg) (G : Tabs K w mg) (PC : PCls K CP) (Y : Lm K mg CP fI fG fS p1 p2 p3 g1 g2 g3 fdI fdG fdS gd1 gd2 gd3)
    (N : Dn K mg "is_number" s_is_number ["value", "most"] fN fdN) (B : Dn K mg "blocks_of" s_blocks_of ["statement"] fB fdB) (Fo : Dn K mg "found_at" s_found_at ["block", "path"] fF fdF) : FnOk P w K mg base CX0 3 f fd ["program", "path"] (spSend K CP) := by
  have GF : FnOk P w K mg base CX0 2 fF fdF ["block", "path"] (spFound K) := ok_found Fo.F T G N B
  have G2 : FnOk P w K mg base CX0 1 g2 gd2 ["self"] (getSp CP "_block") := ok_pget Y.F2 sc_Program_block rfl PC.cl PC.n3
  have nd := sc_is_send.nd
  refine F.ok sc_is_send (fun vs H Q E h => ?_) (fun cdv A outer s H vs Q E hr h => ?_)
  · obtain ⟨a, tp, names, kept, x, p, rfl, _⟩ := h
    rfl
  · obtain ⟨a, tp, names, kept, x, p, rfl, hP, hp, hxl, hxs, hp9, k⟩ := h
    refine ⟨_, pss_cons (ps_set (i := 2) nd rfl (Or.inl rfl) (pe_call GF hr (by rfl) Fo.g Fo.F.kp Fo.b .nil pass0 (pa_cons (pe_prop (pv 0) PC.cl Y.q2 G2 hr Y.b2 .nil pass0 (by rfl)) (pa_cons (pv 1) pa_nil))))
      (pss_one (ps_ret (pe_and (pe_cmpR op_notN (pv 2) pe_non (nomark _)) (pe_one (pe_cmpR op_eq (pe_ix (r := rIxT K) ix_tup (pv 2) pe_int (fun _ _ => rfl)) pe_str (nomark _)))))), ?_⟩
    obtain ⟨dx, t, tl, tb, tk, rs, hA, ht, pr, hL, hT, hK⟩ := hP.at_
    refine ⟨_, rfl, a, dx, _, rfl, hA, ⟨a, dx, _, _, rfl, hA, rfl, _, rfl, .ref tb, tp, x, p, rfl, hT, hp, hxl, hxs, hp9, fun u H1 s1 hu => ?_⟩⟩
    have k := k H1 s1
    unfold isSend at k
    cases e : foundAt x p with
    | none =>
      rw [e] at hu k
      obtain rfl : u = .non := hu
      exact ⟨_, rfl, rfl, _, rfl, iteF k⟩
    | some sm =>
      rw [e] at hu k
      have hu : Td H1 u sm.toD := hu
      obtain ⟨au, xs, l, rfl, hau, _⟩ := stm_inv hu
      refine ⟨_, rfl, rfl, _, rfl, iteT ⟨_, rfl, au, _, 0, _, rfl, rfl, .inl (.inl hau), at0, rfl, ?_⟩⟩
      have : decide (V.str sm.word = V.str "send") = decide (sm.word = "send") := by
        by_cases z : sm.word = "send"
        · rw [decide_eq_true z, decide_eq_true (by rw [z])]
        · rw [decide_eq_false z, decide_eq_false (fun e => z (by injection e))]
      rw [this]
      exact k
end
end W1
end
section
set_option linter.all false
set_option maxRecDepth 100000
set_option maxHeartbeats 8000000
/-! Z3: mended -/
namespace Cm
open PySem L2
theorem cr_allK {X : Cx} {K : PySem.W.Frag} (hK : X.K = K) (hc : X.calm = true) : CallR X (.builtin "all") (rAll K) := by
  subst hK
  exact cr_all hc
end Cm
namespace W1
open PySem L2 Cm
theorem lists_plus {names kept ls : List Str} {x : List Stm} (d : Drw names kept x) (h : listsOk names ls = true) : areLists names (kept ++ ls.filter fun a => !decide (a ∈ kept)) = true := by
  unfold listsOk at h
  rw [all_and, ← nodup_count, Bool.and_eq_true, decide_eq_true_iff, List.all_eq_true] at h
  rw [are_eq]
  have h1 : names.all nameB = true := List.all_eq_true.mpr fun a ha => menu_name a (d.n.2.2 a ha)
  have h2 : ((kept ++ ls.filter fun a => !decide (a ∈ kept)).all fun a => decide (a ∈ names)) = true := List.all_eq_true.mpr fun a ha => by
    rcases List.mem_append.mp ha with ha | ha
    · exact decide_eq_true (d.k.subset ha)
    · exact h.1 a (List.mem_filter.mp ha).1
  have h3 : (kept ++ ls.filter fun a => !decide (a ∈ kept)).Nodup := by
    refine List.nodup_append.mpr ⟨d.n.1.sublist d.k, h.2.filter _, fun a ha b hb e => ?_⟩
    subst e
    have := (List.mem_filter.mp hb).2
    simp [ha] at this
  rw [h1, h2, decide_eq_true d.n.1, decide_eq_true h3]
  rcases d.n.2.1 with h | h <;> simp [h]
section
variable {P : Program} {w : World} {K : PySem.W.Frag} {mg : Str → Option Value} {base : Heap}
theorem ok_mended {CP CN CL CB : Addr} {fI fG fS p1 p2 p3 g1 g2 g3 : Addr} {fdI fdG fdS gd1 gd2 gd3 : FuncData} {f fZ : Addr} {fd fdZ : FuncData} (F : Fun K "mended" "mended" s_mended f fd) (T : Bi mg) (hall : mg "all" = none) (PC : PCls K CP) (XL : Xc K mg "InvalidLists" CL) (Y : Lm K mg CP fI fG fS p1 p2 p3 g1 g2 g3 fdI fdG fdS gd1 gd2 gd3)
    (Sd : Dn K mg "is_send" s_is_send ["program", "path"] fZ fdZ) (GSd : FnOk P w K mg base CX0 3 fZ fdZ ["program", "path"] (spSend K CP)) (RN : RaisesNS P w K mg base 3 CN)
    (GG : FnOk P w K mg base (L2.CX P w) 4 fG fdG ["self", "path"] (spGet K CP CN)) (GWS : Em.FnOk2 P w K mg base 16 fS fdS ["self", "path", "statement"] (spWS K CP CN CL CB)) (GI : Em.FnOk2 P w K mg base 14 fI fdI ["self", "lists", "block", "kept"] (spPInit K CP CL CB)) :
    Em.FnOk2 P w K mg base 17 f fd ["program", "paths", "lists"] (spMend K CP CN CL) := by
  have G1 : FnOk P w K mg base CX0 1 g1 gd1 ["self"] (getSp CP "_lists") := ok_pget Y.F1 sc_Program_lists rfl PC.cl PC.n2
  have G2 : FnOk P w K mg base CX0 1 g2 gd2 ["self"] (getSp CP "_block") := ok_pget Y.F2 sc_Program_block rfl PC.cl PC.n3
  have G3 : FnOk P w K mg base CX0 1 g3 gd3 ["self"] (getSp CP "_kept") := ok_pget Y.F3 sc_Program_kept rfl PC.cl PC.n4
  have nd := sc_mended.nd
  refine fun2 F sc_mended (fun vs H Q E h => ?_) (fun cdv A outer s H vs Q E Po hr h => ?_)
  · obtain ⟨a, lp, ln, names, kept, x, vps, ps, ls, rfl, _⟩ := h
    rfl
  · obtain ⟨a, lp, ln, names, kept, x, vps, ps, ls, rfl, hO, d, hlp, hps, hln, hp9, hll, kN, kL, kQ⟩ := h
    have hr2 : Room 2 (A.deeper (PyProof.Rows.envOfC "mended" (defScope s_mended) s.heap.objs.size f cdv)) := hr.mono (by decide)
    have hr3 : Room 3 (A.deeper (PyProof.Rows.envOfC "mended" (defScope s_mended) s.heap.objs.size f cdv)) := hr.mono (by decide)
    have hr5 : Room 5 (A.deeper (PyProof.Rows.envOfC "mended" (defScope s_mended) s.heap.objs.size f cdv)) := hr.mono (by decide)
    have hr15 : Room 15 (A.deeper (PyProof.Rows.envOfC "mended" (defScope s_mended) s.heap.objs.size f cdv)) := hr.mono (by decide)
    refine ⟨_, Em.pss2_cons (Em.ps2_for (wi := iList K _) ⟨rfl, rfl⟩ rfl (fun _ => pi_list (pv 1)) (fun _ => pg_name (i := 3) nd rfl (Or.inl rfl)) (fun Z hZ =>
          Em.pss2_one (Em.ps2_if (fun _ => pt_not (pt_val (pe_call GSd hr3 (by rfl) Sd.g Sd.F.kp Sd.b .nil pass0 (pa_cons (pv 0) (pa_cons (pv 3) pa_nil))))) (Em.pss2_one (Em.ps2_raise fun pn xe tk => RN _ _ _ _ _ _ _ rfl rfl rfl rfl rfl rfl hr3 (by rfl) tk (pv 3) rfl)) Em.pss2_nil)))
      (Em.pss2_cons (Em.ps2_if (fun _ => pt_not (pt_val (pe_callB (cr_allK (K := K) rfl rfl) (by rfl) hall (by decide +kernel) (pa_cons (pe_lc (wi := iList K _) (own := [("name", 6)]) (g := gName 6) (tt := tYes) (by rfl) nd (pi_list (pv 2))
            (blkOk_by (own := [("name", 6)]) (N := ["program", "paths", "lists", "path", "changed", "kept", "name"]) (sc := defScope s_mended) (by decide +kernel)) (fun _ _ _ _ _ => pg_name (i := 6) nd rfl (Or.inl rfl))
            (fun _ _ _ _ _ => pts_nil) (fun _ _ _ _ _ => pe_and (pe_cmpR (r := rIn K false) op_in_seq (pv 6) (pe_prop (pv 0) PC.cl Y.q1 G1 hr2 Y.b1 .nil pass0 (by rfl)) (by rfl)) (pe_one (pe_cmpR op_eq
              (pe_bmK (K := K) (r := rCntL K) rfl PySem.F.plainAttrs_list PySem.F.slot_list_count PySem.F.type_list_count (mt_lcountF rfl) (pv 2) (pa_cons (pv 6) pa_nil)) pe_int (nomark _))))) pa_nil))))
          (Em.pss2_one (Em.ps2_raise fun pn xe tk => ps_raise rfl tk (pmk_own PySem.F.excBase_ValueError XL.x XL.g XL.k (raises_own XL.b XL.t) (by rfl)))) Em.pss2_nil)
      (Em.pss2_cons (Em.ps2_of fun _ => ps_set (i := 4) nd rfl (Or.inl rfl) (pv 0))
      (Em.pss2_cons (Em.ps2_for (wi := iList K _) ⟨rfl, rfl⟩ rfl (fun _ => pi_list (pv 1)) (fun _ => pg_name (i := 3) nd rfl (Or.inl rfl)) (fun Z hZ =>
          Em.pss2_one (Em.ps2_set (i := 4) nd rfl (Or.inl rfl) (Em.pe2_meth (E := fun _ cls d H => E cls d H) (Em.pe2_of fun _ => pv 4) PC.cl Y.ms GWS hr Y.bS .nil ⟨rfl, rfl⟩ (fun _ _ _ _ h => h) (Em.pa2_cons (Em.pe2_of fun _ => pv 3)
            (Em.pa2_cons (Em.pe2_raise fun pn xe tk => pe_op (r := rCatA K) op_catA (pe_tup (pa_cons pe_str pa_nil)) (pe_slice (r := rSlA K) sl_tupA (pe_itIns (E := fun _ cls d H => E cls d H) GG Y.ig Y.ifn Y.ifi Y.bG hr5 (fun σ => passAt tk σ) (pv 4) (pv 3)) (po_some pe_int) po_none)) Em.pa2_nil))))))
      (Em.pss2_cons (Em.ps2_of fun _ => ps_set (i := 5) nd rfl (Or.inl rfl) (pe_op (r := rCatF K) op_catF (pe_prop (pv 0) PC.cl Y.q3 G3 hr2 Y.b3 .nil pass0 (by rfl)) (pe_callTy (call_tupFK (K := K) rfl) (by rfl) T.tuple (by decide +kernel) (pa_cons (pe_lc (wi := iList K _) (own := [("name", 6)]) (g := gName 6) (by rfl) nd (pi_list (pv 2))
            (blkOk_by (own := [("name", 6)]) (N := ["program", "paths", "lists", "path", "changed", "kept", "name"]) (sc := defScope s_mended) (by decide +kernel)) (fun _ _ _ _ _ => pg_name (i := 6) nd rfl (Or.inl rfl))
            (fun _ _ _ _ _ => pts_one (pt_cmpR (r := rIn K true) op_notIn_seq (pv 6) (pe_prop (pv 0) PC.cl Y.q3 G3 hr2 Y.b3 .nil pass0 (by rfl)) (by rfl))) (fun _ _ _ _ _ => pv 6)) pa_nil))))
      (Em.pss2_one (Em.ps2_ret (Em.pe2_make Y.mkP GI hr15 (by rfl) Y.gP Y.bI .nil ⟨rfl, rfl⟩ (fun _ _ _ _ h => h) (Em.pa2_cons (Em.pe2_of fun _ => pe_prop (pv 0) PC.cl Y.q1 G1 hr2 Y.b1 .nil pass0 (by rfl)) (Em.pa2_cons (Em.pe2_of fun _ => pe_prop (pv 4) PC.cl Y.q2 G2 hr2 Y.b2 .nil pass0 (by rfl)) (Em.pa2_cons (Em.pe2_of fun _ => pv 5) Em.pa2_nil)))))))))), ?_⟩
    obtain ⟨dx, t, tl, tb, tk, rs, hA, ht, pr, hL, hT, hK⟩ := hO.at_
    have okx := d.okx
    have lv : vps.length = ps.length := Paired.length hps
    have nm : ∀ a ∈ names, a.length ≤ 1000 := fun a ha => by have := (d.nk a ha).2; omega
    have nl : names.length ≤ 500 := by have := d.good.nl; omega
    have kl : kept.length ≤ 500 := by have := d.good.kl; omega
    refine ⟨_, rfl, lp, rfl, ⟨_, SqL.of hlp⟩, ?_⟩
    -- the first walk: all are sends
    refine for_list (K := K) (a := lp) (xs := vps) (fun j σ Hc => ∃ w3, σ = [some (.ref a), some (.ref lp), some (.ref ln), w3, none, none, none] ∧ Same H Hc ∧ ∀ i p', i < j → ps[i]? = some p' → isSend x p' = true)
      ⟨none, rfl, fun _ _ e => e, fun i p' h => by omega⟩ (fun j σ Hc _ ⟨_, _, s, _⟩ => SqL.of (s _ _ hlp)) ?_ ?_
    · rintro j v σ Hc hv ⟨w3, rfl, sc, hb⟩
      obtain ⟨pp, epp, tp, rfl, htp⟩ := paired_at hps hv
      refine ⟨_, rfl, _, rfl, a, tp, names, kept, x, pp, rfl, hO.same sc, .inl (.inl (sc _ _ htp)), okx.l, okx.s, hp9 pp (List.mem_of_getElem? epp), fun H1 s1 => ⟨_, rfl, ?_⟩⟩
      refine ite2 (fun c => ?_) (fun c => ?_)
      · have c' : isSend x pp = false := by simpa using c
        exact ⟨_, rfl, fun dd H2 nd2 s2 ed => kN j pp (.ref tp) hb epp hv c' dd H2 ((sc.trans s1).trans s2) ed⟩
      · have c' : isSend x pp = true := by simpa using c
        refine ⟨_, rfl, sc.trans s1, fun i p' hi hp' => ?_⟩
        by_cases e : i = j
        · subst e
          rw [epp] at hp'
          cases hp'
          exact c'
        · exact hb i p' (by omega) hp'
    rintro σ H1 ⟨w3, rfl, s1, hb⟩
    have hall' : ∀ p ∈ ps, isSend x p = true := fun p hp => by
      obtain ⟨i, ei⟩ := List.mem_iff_getElem?.mp hp
      exact hb i p (by have := (List.getElem?_eq_some_iff.mp ei).1; omega) ei
    have kL := kL hall'
    have kQ := kQ hall'
    clear hb kN
    -- the lists
    refine ⟨_, rfl, ln, rfl, ⟨_, SqL.of (s1 _ _ hln)⟩, fun D nD => ?_⟩
    refine lc_list (K := K) (a := ln) (xs := ls.map V.str) (fun i H' => Same H1 H' ∧ H' D = some (.lst (((ls.take i).map fun a => decide (a ∈ names) && decide (ls.count a = 1)).map V.bl))) ⟨same_upd nD, upd_same⟩ (fun i H' _ p => SqL.of (p.1 _ _ (s1 _ _ hln))) ?_ ?_
    · rintro i v H' hv ⟨sH, hD⟩
      rw [List.getElem?_map] at hv
      cases en : ls[i]? with
      | none => rw [en] at hv; cases hv
      | some z =>
        rw [en] at hv
        cases hv
        have hA' := sH _ _ (s1 _ _ hA)
        have hL' := (hL.same s1).same sH
        refine ⟨rfl, _, rfl, _, rfl, a, dx, _, rfl, hA', ⟨a, dx, _, _, rfl, hA', rfl, tl, _, rfl, .inr hL'.sq, rfl, flat_strs, _, rfl, ?_⟩⟩
        show if inV (.str z) (names.map V.str) = true then _ else _
        rw [inV_str]
        refine ite2 (fun c => ?_) (fun c => ?_)
        · refine ⟨_, rfl, .inl ⟨rfl, _, SqL.of (sH _ _ (s1 _ _ hln))⟩, _, rfl, ln, _, _, rfl, rfl, SqL.of (sH _ _ (s1 _ _ hln)), rfl, flat_strs, rfl, ?_⟩
          rw [count_str, int_one]
          exact put_bl nD sH hD en (by omega) (by rw [c, Bool.true_and])
        · have c : decide (z ∈ names) = false := by simpa using c
          exact put_bl nD sH hD en (by omega) (by rw [c, Bool.false_and])
    rintro H2 ⟨s2, hD2⟩
    rw [List.length_map, List.take_length] at hD2
    refine ⟨D, _, rfl, SqL.of hD2, ?_⟩
    have e1 : (ls.map fun a => decide (a ∈ names) && decide (ls.count a = 1)).all id = listsOk names ls := by
      rw [List.all_map]
      rfl
    rw [e1]
    refine ⟨_, rfl, ?_⟩
    have s12 := s1.trans s2
    refine ite2 (fun c => kL (by simpa using c) H2 s12) (fun c => ?_)
    have hok : listsOk names ls = true := by simpa using c
    obtain ⟨hnd, kQ⟩ := kQ hok
    clear kL c e1 hD2 nD D s2
    -- the second walk: keyed one by one
    refine ⟨_, rfl, _, rfl, lp, rfl, ⟨_, SqL.of (s12 _ _ hlp)⟩, ?_⟩
    refine for_list (K := K) (a := lp) (xs := vps) (fun j σ Hc => ∃ w3 c, σ = [some (.ref a), some (.ref lp), some (.ref ln), w3, some (.ref c), none, none] ∧ Same H Hc ∧ PObj K CP Hc c names (keyL (ps.take j) [] 0 x) kept)
      ⟨w3, a, rfl, s12, by rw [List.take_zero, keyL_nil]; exact hO.same s12⟩ (fun j σ Hc _ ⟨_, _, _, s, _⟩ => SqL.of (s _ _ hlp)) ?_ ?_
    · rintro j v σ Hc hv ⟨w3, c, rfl, sc, hc⟩
      obtain ⟨pp, epp, tp, rfl, htp⟩ := paired_at hps hv
      have p9 := hp9 pp (List.mem_of_getElem? epp)
      have hs := hall' pp (List.mem_of_getElem? epp)
      obtain ⟨sm, ef, ew⟩ : ∃ sm, foundAt x pp = some sm ∧ sm.word = "send" := by
        unfold isSend at hs
        cases e : foundAt x pp with
        | none => rw [e] at hs; cases hs
        | some sm => rw [e] at hs; exact ⟨sm, rfl, of_decide_eq_true hs⟩
      obtain ⟨z1, z2, z3, y, rfl⟩ := word_send ew
      have hnot : pp ∉ ps.take j := fun h => by
        obtain ⟨i, hi, ei⟩ := List.mem_take_iff_getElem.mp h
        have h1 : ps[i]? = some pp := by rw [List.getElem?_eq_getElem (by omega), ei]
        have := (List.getElem?_inj (by omega) hnd).mp (h1.trans epp.symm)
        omega
      have ef2 : foundAt (keyL (ps.take j) [] 0 x) pp = some (.ask 0 z1 z2 z3 (keyL (ps.take j) (pp ++ [0]) 0 y)) := by
        rw [key_found ef]
        simp [keyS, hnot]
      have d1 := d.key (ps.take j)
      have d2 := d.key (ps.take (j + 1))
      have hat : AtS x pp (.ask 0 z1 z2 z3 y) := at_s (q := []) (by simpa using found_iff.mp ef)
      have eput : putAt (keyL (ps.take j) [] 0 x) pp (.ask 1 z1 z2 z3 (keyL (ps.take j) (pp ++ [0]) 0 y)) = keyL (ps.take (j + 1)) [] 0 x := by
        have := key_put (ps := ps.take j) (q := []) hat
        rw [List.nil_append] at this
        rw [this]
        congr 1
        exact (take_at epp).symm
      obtain ⟨_, _, _, _, _, _, hAc, _⟩ := hc.at_
      have tpc := sc _ _ htp
      refine ⟨_, rfl, c, _, _, rfl, hAc, rfl, _, rfl, small_le (by simp), fun k1 nk1 => ?_⟩
      have s3 := same_upd (o := .tup [.str "keyed"]) nk1
      have ek1 : upd Hc k1 (.tup [.str "keyed"]) k1 = some (.tup [.str "keyed"]) := upd_same
      generalize upd Hc k1 (.tup [.str "keyed"]) = H3 at s3 ek1
      have hc3 := hc.same s3
      obtain ⟨_, _, _, _, _, _, hAc3, _⟩ := hc3.at_
      refine ⟨_, rfl, _, rfl, c, _, _, rfl, hAc3, c, tp, names, kept, _, pp, rfl, hc3, .inl (.inl (s3 _ _ tpc)), d1.okx.l, d1.okx.s, p9, fun t1 ht1 v H4 s4 tv => ?_, (fun z => by rw [ef2] at z; cases z)⟩
      rw [ef2] at ht1
      cases ht1
      refine ⟨_, rfl, ?_⟩
      unfold tNoPart
      dsimp only
      have tv : Td H4 v (.tuple [.str (askW 0), .str z1, .str z2, .str z3, .tuple (toDs (keyL (ps.take j) (pp ++ [0]) 0 y))]) := tv
      refine (dropA_td (m := 1) tv (by simp) fun w1 H5 s5 t5 => ?_)
      have s45 := s4.trans s5
      refine catA_td (ds := [.str "keyed"]) (.tup (s45 _ _ ek1) (.cons (.str _) .nil)) t5 (by simp) fun w2 H6 s6 t6 => ?_
      have s36 := s45.trans s6
      have s06 := (sc.trans s3).trans s36
      have t6 : Td H6 w2 (Stm.ask 1 z1 z2 z3 (keyL (ps.take j) (pp ++ [0]) 0 y)).toD := t6
      refine ⟨c, tp, w2, names, kept, _, pp, _, rfl, hc3.same s36, .inl (.inl (s06 _ _ htp)), t6, d1.okx.l, d1.okx.s, p9, nm, nl, kl, d.are, fun s' es => by rw [eput]; exact d2.okx, (fun z => by rw [ef2] at z; cases z), fun s' es hj b H' ss po => ?_, fun s' es q' hq => by rw [eput, d2.jn] at hq; cases hq⟩
      rw [eput, d.ko] at po
      exact ⟨_, b, rfl, s06.trans ss, po⟩
    · rintro σ H3 ⟨w3, c, rfl, s3, hc⟩
      rw [lv, List.take_length] at hc
      have hA3 := s3 _ _ hA
      have hK3 := hK.same s3
      -- the kept ones
      refine ⟨_, rfl, a, dx, _, rfl, hA3, ⟨a, dx, _, _, rfl, hA3, rfl, ?_⟩⟩
      refine ⟨_, rfl, ln, rfl, ⟨_, SqL.of (s3 _ _ hln)⟩, fun D nD => ?_⟩
      refine lc_list (K := K) (a := ln) (xs := ls.map V.str) (fun i H' => H' = upd H3 D (.lst (((ls.take i).filter fun a => !decide (a ∈ kept)).map V.str))) rfl (fun i H' _ e => by rw [e]; exact SqL.of (same_upd nD _ _ (s3 _ _ hln))) ?_ ?_
      · rintro i v H' hv rfl
        rw [List.getElem?_map] at hv
        cases en : ls[i]? with
        | none => rw [en] at hv; cases hv
        | some z =>
          rw [en] at hv
          cases hv
          have sD := same_upd (o := .lst (((ls.take i).filter fun a => !decide (a ∈ kept)).map V.str)) nD
          refine ⟨rfl, _, rfl, _, rfl, a, dx, _, rfl, sD _ _ hA3, ⟨a, dx, _, _, rfl, sD _ _ hA3, rfl, tk, _, rfl, .inr (hK3.same sD).sq, rfl, flat_strs, _, rfl, ?_⟩⟩
          show if (!inV (.str z) (kept.map V.str)) = true then _ else _
          rw [inV_str]
          refine ite2 (fun c => ⟨_, rfl, _, upd_same, ?_, ?_⟩) (fun c => ?_)
          · rw [List.length_map]
            refine small1000 ?_
            have h1 : ((ls.take i).filter fun a => !decide (a ∈ kept)).length ≤ (ls.take i).length := List.length_filter_le ..
            have h2 : (ls.take i).length ≤ ls.length := by rw [List.length_take]; omega
            omega
          · rw [upd_upd, filter_at en, if_pos c, List.map_append]
            rfl
          · rw [filter_at en, if_neg c, List.append_nil]
      · rintro H' rfl
        rw [List.length_map, List.take_length]
        have s4 := same_upd (o := .lst ((ls.filter fun a => !decide (a ∈ kept)).map V.str)) nD
        refine ⟨D, _, rfl, SqL.of upd_same, fun k2 ob nk od => ?_⟩
        have s5 := same_upd (o := .frz ob (.tup ((ls.filter fun a => !decide (a ∈ kept)).map V.str))) nk
        have s45 := s4.trans s5
        have fl : (ls.filter fun a => !decide (a ∈ kept)).length ≤ ls.length := List.length_filter_le ..
        have kl6 := d.good.kl
        refine catF_tx (hK3.same s45) (.inl (.inr ⟨_, upd_same⟩)) (fun _ => .inl ⟨_, upd_same, od⟩) (by rw [List.length_map, List.length_map]; omega) fun wk H7 s7 hwk => ?_
        rw [← List.map_append] at hwk
        have s37 := s45.trans s7
        have s07 := s3.trans s37
        have hc7 := hc.same s37
        have hA7 := s07 _ _ hA
        obtain ⟨dxc, tc, olc, obc, okc, rsc, hAc, _, _, _, oTc, _⟩ := hc7.at_
        have dk := d.key ps
        refine ⟨_, rfl, a, dx, _, rfl, hA7, ⟨a, dx, _, _, rfl, hA7, rfl, _, rfl, c, dxc, _, rfl, hAc, ⟨c, dxc, _, _, rfl, hAc, rfl, _, rfl, fun o dxo no ndx ne => ?_⟩⟩⟩
        refine pinit_use no ndx (hL.same s07) hwk nm nl (by rw [List.length_append]; omega) oTc dk.okx (fun _ _ H8 s8 po => kQ o H8 (s07.trans s8) po) (fun z => by rw [lists_plus d hok] at z; cases z) (fun _ q' hq => by rw [dk.jn] at hq; cases hq)
end
end W1
end
section
set_option linter.all false
set_option maxRecDepth 100000
set_option maxHeartbeats 8000000
/-! Z4: _law_keyed -/
namespace W1
open PySem L2 Cm
def keyI (ps : List (List Int)) (q : List Int) : Nat → List (List Stm) → List (List Stm)
  | _, [] => []
  | n, b :: r => keyL ps (q ++ [(n : Int)]) 0 b :: keyI ps q (n + 1) r
theorem keyI_at (ps : List (List Int)) (q : List Int) : ∀ (bs : List (List Stm)) (n j : Nat), (keyI ps q n bs)[j]? = (bs[j]?).map (keyL ps (q ++ [((n + j : Nat) : Int)]) 0)
  | [], n, j => by simp [keyI]
  | b :: r, n, 0 => by simp [keyI]
  | b :: r, n, j + 1 => by
    have := keyI_at ps q r (n + 1) j
    simp only [keyI, List.getElem?_cons_succ, this]
    rw [show n + 1 + j = n + (j + 1) by omega]
theorem keyI_length (ps : List (List Int)) (q : List Int) : ∀ (bs : List (List Stm)) (n : Nat), (keyI ps q n bs).length = bs.length
  | [], n => rfl
  | b :: r, n => by simp [keyI, keyI_length ps q r]
theorem key_toD (ps : List (List Int)) (q : List Int) (s : Stm) (h : q ∈ ps → s.word = "send") : ∃ ds, s.toD = .tuple ds ∧ ds.length ≤ 5 ∧ s.inner.length < ds.length ∧ ds[0]? = some (.str s.word) ∧
    (keyS ps q s).toD = .tuple (([.str (if q ∈ ps then "keyed" else s.word)] ++ (ds.take (ds.length - s.inner.length)).drop 1) ++ blksD (keyI ps q 0 s.inner)) := by
  cases s with
  | ask k a b c x =>
    refine ⟨_, rfl, by simp, by simp [Stm.inner], rfl, ?_⟩
    by_cases hq : q ∈ ps
    · simp only [keyS, hq, if_true, Stm.toD, Stm.inner, keyI, blksD, List.length_cons, List.length_nil, List.map_cons, List.map_nil]
      rfl
    · simp only [keyS, hq, if_false, Stm.toD, Stm.inner, keyI, blksD, List.length_cons, List.length_nil, List.map_cons, List.map_nil, Stm.word]
      rfl
  | iff a x y =>
    have hq : q ∉ ps := fun z => absurd (h z) (by simp only [Stm.word]; decide +kernel)
    exact ⟨_, rfl, by simp, by simp [Stm.inner], rfl, by simp only [hq, if_false, keyS, Stm.toD, Stm.inner, keyI, blksD, List.length_cons, List.length_nil, List.map_cons, List.map_nil, Stm.word]; rfl⟩
  | whl a x =>
    have hq : q ∉ ps := fun z => absurd (h z) (by simp only [Stm.word]; decide +kernel)
    exact ⟨_, rfl, by simp, by simp [Stm.inner], rfl, by simp only [hq, if_false, keyS, Stm.toD, Stm.inner, keyI, blksD, List.length_cons, List.length_nil, List.map_cons, List.map_nil, Stm.word]; rfl⟩
  | tms a x =>
    have hq : q ∉ ps := fun z => absurd (h z) (by simp only [Stm.word]; decide +kernel)
    exact ⟨_, rfl, by simp, by simp [Stm.inner], rfl, by simp only [hq, if_false, keyS, Stm.toD, Stm.inner, keyI, blksD, List.length_cons, List.length_nil, List.map_cons, List.map_nil, Stm.word]; rfl⟩
  | move a b =>
    have hq : q ∉ ps := fun z => absurd (h z) (by simp only [Stm.word]; decide +kernel)
    exact ⟨_, rfl, by simp, by simp [Stm.inner], rfl, by simp only [hq, if_false, keyS, Stm.toD, Stm.inner, keyI, blksD, List.length_cons, List.length_nil, List.map_nil, Stm.word]; rfl⟩
  | part a b =>
    have hq : q ∉ ps := fun z => absurd (h z) (by simp only [Stm.word]; decide +kernel)
    exact ⟨_, rfl, by simp, by simp [Stm.inner], rfl, by simp only [hq, if_false, keyS, Stm.toD, Stm.inner, keyI, blksD, List.length_cons, List.length_nil, List.map_nil, Stm.word]; rfl⟩
  | tell a b =>
    have hq : q ∉ ps := fun z => absurd (h z) (by simp only [Stm.word]; decide +kernel)
    exact ⟨_, rfl, by simp, by simp [Stm.inner], rfl, by simp only [hq, if_false, keyS, Stm.toD, Stm.inner, keyI, blksD, List.length_cons, List.length_nil, List.map_nil, Stm.word]; rfl⟩
  | fin =>
    have hq : q ∉ ps := fun z => absurd (h z) (by simp only [Stm.word]; decide +kernel)
    exact ⟨_, rfl, by simp, by simp [Stm.inner], rfl, by simp only [hq, if_false, keyS, Stm.toD, Stm.inner, keyI, blksD, List.length_cons, List.length_nil, List.map_nil, Stm.word]; rfl⟩
/-- a path among paths -/
theorem eqvAll_ints : ∀ l l' : List Int, PyData.eqvAll (l.map .int) (l'.map .int) = decide (l = l')
  | [], [] => by simp [PyData.eqvAll]
  | [], _ :: _ => by simp [PyData.eqvAll]
  | _ :: _, [] => by simp [PyData.eqvAll]
  | a :: r, b :: r' => by
    have ih := eqvAll_ints r r'
    simp only [List.map_cons, PyData.eqvAll, PyData.eqv, ih]
    by_cases h : a = b <;> simp [h]
theorem eqv_tup_ints (l l' : List Int) : PyData.eqv (.tuple (l.map .int)) (.tuple (l'.map .int)) = decide (l = l') := by
  rw [PyData.eqv]
  exact eqvAll_ints l l'
def pthD (ps : List (List Int)) : List PyData := ps.map fun p => .tuple (p.map .int)
theorem dp_pths {K : PySem.W.Frag} {H : Hp} : ∀ {vs : List V} {ps : List (List Int)}, Paired (PthV H) vs ps → DpAll K H vs (pthD ps)
  | _, _, .nil => .nil
  | _, _, .cons ⟨tp, e, z⟩ t => by
    subst e
    exact .cons (.tup (.inl (.inl z)) (dp_ints _)) (dp_pths t)
theorem any_pths (ps : List (List Int)) (p : List Int) : ((pthD ps).any fun z => PyData.eqv z (.tuple (p.map .int))) = decide (p ∈ ps) := by
  induction ps with
  | nil => rfl
  | cons a r ih =>
    simp only [pthD, List.map_cons, List.any_cons, eqv_tup_ints] at ih ⊢
    rw [ih]
    by_cases h : a = p
    · simp [h]
    · simp [h, Ne.symm h]
theorem shaped_pth (p : List Int) : SeqAt.shaped (.tuple (p.map .int)) = true := by
  unfold SeqAt.shaped
  rw [Bool.and_eq_true, decide_eq_true_iff]
  exact ⟨ints_lay p, by simp only [PyData.depth, ints_depth]; omega⟩
theorem shaped_pths (ps : List (List Int)) : SeqAt.shaped (.list (pthD ps)) = true := by
  unfold SeqAt.shaped
  rw [Bool.and_eq_true, decide_eq_true_iff]
  have h : PyData.canLayAll0 (pthD ps) = true ∧ PyData.depthAll (pthD ps) ≤ 1 := by
    induction ps with
    | nil => exact ⟨rfl, by simp [pthD, PyData.depthAll]⟩
    | cons a r ih =>
      simp only [pthD, List.map_cons, PyData.canLayAll0, PyData.canLay0, ints_lay, PyData.depthAll, PyData.depth, ints_depth] at ih ⊢
      exact ⟨by rw [ih.1]; rfl, by omega⟩
  exact ⟨h.1, by simp only [PyData.depth]; omega⟩
theorem in_pths {K : PySem.W.Frag} {H : Hp} {Q : VK} {tp lp : Addr} {p : List Int} {vps : List V} {ps : List (List Int)} (ht : SqT K H tp (p.map V.int)) (hl : H lp = some (.lst vps)) (hp : Paired (PthV H) vps ps) (k : Q (.bl (decide (p ∈ ps))) H) : rInD K (.ref tp) (.ref lp) H Q :=
  ⟨_, _, .tup ht (dp_ints p), .lst (SqL.of hl) (dp_pths hp), shaped_pth p, shaped_pths ps, by rw [any_pths]; exact k⟩
/-- xs[1:m] -/
theorem midA_sq {K : PySem.W.Frag} {H : Hp} {Q : VK} {a : Addr} {xs : List V} {m : Nat} (ha : SqT K H a xs) (h1 : 1 ≤ m) (hm : m ≤ xs.length) (k : ∀ w H', Same H H' → SqT K H' w ((xs.take m).drop 1) → Q (.ref w) H') : rSlA K (.ref a) (some 1) (some (m : Int)) H Q := by
  refine ⟨a, xs, rfl, ha, fun hz => ?_, fun _ p np => ?_⟩
  · have h2 := hz.1
    rw [show (1 : Int) = ((1 : Nat) : Int) from rfl, HT.sIx_nat] at h2
    omega
  · have : cutV xs (some 1) (some (m : Int)) = (xs.take m).drop 1 := by
      unfold cutV
      rw [show (1 : Int) = ((1 : Nat) : Int) from rfl, HT.sIx_nat, HT.sIx_nat, Nat.min_eq_left hm, Nat.min_eq_left (by omega : 1 ≤ xs.length), List.drop_take]
    rw [this]
    exact k _ _ (same_upd np) (.inl (.inl upd_same))
def spKeyed (n : Nat) (K : PySem.W.Frag) : Sp := fun vs H Q _ => ∃ (v : V) (tq lp : Addr) (x : List Stm) (q : List Int) (vps : List V) (ps : List (List Int)), vs = [v, .ref tq, .ref lp] ∧ Td H v (.tuple (toDs x)) ∧ SqT K H tq (q.map V.int) ∧ H lp = some (.lst vps) ∧ Paired (PthV H) vps ps ∧
  depths x < n ∧ x.length ≤ 500 ∧ slims x ∧ q.length + 2 * n ≤ 500 ∧ (∀ r ∈ rowsL q 0 x, r.1 ∈ ps → r.2.word = "send") ∧ ∀ w H', Same H H' → Td H' w (.tuple (toDs (keyL ps q 0 x))) → Q w H'
end W1
end
section
set_option linter.all false
set_option maxRecDepth 100000
set_option maxHeartbeats 8000000
/-! Z4b: _law_keyed, its body -/
namespace W1
open PySem L2 Cm
theorem midA_td {K : PySem.W.Frag} {H : Hp} {Q : VK} {v : V} {ds : List PyData} {m : Nat} (hv : Td H v (.tuple ds)) (h1 : 1 ≤ m) (hm : m ≤ ds.length) (k : ∀ w H', Same H H' → Td H' w (.tuple ((ds.take m).drop 1)) → Q w H') : rSlA K v (some 1) (some (m : Int)) H Q := by
  obtain ⟨a, xs, rfl, ea, ta⟩ := td_ref hv
  have lx : xs.length = ds.length := ta.length
  refine ⟨a, xs, rfl, .inl (.inl ea), fun hz => ?_, fun _ p np => ?_⟩
  · have h2 := hz.1
    rw [show (1 : Int) = ((1 : Nat) : Int) from rfl, HT.sIx_nat] at h2
    omega
  · have : cutV xs (some 1) (some (m : Int)) = (xs.take m).drop 1 := by
      unfold cutV
      rw [show (1 : Int) = ((1 : Nat) : Int) from rfl, HT.sIx_nat, HT.sIx_nat, Nat.min_eq_left (by omega : m ≤ xs.length), Nat.min_eq_left (by omega : 1 ≤ xs.length), List.drop_take]
    rw [this]
    exact k _ _ (same_upd np) (.tup upd_same ((TdAll.drop 1 (TdAll.take m ta)).mono (TK.same (same_upd np))))
theorem key_word {K : PySem.W.Frag} {H : Hp} {Q : VK} {σ : L2.St} {th lp as : Addr} {here : List Int} {vps : List V} {ps : List (List Int)} {wd : Str} {zs : List V} (h6 : σ[6]? = some (some (.ref th))) (h2 : σ[2]? = some (some (.ref lp))) (h5 : σ[5]? = some (some (.ref as)))
    (ht : H th = some (.tup (here.map V.int))) (hl : H lp = some (.lst vps)) (hp : Paired (PthV H) vps ps) (ha : H as = some (.tup zs)) (h0 : zs[0]? = some (.str wd)) (hQ : Q (.str (if here ∈ ps then "keyed" else wd)) H) :
    tIf (tTest (tOp (rInD K) (tVar 6) (tVar 2))) (tC (.str "keyed")) (tOp (rIxT K) (tVar 5) (tC (.int 0))) σ H Q := by
  refine ⟨_, h6, _, h2, in_pths (.inl (.inl ht)) hl hp ⟨_, rfl, ?_⟩⟩
  by_cases c : here ∈ ps
  · rw [decide_eq_true c]
    rw [if_pos c] at hQ
    exact iteT hQ
  · rw [decide_eq_false c]
    rw [if_neg c] at hQ
    exact iteF ⟨_, h5, as, zs, ((0 : Nat) : Int), _, rfl, rfl, .inl (.inl ha), atI_nat h0, hQ⟩
section
variable {P : Program} {w : World} {K : PySem.W.Frag} {mg : Str → Option Value} {base : Heap}
theorem keyed_body {n k : Nat} {f fB : Addr} {fd fdB : FuncData} (D : Dn K mg "_law_keyed" s_law_keyed ["_law_block_here", "_law_path", "_law_paths"] f fd) (T : Bi mg) (B : Dn K mg "_law_blocks" s_law_blocks ["_law_statement_here"] fB fdB) {sp0 : Sp}
    (GR : FnOk P w K mg base CX0 (k + 1) f fd ["_law_block_here", "_law_path", "_law_paths"] sp0) (h0 : ∀ n', n = n' + 1 → ∀ vs H Q E, spKeyed n' K vs H Q E → sp0 vs H Q E) : FnOk P w K mg base CX0 (k + 2) f fd ["_law_block_here", "_law_path", "_law_paths"] (spKeyed n K) := by
  have GB : FnOk P w K mg base CX0 1 fB fdB ["_law_statement_here"] (spLBlocks K) := ok_lblocks B.F
  have nd := sc_law_keyed.nd
  refine D.F.ok sc_law_keyed (fun vs H Q E h => ?_) (fun cdv A outer s H vs Q E hr h => ?_)
  · obtain ⟨v, tq, lp, x, q, vps, ps, rfl, _⟩ := h
    rfl
  · obtain ⟨v, tq, lp, x, q, vps, ps, rfl, hT, hq, hlp, hps, hd, hxl, hxs, hql, hrow, kk⟩ := h
    have hr1 : Room 1 _ := hr.mono (by omega)
    have hu65 : (A.deeper (PyProof.Rows.envOfC "_law_keyed" (defScope s_law_keyed) s.heap.objs.size f cdv)).units + 65 < cLine := by have := hr.un; omega
    refine ⟨_, pss_cons (ps_set (i := 3) nd rfl (Or.inl rfl) (pe_tup pa_nil))
      (pss_cons (ps_for PassesOwn.never rfl (pi_range1 (by rfl) T.range (pa_cons (pe_callB call_len_seq (by rfl) T.len PySem.boot_len (pa_cons (pv 0) pa_nil)) pa_nil)) (pg_name (i := 4) nd rfl (Or.inl rfl))
        (pss_cons (ps_asg (pe_tup (pa_cons (pe_ix (r := rIxT K) ix_tup (pv 0) (pv 4) (fun _ _ => rfl)) (pa_cons (pe_op op_catA (pv 1) (pe_tup (pa_cons (pv 4) pa_nil))) pa_nil))) (pg_tup (by rfl) (pgs_cons (pg_name (i := 5) nd rfl (Or.inl rfl)) (pgs_cons (pg_name (i := 6) nd rfl (Or.inr rfl)) pgs_nil))))
        (pss_cons (ps_set (i := 7) nd rfl (Or.inr rfl) (pe_call GB hr1 (by rfl) B.g B.F.kp B.b .nil pass0 (pa_cons (pv 5) pa_nil)))
        (pss_cons (ps_set (i := 8) nd rfl (Or.inl rfl) (pe_callTy (call_tupK (K := K) rfl) (by rfl) T.tuple (by decide +kernel) (pa_cons (pe_lc (own := [("_law_number", 10)]) (g := gName 10) (tt := tYes) (by rfl) nd (pi_range1 (by rfl) T.range (pa_cons (pe_callB call_len_seq (by rfl) T.len PySem.boot_len (pa_cons (pv 7) pa_nil)) pa_nil))
            (blkOk_by (own := [("_law_number", 10)]) (N := ["_law_block_here", "_law_path", "_law_paths", "_law_found", "_law_k", "_law_statement_here", "_law_here", "_law_some", "_law_inner", "_law_word", "_law_number"]) (sc := defScope s_law_keyed) (by decide +kernel)) (fun _ _ _ _ _ => pg_name (i := 10) nd rfl (Or.inl rfl))
            (fun _ _ _ _ _ => pts_nil) (fun _ _ _ _ _ => pe_call GR hr (by rfl) D.g D.F.kp D.b .nil pass0 (pa_cons (pe_ix (r := rIxT K) ix_tup (pv 7) (pv 10) (fun _ _ => rfl)) (pa_cons (pe_op (r := rCatA K) op_catA (pv 6) (pe_tup (pa_cons (pv 10) pa_nil))) (pa_cons (pv 2) pa_nil))))) pa_nil)))
        (pss_cons (ps_set (i := 9) nd rfl (Or.inl rfl) (pe_ifExp (pt_cmpR (r := rInD K) (op_inD hu65) (pv 6) (pv 2) (by rfl)) pe_str (pe_ix (r := rIxT K) ix_tup (pv 5) pe_int (fun _ _ => rfl))))
        (pss_one (ps_set (i := 3) nd rfl (Or.inl rfl) (pe_op op_catA (pv 3) (pe_tup (pa_cons (pe_op op_catA (pe_op op_catA (pe_tup (pa_cons (pv 9) pa_nil)) (pe_slice sl_tupA (pv 5) (po_some pe_int)
          (po_some (pe_op op_sub (pe_callB call_len_seq (by rfl) T.len PySem.boot_len (pa_cons (pv 5) pa_nil)) (pe_callB call_len_seq (by rfl) T.len PySem.boot_len (pa_cons (pv 7) pa_nil)))))) (pv 8)) pa_nil))))))))))
      (pss_one (ps_ret (pv 3)))), ?_⟩
    obtain ⟨ab, ys, rfl, hab, tys⟩ := Td.ref_inv hT
    have ly : ys.length = x.length := by rw [tys.length, toDs_length]
    refine ⟨small_le (by simp), fun f0 nf0 => ?_⟩
    have sF := same_upd (o := .tup []) nf0
    refine ⟨_, rfl, ab, ys, rfl, .inr (.inl (.inl (sF _ _ hab))), (ys.length : Int), rfl, by omega, by omega, ?_⟩
    rw [Int.toNat_natCast, ly]
    refine for_range (lo := 0) (n := x.length) (fun i σ Hc => ∃ w v4 v5 v6 v7 v8 v9 v10, σ = [some (.ref ab), some (.ref tq), some (.ref lp), some w, v4, v5, v6, v7, v8, v9, v10] ∧ Same H Hc ∧ Td Hc w (.tuple (toDs ((keyL ps q 0 x).take i))))
      ⟨.ref f0, none, none, none, none, none, none, none, rfl, sF, .tup upd_same .nil⟩ ?_ ?_
    · rintro i σ Hc hi ⟨wf, v4, v5, v6, v7, v8, v9, v10, rfl, sc, twf⟩
      rw [Int.zero_add]
      obtain ⟨sm, ex⟩ : ∃ sm, x[i]? = some sm := ⟨_, List.getElem?_eq_getElem hi⟩
      obtain ⟨vs, evs, tvs⟩ := tys.get (toDs_at ex)
      refine ⟨_, rfl, _, rfl, ab, ys, (i : Int), vs, rfl, rfl, .inl (.inl (sc _ _ hab)), atI_nat evs, _, rfl, _, rfl, small_le (by simp), fun t1 nt1 => ?_⟩
      have s1 := sc.trans (same_upd (o := .tup [.int (i : Int)]) nt1)
      have s1' := same_upd (o := .tup [.int (i : Int)]) nt1
      refine catA_r (sqT_same' hq s1) upd_same (by simp) (by rw [List.length_map]; simp only [List.length_cons, List.length_nil]; omega) fun th H2 s2 hth => ?_
      rw [show q.map V.int ++ [V.int (i : Int)] = (q ++ [(i : Int)]).map V.int by simp] at hth
      refine ⟨small_le (by simp), fun tt ntt => ?_⟩
      have s3 := same_upd (o := .tup [vs, .ref th]) ntt
      refine ⟨tt, _, rfl, .inl (.inl upd_same), rfl, _, _, rfl, _, _, rfl, rfl, ?_⟩
      have hth := s3 _ _ hth
      have c3 : Same Hc (upd H2 tt (.tup [vs, .ref th])) := (s1'.trans s2).trans s3
      generalize upd H2 tt (.tup [vs, .ref th]) = H3 at hth c3 s3
      clear s1 s1' s2 s3 nt1 ntt
      have s03 := sc.trans c3
      have tv3 := tvs.mono (TK.same s03)
      refine ⟨_, rfl, vs, sm, rfl, tv3, fun ts H4 bs s4 hbs tbs => ?_⟩
      have s04 := s03.trans s4
      have lb : bs.length = sm.inner.length := by rw [tbs.length, List.length_map]
      have lin : sm.inner.length ≤ 5 := by
        obtain ⟨ds, _, h5, h6, _⟩ := key_toD [] [] sm (fun z => by cases z)
        omega
      have hth4 := s4 _ _ hth
      refine ⟨_, rfl, ts, bs, rfl, .inr hbs, (bs.length : Int), rfl, by omega, by omega, fun DD nD => ?_⟩
      rw [Int.toNat_natCast]
      obtain ⟨n', rfl⟩ : ∃ n', n = n' + 1 := ⟨n - 1, by omega⟩
      refine lc_range (lo := 0) (n := bs.length) (fun m H' => Same H4 H' ∧ ∃ acc, H' DD = some (.lst acc) ∧ acc.length = m ∧ TdAll H' acc (blksD ((keyI ps (q ++ [(i : Int)]) 0 sm.inner).take m))) ⟨same_upd nD, [], upd_same, rfl, .nil⟩ ?_ ?_
      · rintro m H5 hm ⟨s5, acc, hacc, hal, tacc⟩
        rw [Int.zero_add]
        obtain ⟨b, eb⟩ : ∃ b, sm.inner[m]? = some b := ⟨_, List.getElem?_eq_getElem (by omega)⟩
        obtain ⟨vm, evm, tvm⟩ := tbs.get (i := m) (d := .tuple (toDs b)) (by rw [List.getElem?_map, eb]; rfl)
        have s05 := s04.trans s5
        refine ⟨rfl, _, rfl, _, rfl, ts, bs, (m : Int), vm, rfl, rfl, sqT_same' hbs s5, atI_nat evm, _, rfl, _, rfl, small_le (by simp), fun t2 nt2 => ?_⟩
        have s6 := same_upd (o := .tup [.int (m : Int)]) nt2
        refine catA_r (sqT_same' (.inl (.inl (s5 _ _ hth4))) s6) upd_same (by simp) (by rw [List.length_map, List.length_append]; simp only [List.length_cons, List.length_nil]; omega) fun th2 H7 s7 hth2 => ?_
        rw [show (q ++ [(i : Int)]).map V.int ++ [V.int (m : Int)] = (q ++ [(i : Int)] ++ [(m : Int)]).map V.int by simp] at hth2
        have s67 := s6.trans s7
        have s07 := s05.trans s67
        have hin := inner_slim (List.mem_of_getElem? eb) (slims_at ex hxs)
        have hdb := inner_depth (List.mem_of_getElem? eb)
        have hdx := depths_at ex
        refine ⟨_, rfl, h0 n' rfl _ _ _ _ ⟨vm, th2, lp, b, q ++ [(i : Int)] ++ [(m : Int)], vps, ps, rfl, (tvm.mono (TK.same s5)).mono (TK.same s67), .inl (.inl hth2), s07 _ _ hlp, pths_mono (TK.same s07) hps, by omega, hin.1, hin.2, by rw [List.length_append, List.length_append]; simp only [List.length_cons, List.length_nil]; omega, fun r hr => hrow r (mem_rowsL.mpr ⟨i, sm, ex, .inr (by rw [rowsS_inner, Nat.zero_add]; exact mem_rowsI.mpr ⟨m, b, eb, by rw [Nat.zero_add]; exact hr⟩)⟩), fun w8 H8 s8 tw8 => ?_⟩⟩
        have s58 := s67.trans s8
        have hacc8 := s58 _ _ hacc
        have tk9 : TK H8 (upd H8 DD (.lst (acc ++ [w8]))) := fun b' xs z => by rw [upd_ne (ne_of z hacc8 (by intro q; cases q))]; exact z
        refine ⟨acc, hacc8, small1000 (by omega), same_at (s5.trans s58) nD, acc ++ [w8], upd_same, by simp; omega, ?_⟩
        have et : (keyI ps (q ++ [(i : Int)]) 0 sm.inner)[m]? = some (keyL ps (q ++ [(i : Int)] ++ [(m : Int)]) 0 b) := by rw [keyI_at, eb, Nat.zero_add]; rfl
        rw [take_at et, blksD, List.map_append]
        exact ((tacc.mono (TK.same s58)).mono tk9).append (.cons (tw8.mono tk9) .nil)
      rintro H5 ⟨s5, acc, hacc, hal, tacc⟩
      rw [lb, ← keyI_length ps (q ++ [(i : Int)]) sm.inner 0, List.take_length] at tacc
      refine ⟨DD, acc, rfl, .inl ⟨SqL.of hacc, fun ti nti => ?_⟩⟩
      have s6 := same_upd (o := .tup acc) nti
      have tin : Td (upd H5 ti (.tup acc)) (.ref ti) (.tuple (blksD (keyI ps (q ++ [(i : Int)]) 0 sm.inner))) := .tup upd_same (tacc.mono (TK.same s6))
      have s46 := s5.trans s6
      generalize upd H5 ti (.tup acc) = H6 at s6 tin s46
      clear s5 s6 nti hacc tacc nD hal
      have s06 := s04.trans s46
      obtain ⟨ds, eds, dl, dn, dw, ekey⟩ := key_toD ps (q ++ [(i : Int)]) sm (fun z => hrow (q ++ [(i : Int)], sm) (mem_rowsL.mpr ⟨i, sm, ex, .inl (by simp)⟩) z)
      have tv6 := tv3.mono (TK.same (s4.trans s46))
      rw [eds] at tv6
      obtain ⟨as, zs, rfl, has, tzs⟩ := Td.ref_inv tv6
      have lz : zs.length = ds.length := tzs.length
      obtain ⟨v0, ev0, tv0⟩ := tzs.get dw
      obtain rfl := Td.str_inv tv0
      refine key_word (th := th) (lp := lp) (as := as) (here := q ++ [(i : Int)]) rfl rfl rfl (s46 _ _ hth4) (s06 _ _ hlp) (pths_mono (TK.same s06) hps) has ev0 ?_
      generalize hwd : (if q ++ [(i : Int)] ∈ ps then ("keyed" : Str) else sm.word) = wd
      rw [hwd] at ekey
      refine ⟨_, rfl, _, rfl, small_le (by simp), fun u1 nu1 => ?_⟩
      have s7 := same_upd (o := .tup [.str wd]) nu1
      have tu1 : Td (upd H6 u1 (.tup [.str wd])) (.ref u1) (.tuple [.str wd]) := .tup upd_same (.cons (.str _) .nil)
      generalize upd H6 u1 (.tup [.str wd]) = H7 at s7 tu1
      refine ⟨_, rfl, _, rfl, _, rfl, as, zs, rfl, .inr (.inl (.inl (s7 _ _ has))), _, rfl, ts, bs, rfl, .inr (sqT_same' hbs (s46.trans s7)), _, _, rfl, rfl, _, rfl, ?_⟩
      rw [lz, lb, show ((ds.length : Int) - (sm.inner.length : Int)) = ((ds.length - sm.inner.length : Nat) : Int) by omega]
      refine midA_td (m := ds.length - sm.inner.length) (tv6.mono (TK.same s7)) (by omega) (by omega) fun w8 H8 s8 t8 => ?_
      refine catA_td (tu1.mono (TK.same s8)) t8 (by rw [List.length_drop, List.length_take]; simp only [List.length_cons, List.length_nil]; omega) fun w9 H9 s9 t9 => ?_
      have s79 := s8.trans s9
      refine ⟨_, rfl, ?_⟩
      have lki : (blksD (keyI ps (q ++ [(i : Int)]) 0 sm.inner)).length = sm.inner.length := by rw [blksD, List.length_map, keyI_length]
      refine catA_td t9 ((tin.mono (TK.same s7)).mono (TK.same s79)) (by rw [lki, List.length_append, List.length_drop, List.length_take]; simp only [List.length_cons, List.length_nil]; omega) fun w10 H10 s10 t10 => ?_
      rw [← ekey] at t10
      refine ⟨small_le (by simp), fun u2 nu2 => ?_⟩
      have s11 := same_upd (o := .tup [w10]) nu2
      have s711 := (s79.trans s10).trans s11
      have scf : Same Hc (upd H10 u2 (.tup [w10])) := (((c3.trans s4).trans s46).trans s7).trans s711
      have lt : ((keyL ps q 0 x).take i).length ≤ x.length := by rw [List.length_take, keyL_length]; omega
      refine catA_td (twf.mono (TK.same scf)) (es := [(keyS ps (q ++ [(i : Int)]) sm).toD]) (.tup upd_same (.cons (t10.mono (TK.same s11)) .nil)) (by rw [toDs_length]; simp only [List.length_cons, List.length_nil]; omega) fun w12 H12 s12 t12 => ?_
      refine ⟨w12, _, _, _, _, _, _, _, rfl, (sc.trans scf).trans s12, ?_⟩
      have et : (keyL ps q 0 x)[i]? = some (keyS ps (q ++ [(i : Int)]) sm) := by rw [keyL_at, ex, Nat.zero_add]; rfl
      rw [take_at et, toDs_append]
      exact t12
    · rintro σ Hc ⟨wf, v4, v5, v6, v7, v8, v9, v10, rfl, sc, twf⟩
      rw [← keyL_length ps q x 0, List.take_length] at twf
      exact ⟨_, rfl, kk _ Hc sc twf⟩
theorem ok_keyed {f fB : Addr} {fd fdB : FuncData} (D : Dn K mg "_law_keyed" s_law_keyed ["_law_block_here", "_law_path", "_law_paths"] f fd) (T : Bi mg) (B : Dn K mg "_law_blocks" s_law_blocks ["_law_statement_here"] fB fdB) : ∀ n, FnOk P w K mg base CX0 (n + 2) f fd ["_law_block_here", "_law_path", "_law_paths"] (spKeyed n K)
  | 0 => keyed_body (k := 0) (sp0 := fun _ _ _ _ => False) D T B ⟨fun _ _ _ _ h => h.elim, fun _ _ _ _ _ _ _ _ _ _ _ _ _ h => h.elim⟩ (fun n' h => by omega)
  | n + 1 => keyed_body (k := n + 1) D T B (ok_keyed D T B n) (fun n' h vs H Q E q => by cases (Nat.succ.inj h); exact q)
end
end W1
end
section
set_option linter.all false
set_option maxRecDepth 100000
set_option maxHeartbeats 2000000
/-! M12: a tuple of expressions that may make own instances, taken apart -/
namespace Em
open PySem PySem.Spec PyProof.Rows L2 GenW Gp Er Gm
section
variable {X : Cx} {Po : Dg} {W : WX} {e tg : Expr} {es : List Expr} {pos : Pos} {te : TE} {t : TA} {g : TG}
theorem pe2_tup {x1 : Nat} (h : PA2 X Po W es t) : PE2 X Po W (.Tuple es x1 pos) (tTup t) := by
  refine ⟨fun pins GP s σ H Q I g hn hq => Tuple_ (thn (h.run pos pins GP s σ H _ I g hn hq) fun us s1 ⟨GP1, ⟨xs, H1, I1, r, z, q⟩, g1⟩ => ?_)⟩
  refine wpAny_newObj_type ?_ (by show us.length ≤ sizeLine; rw [← r.length]; exact z)
  have hf : H1 s1.heap.objs.size = none := I1.hok.fresh (Nat.le_refl _)
  exact ⟨GP1, ⟨.ref s1.heap.objs.size, upd H1 s1.heap.objs.size (.tup xs), I1.laid (t' := s1.toks) (fun b u e => Heap.get?_push_of_some _ e) (Nat.le_refl _) ⟨z, us, r, ⟨_, Heap.get?_push_size _ rfl, rfl, _, rfl⟩⟩, rfl, q _ hf⟩, g1.gens rfl⟩
theorem ps2_asg (he : PE2 X Po W e te) (hg : ∀ pn, PG (X.tr pn noX) tg g) (hs : swapsWithSole [tg] e pos.line X.env = pure false := by rfl) (hw : swappedStores [tg] e X.env = pure none := by rfl)
    (h1 : (assignEach [tg] X.env).map (·.2) = [assign tg X.env] := by rfl) : PS2 X Po W (.Assign [tg] e pos) (tAsg te g) := by
  refine ⟨fun pins GP s σ H D I g0 hn h => wpAny_Assign_stores (thn (he.run pins GP s σ H _ I g0 hn h) fun v s1 ⟨GP1, ⟨x, H1, I1, r1, q1⟩, g1⟩ => ?_) hs hw⟩
  rw [h1]
  exact wpAny_mono (liftt noX I1 fun s J => (hg _).run [] s σ H1 x v _ J r1 q1) (fun _ s2 ⟨v, l, σ', H', I2, q2⟩ => ⟨GP1, ⟨σ', H', (l.inv I1.bare I2).ofTry I1.ok, q2⟩, g1.like l⟩) fun _ _ ⟨_, _, x⟩ => x.elim
end
end Em
end
section
set_option linter.all false
set_option maxRecDepth 100000
set_option maxHeartbeats 2000000
/-! M13: try with clauses of which some give the exception no name, at the erased model. -/
namespace Em
open PySem PySem.Spec PyProof.Rows L2 GenW Gp Er Gm
abbrev ClauseB := Value × Sum (Nat × (Addr → Value → Option Addr → TS)) TS
/-- what the clauses wish of an exception of the body, one after the other; none passes -/
def wishesB (K : PySem.W.Frag) (D : Ends) : List ClauseB → WX
  | [] => fun _ _ _ _ => False
  | (c, .inl (i, ts)) :: r => wAs K c i ts (wishesB K D r) D
  | (c, .inr ts) :: r => fun cls d σ H => ∃ b, PySem.W.exmOne K cls c = some b ∧ (b = true → ts D σ H) ∧ (b = false → wishesB K D r cls d σ H)
inductive HdsB (X : Cx) : List ExceptHandler → List ClauseB → Prop
  | nil : HdsB X [] []
  | bare {x : Str} {c : Value} {ts : TS} {b₀ : Stmt} {suite : List Stmt} {np pos' : Pos} {hds : List ExceptHandler} {l : List ClauseB} (hc : Names X x c)
      (hsu : ∀ (a : Addr) (oe : Obj) (cls : Value) (d : Option Addr) (pn : List (Addr × Obj)), Zc cls d oe → (∃ vs, oe.data = .fields vs) → PSs (X.suite a ((a, oe) :: pn)) (b₀ :: suite) ts) (r : HdsB X hds l) :
      HdsB X (.ExceptHandler (some (.Name x np)) none (b₀ :: suite) pos' :: hds) ((c, .inr ts) :: l)
  | cons {x n : Str} {c : Value} {i : Nat} {ts : Addr → Value → Option Addr → TS} {b₀ : Stmt} {suite : List Stmt} {np pos' : Pos} {hds : List ExceptHandler} {l : List ClauseB} (hi : X.N[i]? = some n) (hln : X.env.kindOf n = some .local) (hc : Names X x c)
      (hsu : ∀ (a : Addr) (oe : Obj) (cls : Value) (d : Option Addr) (pn : List (Addr × Obj)), Zc cls d oe → (∃ vs, oe.data = .fields vs) → PSs (X.suite a ((a, oe) :: pn)) (b₀ :: suite) (ts a cls d)) (r : HdsB X hds l) :
      HdsB X (.ExceptHandler (some (.Name x np)) (some n) (b₀ :: suite) pos' :: hds) ((c, .inl (i, ts)) :: l)
section
variable {X : Cx} {pins : List (Addr × Obj)} {hds : List ExceptHandler} {l : List ClauseB} {D : Ends}
theorem catch_asB (hs : OnStack X) (hN : X.N.Nodup) (hh : HdsB X hds l) {u : Value} {s' : Shared} (x : XEp X pins (wishesB X.K D l) u s') : wpAny (model X.prog X.w) X.A (caught u X.env hds) (SP X pins D) noX s' := by
  obtain ⟨a, B, sI, σ', H', cls, d, rfl, J, nb, up, sky, na, os, ag, w⟩ := x
  have ok := J.ok
  have hfr : X.A.frames = some (X.env :: X.outer) := by rw [ok.frames, hs.stk]
  rw [hs.stk] at sky
  have land := Sky.land (M := model X.prog X.w) (E₁ := noX) (Q := fun _ s3 => wpAny (model X.prog X.w) X.A (handleBy (.ref a) X.env hds) (SP X pins D) noX s3) Zc.steady hfr hs.frm sky fun h3 fl3 up3 => ?_
  · refine wpAny_bind (wpAny_mono land (fun _ s2 h2 => wpAny_bind (wpAny_mono h2 (fun _ s3 h3 => h3) fun _ _ z => z)) fun _ _ z => z)
  have J3 : L2.Inv X pins σ' H' { s' with heap := h3 } := J.landed nb fl3.1 (up.trans up3) os ag
  obtain ⟨oe3, vs3, he3, hz3, hd3⟩ := fl3.there
  have nfr : a ∉ frs (X.env :: X.outer) := fun hm => by
    obtain ⟨_, o', e', hnf⟩ := fl3.2.2.1.mem hm
    have e' : h3.get? a = some o' := e'
    rw [he3] at e'
    cases e'
    exact hnf _ hd3
  have nL : a ≠ X.env.locals := fun z => nfr (List.mem_filterMap.mpr ⟨X.env, List.mem_cons_self, by rw [hs.frm, z]⟩)
  have nF : a ∉ X.fs := fun hm => by
    obtain ⟨e, he, q⟩ := List.mem_filterMap.mp hm
    exact nfr (List.mem_filterMap.mpr ⟨e, List.mem_cons_of_mem _ he, q⟩)
  have S3 := J3.suite he3 hd3 na nL nF
  induction hh with
  | nil => exact w.elim
  | @cons x n c i ts b₀ suite np pos' hds2 l2 hi hln hc hsu r ih =>
    obtain ⟨b, hb1, hyes, hno⟩ := w
    refine wpAny_handleBy_cons (codeAny_handlers_test ?_) (by intro q; cases q)
    have LT : PySem.W.Looks (model X.prog X.w) h3 (typeOf (.ref a)) cls := fun A Q E s k q => wpAny_typeOf_ref (k _ _ he3) (by rw [hz3.1]; exact q)
    have LM := PySem.W.exm_one (M := model X.prog X.w) (J3.kIn) LT hb1
    have test : ∀ {Q : Value → Shared → Prop} {E : Value → Shared → Prop}, Q c { s' with heap := h3 } → wpAny (model X.prog X.w) (X.A.mark (some (.ref a))) (eval (.Name x np) X.env) Q E { s' with heap := h3 } := fun {Q E} q => by
      obtain ⟨hg, hdbg, hm | ⟨hm, hv, hnn⟩⟩ := hc
      · exact ld_glob (X := X.suite a ((a, oe3) :: (X.pn ++ pins))) S3 hg hm q hdbg
      · exact ld_blt (X := X.suite a ((a, oe3) :: (X.pn ++ pins))) S3 hg hm hv q hnn hdbg
    refine test (LM.here ?_)
    cases b with
    | true =>
      refine codeAny_handlers_suite_as ?_
      refine HandSPX.lands_againZ fl3 fun h4 fl4 up4 => ?_
      have J4 : L2.Inv X pins σ' H' { s' with heap := h4 } := J.landed nb fl4.1 ((up.trans up3).trans up4) os ag
      obtain ⟨oe4, vs4, he4, hz4, hd4⟩ := fl4.there
      have S4 := J4.suite he4 hd4 na nL nF
      refine store_ok (X := X.suite a ((a, oe4) :: (X.pn ++ pins))) (v := .ref a) S4 hN hi (.inl hln) rfl (fun s5 S5 => ?_) (.inr hln)
      refine wpAny_mono ((hsu a oe4 cls d (X.pn ++ pins) hz4 ⟨_, hd4⟩).run [] s5 _ H' _ S5 (hyes rfl a na)) (fun f s6 hsp => ?_) (fun _ _ z => False.elim z)
      have close : ∀ {σ6 : L2.St} {H6 : Hp} {Q : Shared → Prop}, L2.Inv (X.suite a ((a, oe4) :: (X.pn ++ pins))) [] σ6 H6 s6 → (∀ s7, L2.Inv X pins (σ6.set i none) H6 s7 → Q s7) →
          wpAny (model X.prog X.w) X.A (do bindName X.env n .none; unbindBehindTheSuite X.env n pos') (fun _ s7 => Q s7) noX s6 := fun {σ6 H6 Q} S6 hq => gone_ok (S6.unsuite ok) hN hi hln hq
      cases f with
      | next => obtain ⟨σ6, H6, S6, q6⟩ := hsp; exact close S6 fun s7 J7 => ⟨_, _, J7, q6⟩
      | brk => obtain ⟨σ6, H6, S6, q6⟩ := hsp; exact close S6 fun s7 J7 => ⟨_, _, J7, q6⟩
      | cont => obtain ⟨σ6, H6, S6, q6⟩ := hsp; exact close S6 fun s7 J7 => ⟨_, _, J7, q6⟩
      | ret u => obtain ⟨v6, σ6, H6, S6, r6, q6⟩ := hsp; exact close S6 fun s7 J7 => ⟨_, _, _, J7, r6, q6⟩
    | false =>
      show wpAny _ X.A (handleBy (.ref a) X.env hds2) _ _ _
      exact ih (hno rfl)
  | @bare x c ts b₀ suite np pos' hds2 l2 hc hsu r ih =>
    obtain ⟨b, hb1, hyes, hno⟩ := w
    refine wpAny_handleBy_cons (codeAny_handlers_test ?_) (by intro q; cases q)
    have LT : PySem.W.Looks (model X.prog X.w) h3 (typeOf (.ref a)) cls := fun A Q E s k q => wpAny_typeOf_ref (k _ _ he3) (by rw [hz3.1]; exact q)
    have LM := PySem.W.exm_one (M := model X.prog X.w) (J3.kIn) LT hb1
    have test : ∀ {Q : Value → Shared → Prop} {E : Value → Shared → Prop}, Q c { s' with heap := h3 } → wpAny (model X.prog X.w) (X.A.mark (some (.ref a))) (eval (.Name x np) X.env) Q E { s' with heap := h3 } := fun {Q E} q => by
      obtain ⟨hg, hdbg, hm | ⟨hm, hv, hnn⟩⟩ := hc
      · exact ld_glob (X := X.suite a ((a, oe3) :: (X.pn ++ pins))) S3 hg hm q hdbg
      · exact ld_blt (X := X.suite a ((a, oe3) :: (X.pn ++ pins))) S3 hg hm hv q hnn hdbg
    refine test (LM.here ?_)
    cases b with
    | true =>
      refine codeAny_handlers_suite ?_
      refine HandSPX.lands_againZ fl3 fun h4 fl4 up4 => ?_
      have J4 : L2.Inv X pins σ' H' { s' with heap := h4 } := J.landed nb fl4.1 ((up.trans up3).trans up4) os ag
      obtain ⟨oe4, vs4, he4, hz4, hd4⟩ := fl4.there
      have S4 := J4.suite he4 hd4 na nL nF
      refine wpAny_mono ((hsu a oe4 cls d (X.pn ++ pins) hz4 ⟨_, hd4⟩).run [] _ _ H' _ S4 (hyes rfl)) (fun f s6 hsp => ?_) (fun _ _ z => False.elim z)
      cases f with
      | next => obtain ⟨σ6, H6, S6, q6⟩ := hsp; exact ⟨_, _, S6.unsuite ok, q6⟩
      | brk => obtain ⟨σ6, H6, S6, q6⟩ := hsp; exact ⟨_, _, S6.unsuite ok, q6⟩
      | cont => obtain ⟨σ6, H6, S6, q6⟩ := hsp; exact ⟨_, _, S6.unsuite ok, q6⟩
      | ret u => obtain ⟨v6, σ6, H6, S6, r6, q6⟩ := hsp; exact ⟨_, _, _, S6.unsuite ok, r6, q6⟩
    | false =>
      show wpAny _ X.A (handleBy (.ref a) X.env hds2) _ _ _
      exact ih (hno rfl)
end
section
variable {X : Cx} {Po : Dg} {W : WX} {body : List Stmt} {h₀ : ExceptHandler} {hds : List ExceptHandler} {l : List ClauseB} {pos : Pos} {tb : WX → TS}
theorem ps2_tryB (hs : OnStack X) (hN : X.N.Nodup) (hb : ∀ V : WX, PSs2 X Po V body (tb V)) (hh : HdsB X (h₀ :: hds) l) : PS2 X Po W (.Try body (h₀ :: hds) [] [] pos) (fun D σ H => tb (wishesB X.K D l) D σ H) := by
  refine ⟨fun pins GP s σ H D I g hn h => ?_⟩
  rw [arm_exec_Try]
  refine wpAny_bind (wpAny_standAt ?_)
  unfold tryStmt
  simp only [List.isEmpty_nil, if_true, List.isEmpty_cons, Bool.false_and, Bool.false_eq_true, if_false]
  refine wpAny_bind (wpAny_attempt (wpAny_mono ((hb (wishesB X.K D l)).run pins GP s σ H D I g hn h) (fun f s1 hq => ?_) fun e s1 hx => ?_))
  · obtain ⟨GP1, q, g1⟩ := hq
    cases f with
    | next => exact wpAny_execs_nil ⟨GP1, q, g1⟩
    | brk => exact wpAny_pure ⟨GP1, q, g1⟩
    | cont => exact wpAny_pure ⟨GP1, q, g1⟩
    | ret v => exact wpAny_pure ⟨GP1, q, g1⟩
  · obtain ⟨GP1, x, g1⟩ := hx
    have hb1 : AllBare s1.gens := by
      obtain ⟨_, _, _, _, _, _, _, _, _, _, _, _, _, _, ag, _⟩ := x
      exact ag
    have x0 : XEp X (pins ++ GP1) (wishesB X.K D l) e { s1 with gens := blankA s1.gens } := by
      obtain ⟨a, B, sI, σ, H, cls, d, e, J, nb, up, sky, na, os, ag, w⟩ := x
      exact ⟨a, B, sI, σ, H, cls, d, e, J, nb, up, sky, na, os, blankA_bare _, w⟩
    refine wpAny_mono (unere (lift (M := model X.prog X.w) (catch_asB hs hN hh x0))) (fun f s2 ⟨u2, l2, q2⟩ => ⟨GP1, ?_, g1.like l2⟩) fun _ _ ⟨_, _, z⟩ => z.elim
    exact sp_like l2 hb1 q2
end
end Em
end
section
set_option linter.all false
set_option maxRecDepth 100000
set_option maxHeartbeats 8000000
/-! Z5: _law_told -/
namespace Em
open PySem PySem.Spec PyProof.Rows L2 GenW Gp Er Gm
section
variable {X : Cx} {Po : Dg} {W : WX} {k : Nat} {f : Addr} {fd : FuncData} {ps : List Str} {sp : Sp} {dvs : List V} {ds : List Value} {x : Str} {p pos : Pos} {e : Expr} {es : List Expr} {t : TA}
/-- f(e, ..); what leaves is wished at the slots -/
def tCallS (sp : Sp) (dvs : List V) (E : L2.St → XK) (t : TA) : TE := fun σ H Q => t σ H fun vs H1 => sp (vs ++ dvs) H1 Q (E σ)
theorem pe2_callS {E : L2.St → XK} (F : FnOk2 X.prog X.w X.K X.mg X.base k f fd ps sp) (hr : Room k X.A) (hg : Gl X x) (hm : X.mg x = some (.ref f)) (hk : PySem.W.keepIn X.K (.ref f) = true) (hb : Binds X.K fd ps ds) (hd : Vals dvs ds) (hs : OnStack X) (hW : ∀ σ cls d H, E σ cls d H → W cls d σ H)
    (ha : PA2 X Po W (e :: es) t) (hdb : (x == ("__debug__" : Str)) = false := by decide) (he : starEach (e :: es) X.env = (false, eval e X.env) :: starEach es X.env := by rfl) (hpl : (backTo pos (starEach es X.env)).any (·.1) = false := by rfl) :
    PE2 X Po W (.Call (.Name x p) (e :: es) [] pos) (tCallS sp dvs E t) := by
  refine ⟨fun pins GP s σ H Q I g hn h => wpAny_Call_Name_kw (glob2 I hg hm ?_ hdb)⟩
  refine PySem.W.callWith_K (h₀ := X.base) I.ok.mod.kin hk (hsz hn (wpAny_mono (ha.run pos pins GP s σ H _ I g hn h) (fun us s1 ⟨GP1, ⟨vs, H1, I1, r, q⟩, g1⟩ hn1 => ⟨I1.kIn, ?_⟩) fun _ _ x _ => x)) he hpl
  exact run_fn2S F hr hb hd hs (hW σ) I1 g1 hn1 r q
end
end Em
namespace W1
open PySem L2 Cm
structure Cl3 (K : PySem.W.Frag) (mg : Str → Option Value) (CN CL : Addr) : Prop where
  gN : mg "NoStatement" = some (.ref CN)
  gL : mg "InvalidLists" = some (.ref CL)
  nn : PySem.W.exmOne K (.ref CN) (.ref CN) = some true
  ln : PySem.W.exmOne K (.ref CL) (.ref CN) = some false
  ll : PySem.W.exmOne K (.ref CL) (.ref CL) = some true
  xN : XfC K CN
  nN : PySem.W.findIn K (.ref CN) "path" = some none
def spTold (K : PySem.W.Frag) (CP : Addr) : Sp := fun vs H Q _ => ∃ (a lp ln : Addr) (names kept : List Str) (x : List Stm) (vps : List V) (ps : List (List Int)) (ls : List Str), vs = [.ref a, .ref lp, .ref ln] ∧ PObj K CP H a names x kept ∧ Drw names kept x ∧
  H lp = some (.lst vps) ∧ Paired (PthV H) vps ps ∧ H ln = some (.lst (ls.map V.str)) ∧ (∀ p ∈ ps, p.length ≤ 9) ∧ ls.length ≤ 400 ∧
  (∀ (j : Nat) (p : List Int) (v : V), (∀ (i : Nat) (p' : List Int), i < j → ps[i]? = some p' → isSend x p' = true) → ps[j]? = some p → vps[j]? = some v → isSend x p = false → ∀ H', Same H H' → Q v H') ∧
  ((∀ p ∈ ps, isSend x p = true) → listsOk names ls = false → ∀ H', Same H H' → Q (.str "lists") H') ∧
  ((∀ p ∈ ps, isSend x p = true) → listsOk names ls = true → ps.Nodup ∧ ∀ b H', Same H H' → PObj K CP H' b names (keyL ps [] 0 x) (keptOf names (kept ++ ls.filter fun a => !decide (a ∈ kept))) → Q (.ref b) H')
section
variable {P : Program} {w : World} {K : PySem.W.Frag} {mg : Str → Option Value} {base : Heap}
theorem ok_told {CP CN CL : Addr} {f fM : Addr} {fd fdM : FuncData} (F : Fun K "_law_told" "_law_told" s_law_told f fd) (Y : Cl3 K mg CN CL) (M : Dn K mg "mended" s_mended ["program", "paths", "lists"] fM fdM)
    (GM : Em.FnOk2 P w K mg base 17 fM fdM ["program", "paths", "lists"] (spMend K CP CN CL)) : Em.FnOk2 P w K mg base 18 f fd ["_law_program_here", "_law_paths", "_law_lists_here"] (spTold K CP) := by
  have nd := sc_law_told.nd
  refine fun2 F sc_law_told (fun vs H Q E h => ?_) (fun cdv A outer s H vs Q E Po hr h => ?_)
  · obtain ⟨a, lp, ln, names, kept, x, vps, ps, ls, rfl, _⟩ := h
    rfl
  · obtain ⟨a, lp, ln, names, kept, x, vps, ps, ls, rfl, hO, d, hlp, hps, hln, hp9, hll, kN, kL, kQ⟩ := h
    refine ⟨_, Em.pss2_cons (Em.ps2_of fun _ => ps_set (i := 3) nd rfl (Or.inl rfl) pe_non)
      (Em.pss2_cons (Em.ps2_tryB ⟨rfl, rfl⟩ nd (fun V => Em.pss2_one (Em.ps2_set (i := 3) nd rfl (Or.inl rfl) (Em.pe2_callS (E := fun σ cls d H => V cls d σ H) GM hr (by rfl) M.g M.F.kp M.b .nil ⟨rfl, rfl⟩ (fun _ _ _ _ h => h)
            (Em.pa2_cons (Em.pe2_of fun _ => pv 0) (Em.pa2_cons (Em.pe2_of fun _ => pv 1) (Em.pa2_cons (Em.pe2_of fun _ => pv 2) Em.pa2_nil))))))
        (.cons (i := 4) (ts := fun a cls d => tAsg (tXf a cls d CN "path" (tVar 4)) (gName 3)) rfl rfl ⟨rfl, by decide, Or.inl Y.gN⟩ (fun a oe cls d pn hz hf => pss_one (ps_set (i := 3) nd rfl (Or.inl rfl) (pe_xf Y.xN Y.nN hz hf (pv 4))))
          (.bare (ts := tAsg (tC (.str "lists")) (gName 3)) ⟨rfl, by decide, Or.inl Y.gL⟩ (fun a oe cls d pn hz hf => pss_one (ps_set (i := 3) nd rfl (Or.inl rfl) pe_str)) .nil)))
      (Em.pss2_one (Em.ps2_ret (Em.pe2_of fun _ => pv 3)))), ?_⟩
    refine ⟨_, rfl, _, rfl, _, rfl, a, lp, ln, names, kept, x, vps, ps, ls, rfl, hO, d, hlp, hps, hln, hp9, hll, fun j p v h1 h2 h3 h4 d' H' s' ed => ?_, fun h1 h2 H' s' => ?_, fun h1 h2 => ⟨(kQ h1 h2).1, fun b H' s' po => ⟨_, rfl, (kQ h1 h2).2 b H' s' po⟩⟩⟩
    · exact ⟨true, Y.nn, fun _ e he => ⟨_, rfl, rfl, rfl, d', _, _, rfl, ed, rfl, _, rfl, kN j p v h1 h2 h3 h4 H' s'⟩, fun q => nomatch q⟩
    · exact ⟨false, Y.ln, (fun q => nomatch q), fun _ => ⟨true, Y.ll, fun _ => ⟨_, rfl, kL h1 h2 H' s'⟩, fun q => nomatch q⟩⟩
end
end W1
end
section
set_option linter.all false
set_option maxRecDepth 100000
set_option maxHeartbeats 8000000
/-! Z6a: pieces of the law's reading -/
namespace W1
open PySem L2 Cm
section
variable {K : PySem.W.Frag}
theorem sub_paired {α β : Type} {R : α → β → Prop} : ∀ {xs ys : List α} {bs : List β}, ys.Sublist xs → Paired R xs bs → ∃ cs, cs.Sublist bs ∧ Paired R ys cs
  | _, _, _, .slnil, .nil => ⟨[], List.Sublist.slnil, .nil⟩
  | _, _, _, .cons _ h, .cons a t => by
    obtain ⟨cs, s, p⟩ := sub_paired h t
    exact ⟨cs, s.cons _, p⟩
  | _, _, _, .cons_cons _ h, .cons a t => by
    obtain ⟨cs, s, p⟩ := sub_paired h t
    exact ⟨_, s.cons_cons _, .cons a p⟩
theorem path_pths {H : Hp} : ∀ {vs : List V} {rs : List (List Int × Stm)}, Paired (PathV H) vs rs → Paired (PthV H) vs (rs.map (·.1))
  | _, _, .nil => .nil
  | _, _, .cons h t => .cons h (path_pths t)
theorem hs_lst {H : Hp} {p q D : Addr} {o : HO} (h : HS H p q) (np : D ≠ p ∧ D ≠ q) : HS (upd H D o) p q := by
  obtain ⟨a', i', ns, g1, g2, g3⟩ := h
  exact ⟨a', i', ns, by rw [upd_ne np.1.symm]; exact g1, by rw [upd_ne np.2.symm]; exact g2, g3⟩
/-- [path for path in rows if ..] -/
theorem keys_comp {H : Hp} {dd : Addr} {kvs : List (List L2.Key × V)} {x : List Stm} {Q : VK} {tt : TT} {b : List Int × Stm → Bool} {v0 v1 v2 v3 v4 v6 v7 v8 v9 v10 v11 v12 v13 v14 : Option V}
    (hD : H dd = some (.dT kvs)) (kv : KvL H kvs (rowsL [] 0 x)) (rn : (rowsL [] 0 x).length ≤ 900)
    (turn : ∀ (H' : Hp) (od : Obj) (i : Nat) (r : List Int × Stm) (vv : V) (qa : Addr) (R : Bool → Hp → Prop), (rowsL [] 0 x)[i]? = some r → H' qa = some (.tup (r.1.map V.int)) → DGet H' dd (.ref qa) (some vv) → Td H' vv r.2.toD →
      (∀ a xs, H a = some (.lst xs) → H' a = some (.lst xs)) → TK H H' → R (b r) H' → tt [v0, v1, v2, v3, v4, some (.ref dd), v6, v7, v8, v9, v10, v11, v12, some (.ref qa), v14] H' R)
    (k : ∀ D acc, H D = none → Paired (PathV (upd H D (.lst acc))) acc ((rowsL [] 0 x).filter b) → Q (.ref D) (upd H D (.lst acc))) :
    tLockE (tLc (iKeys (tVar 5)) (gName 13) tt (tVar 13) [13]) [v0, v1, v2, v3, v4, some (.ref dd), v6, v7, v8, v9, v10, v11, v12, v13, v14] H Q := by
  have nK := kv.nodup (rowsL_nd x [] 0)
  have lK : kvs.length = (rowsL [] 0 x).length := Paired.length kv
  refine ⟨dd, .dT kvs, hD, trivial, fun od => ?_⟩
  refine ⟨_, rfl, dd, od, rfl, .inr ⟨kvs, upd_same, fun D nD => ?_⟩⟩
  have tk0 : TK H (upd H dd (.frz od (.dT kvs))) := fun b xs z => by rw [upd_ne (ne_of z hD (by intro q; cases q))]; exact z
  have lk0 : ∀ a xs, H a = some (.lst xs) → upd H dd (.frz od (.dT kvs)) a = some (.lst xs) := fun b xs z => by rw [upd_ne (ne_of z hD (by intro q; cases q))]; exact z
  have kvl : KvL (upd H dd (.frz od (.dT kvs))) kvs (rowsL [] 0 x) := kv.mono tk0
  have hdl : upd H dd (.frz od (.dT kvs)) dd = some (.frz od (.dT kvs)) := upd_same
  refine lc_it walk_keysT (fun k H' => ∃ acc, H' = upd (upd H dd (.frz od (.dT kvs))) D (.lst acc) ∧ acc.length ≤ k ∧ Paired (PathV (upd H dd (.frz od (.dT kvs)))) acc (((rowsL [] 0 x).take k).filter b))
    ⟨[], rfl, Nat.le_refl _, .nil⟩ (fun k H' _ ⟨acc, e, _⟩ => by rw [e]; exact same_upd nD _ _ hdl) ?_ ?_
  · rintro k v H' H'' hk ⟨acc, rfl, hal, hacc⟩ hy
    obtain ⟨e, ky, vv, qa, hkv, ez, hq⟩ := hy
    subst e ez
    have sL := same_upd (o := .lst acc) nD
    obtain ⟨r, er, hk1, tv⟩ := kvl.at' hkv
    have hk1 : ky = kI r.1 := hk1
    subst hk1
    have tv2 := tv.mono (TK.same sL)
    have qD : qa ≠ D := ne_of hq (show upd (upd H dd (.frz od (.dT kvs))) D (.lst acc) D = some (.lst acc) from upd_same) (by intro z; cases z)
    have hq1 : upd (upd H dd (.frz od (.dT kvs))) D (.lst acc) qa = some (.tup (r.1.map V.int)) := by rw [hq, kI_v]
    have hq2 : upd H dd (.frz od (.dT kvs)) qa = some (.tup (r.1.map V.int)) := by
      rw [upd_ne qD] at hq1
      exact hq1
    refine ⟨rfl, turn _ od k r vv qa _ er hq1 (.inr ⟨kvs, kI r.1, qa, .inr ⟨od, sL _ _ hdl⟩, rfl, hq, (valV_at nK hkv).symm⟩) tv2 (fun a xs z => sL _ _ (lk0 a xs z)) (fun a xs z => sL _ _ (tk0 a xs z)) ?_⟩
    by_cases c : b r = true
    · rw [if_pos c]
      refine ⟨_, rfl, acc, upd_same, small1000 (by omega), acc ++ [.ref qa], by rw [upd_upd], by simp; omega, ?_⟩
      rw [filter_at er, if_pos c]
      exact paired_snoc ⟨qa, rfl, hq2⟩ hacc
    · rw [if_neg c]
      refine ⟨acc, rfl, by omega, ?_⟩
      rw [filter_at er, if_neg c, List.append_nil]
      exact hacc
  · rintro H' ⟨acc, rfl, hal, hacc⟩
    rw [lK, List.take_length] at hacc
    have nd2 : dd ≠ D := ne_of_none hdl nD
    have nHC : H D = none := by rw [upd_ne (fun e => nd2 e.symm)] at nD; exact nD
    have eqH : upd (upd (upd H dd (.frz od (.dT kvs))) D (.lst acc)) dd (.dT kvs) = upd H D (.lst acc) := by
      funext b
      by_cases hb : b = dd
      · subst hb
        rw [upd_same, upd_ne nd2]
        exact hD.symm
      · rw [upd_ne hb]
        by_cases hb2 : b = D
        · subst hb2
          rw [upd_same, upd_same]
        · rw [upd_ne hb2, upd_ne hb2, upd_ne hb]
    refine ⟨by rw [upd_ne nd2]; exact hdl, ?_⟩
    rw [eqH]
    refine k D acc nHC (Paired.mapP hacc fun _ r ⟨tp, e1, e2⟩ => ⟨tp, e1, ?_⟩)
    have hne : tp ≠ dd := fun h => by
      subst h
      rw [hdl] at e2
      cases e2
    rw [upd_ne hne] at e2
    exact same_upd nHC _ _ e2
/-- [y for y in a list if a draw is 0] -/
theorem draw_list {p q l : Addr} {xs : List V} {H : Hp} {Q : VK} {v0 v2 v3 v4 v5 v7 v8 v9 v10 v11 v12 v13 v14 : Option V} (hl : H l = some (.lst xs)) (npl : l ≠ p ∧ l ≠ q) (hx : xs.length ≤ 900) (hs : HS H p q)
    (k : ∀ D ys H', ys.Sublist xs → HS H' p q → Keep p q H H' → H D = none → H' D = some (.lst ys) → Q (.ref D) H') :
    tLc (iList K (tVar 6)) (gName 13) (tTest (tOp rEq (tCall spNext [] E0 (tCons (tVar 1) (tCons (tC (.int 2)) tNil))) (tC (.int 0)))) (tVar 13) [13] [v0, some (.ref p), v2, v3, v4, v5, some (.ref l), v7, v8, v9, v10, v11, v12, v13, v14] H Q := by
  refine ⟨_, rfl, l, rfl, ⟨_, SqL.of hl⟩, fun D nD => ?_⟩
  have sD := same_upd (o := .lst []) nD
  have npD := hs.np nD
  have lD : l ≠ D := ne_of_none hl nD
  refine lc_list (K := K) (a := l) (xs := xs) (fun i H' => HS H' p q ∧ H' l = some (.lst xs) ∧ Keep p q H H' ∧ ∃ ys : List V, H' D = some (.lst ys) ∧ ys.Sublist (xs.take i))
    ⟨hs.same sD, sD _ _ hl, Keep.of sD, [], upd_same, List.nil_sublist _⟩ (fun i H' _ ⟨_, e, _⟩ => SqL.of e) ?_ ?_
  · rintro i x H' hx' ⟨hH', ht', kD, ks, hD, hsub⟩
    have hi := (List.getElem?_eq_some_iff.mp hx').1
    refine ⟨rfl, _, rfl, p, q, 2, rfl, by decide, by decide, hH', fun v H2 v0 v1 hH2 k2 => ?_⟩
    have ht2 := k2 _ _ ht' npl.1 npl.2
    have hD2 := k2 _ _ hD npD.1 npD.2
    refine ⟨rfl, _, rfl, ite2 (fun _ => ?_) (fun _ => ?_)⟩
    · have lk : ks.length ≤ 900 := Nat.le_trans hsub.length_le (by rw [List.length_take]; omega)
      refine ⟨_, rfl, _, hD2, small1000 (by omega), hs_lst hH2 npD, by rw [upd_ne lD]; exact ht2, ?_, ks ++ [x], upd_same, ?_⟩
      · intro b o e h1 h2
        rw [upd_ne (ne_of_none e nD)]
        exact k2 _ _ (kD _ _ e h1 h2) h1 h2
      · rw [take_at hx']
        exact hsub.append (List.Sublist.refl _)
    · refine ⟨hH2, ht2, kD.trans k2, ks, hD2, hsub.trans ?_⟩
      rw [take_at hx']
      exact List.sublist_append_left _ _
  · rintro H2 ⟨hH2, ht2, kD, ks, hD, hsub⟩
    rw [List.take_length] at hsub
    exact k D ks H2 hsub hH2 kD nD hD
/-- [name for name in a program's lists if a draw is 0] -/
theorem draw_names {p q tl t : Addr} {names : List Str} {u v : V} {H : Hp} {Q : VK} {v0 v2 v4 v5 v6 v7 v8 v9 v10 v11 v12 v13 v14 : Option V} (hT : ∀ H', Same H H' ∨ (HS H' p q ∧ Keep p q H H') → H' t = some (.tup [.ref tl, u, v])) (hl : TupX K H tl (names.map V.str)) (hx : names.length ≤ 900) (hs : HS H p q)
    (k : ∀ D (ys : List Str) H', ys.Sublist names → HS H' p q → Keep p q H H' → H D = none → H' D = some (.lst (ys.map V.str)) → Q (.ref D) H') :
    tLc (iTup K (tOp (rIxT K) (tVar 3) (tC (.int 0)))) (gName 14) (tTest (tOp rEq (tCall spNext [] E0 (tCons (tVar 1) (tCons (tC (.int 2)) tNil))) (tC (.int 0)))) (tVar 14) [14] [v0, some (.ref p), v2, some (.ref t), v4, v5, v6, v7, v8, v9, v10, v11, v12, v13, v14] H Q := by
  refine ⟨_, rfl, t, _, 0, _, rfl, rfl, .inl (.inl (hT H (.inl fun _ _ e => e))), rfl, tl, rfl, ⟨_, hl.sq⟩, fun D nD => ?_⟩
  have sD := same_upd (o := .lst []) nD
  have npD := hs.np nD
  refine lc_tup (K := K) (a := tl) (xs := names.map V.str) (fun i H' => HS H' p q ∧ TupX K H' tl (names.map V.str) ∧ Keep p q H H' ∧ ∃ ys : List Str, H' D = some (.lst (ys.map V.str)) ∧ ys.Sublist (names.take i))
    ⟨hs.same sD, hl.same sD, Keep.of sD, [], upd_same, List.nil_sublist _⟩ (fun i H' _ ⟨_, e, _⟩ => e.sq) ?_ ?_
  · rintro i x H' hx' ⟨hH', ht', kD, ks, hD, hsub⟩
    rw [List.getElem?_map] at hx'
    cases en : names[i]? with
    | none => rw [en] at hx'; cases hx'
    | some nm =>
      rw [en] at hx'
      cases hx'
      have hi := (List.getElem?_eq_some_iff.mp en).1
      refine ⟨rfl, _, rfl, p, q, 2, rfl, by decide, by decide, hH', fun v H2 v0 v1 hH2 k2 => ?_⟩
      have ht2 := ht'.keep hH' k2
      have hD2 := k2 _ _ hD npD.1 npD.2
      refine ⟨rfl, _, rfl, ite2 (fun _ => ?_) (fun _ => ?_)⟩
      · have lk : ks.length ≤ 900 := Nat.le_trans hsub.length_le (by rw [List.length_take]; omega)
        refine ⟨_, rfl, _, hD2, (by rw [List.length_map]; exact small1000 (by omega)), hs_lst hH2 npD, ?_, ?_, ks ++ [nm], ?_, ?_⟩
        · rcases ht2 with ⟨ob, e, d⟩ | h
          · exact .inl ⟨ob, by rw [upd_ne (ne_of e hD2 (by intro z; cases z))]; exact e, d⟩
          · exact .inr h
        · intro b o e h1 h2
          rw [upd_ne (ne_of_none e nD)]
          exact k2 _ _ (kD _ _ e h1 h2) h1 h2
        · rw [upd_same, List.map_append]
          rfl
        · rw [take_at en]
          exact hsub.append (List.Sublist.refl _)
      · refine ⟨hH2, ht2, kD.trans k2, ks, hD2, hsub.trans ?_⟩
        rw [take_at en]
        exact List.sublist_append_left _ _
  · rintro H2 ⟨hH2, ht2, kD, ks, hD, hsub⟩
    rw [List.length_map, List.take_length] at hsub
    exact k D ks H2 hsub hH2 kD nD hD
/-- tuple([name for name in a program's lists if name in its kept or name in a list]) -/
theorem kept_comp {tl tk t l : Addr} {names kept ls : List Str} {u : V} {H : Hp} {Q : VK} {v0 v1 v2 v4 v5 v6 v7 v9 v10 v11 v12 v13 v14 : Option V} (ht : H t = some (.tup [.ref tl, u, .ref tk])) (hL : TupX K H tl (names.map V.str)) (hK : TupX K H tk (kept.map V.str)) (hl : H l = some (.lst (ls.map V.str))) (hx : names.length ≤ 900)
    (k : ∀ D H', Same H H' → H' D = some (.lst ((names.filter fun a => decide (a ∈ kept) || decide (a ∈ ls)).map V.str)) → Q (.ref D) H') :
    tLc (iTup K (tOp (rIxT K) (tVar 3) (tC (.int 0)))) (gName 14) (tOr (tTest (tOp (rIn K false) (tVar 14) (tOp (rIxT K) (tVar 3) (tC (.int 2))))) (tTest (tOp (rIn K false) (tVar 14) (tVar 8)))) (tVar 14) [14] [v0, v1, v2, some (.ref t), v4, v5, v6, v7, some (.ref l), v9, v10, v11, v12, v13, v14] H Q := by
  have hS : SqT K H t [.ref tl, u, .ref tk] := .inl (.inl ht)
  refine ⟨_, rfl, t, _, 0, _, rfl, rfl, hS, rfl, tl, rfl, ⟨_, hL.sq⟩, fun D nD => ?_⟩
  refine lc_tup (K := K) (a := tl) (xs := names.map V.str) (fun i H' => H' = upd H D (.lst (((names.take i).filter fun a => decide (a ∈ kept) || decide (a ∈ ls)).map V.str)))
    rfl (fun i H' _ e => by rw [e]; exact (hL.same (same_upd nD)).sq) ?_ ?_
  · rintro i x H' hx' rfl
    rw [List.getElem?_map] at hx'
    cases en : names[i]? with
    | none => rw [en] at hx'; cases hx'
    | some nm =>
      rw [en] at hx'
      cases hx'
      have hi := (List.getElem?_eq_some_iff.mp en).1
      have sD := same_upd (o := .lst (((names.take i).filter fun a => decide (a ∈ kept) || decide (a ∈ ls)).map V.str)) nD
      have flat : ∀ ys : List Str, (ys.map V.str).all flatV = true := fun ys => List.all_eq_true.mpr fun z hz => by
        obtain ⟨y, _, rfl⟩ := List.mem_map.mp hz
        rfl
      have hl1 := sD _ _ hl
      have hS1 := sqT_same' hS sD
      have hK1 := (hK.same sD).sq
      have lk : ((names.take i).filter fun a => decide (a ∈ kept) || decide (a ∈ ls)).length ≤ 900 := Nat.le_trans (List.length_filter_le _ _) (by rw [List.length_take]; omega)
      have put : ∀ c : Bool, c = (decide (nm ∈ kept) || decide (nm ∈ ls)) → (if c = true then tVar 14 [v0, v1, v2, some (.ref t), v4, v5, v6, v7, some (.ref l), v9, v10, v11, v12, v13, some (.str nm)] (upd H D (.lst (((names.take i).filter fun a => decide (a ∈ kept) || decide (a ∈ ls)).map V.str))) fun y H4 => ∃ acc, H4 D = some (.lst acc) ∧ acc.length < sizeLine ∧ upd H4 D (.lst (acc ++ [y])) = upd H D (.lst (((names.take (i + 1)).filter fun a => decide (a ∈ kept) || decide (a ∈ ls)).map V.str))
          else upd H D (.lst (((names.take i).filter fun a => decide (a ∈ kept) || decide (a ∈ ls)).map V.str)) = upd H D (.lst (((names.take (i + 1)).filter fun a => decide (a ∈ kept) || decide (a ∈ ls)).map V.str))) := fun c e => by
        cases c with
        | true =>
          rw [if_pos rfl]
          refine ⟨_, rfl, _, upd_same, (by rw [List.length_map]; exact small1000 (by omega)), ?_⟩
          rw [upd_upd, filter_at en, if_pos e.symm, List.map_append]
          rfl
        | false =>
          rw [if_neg (by decide), filter_at en, if_neg (by rw [← e]; decide), List.append_nil]
      refine ⟨rfl, _, rfl, _, rfl, t, _, 2, _, rfl, rfl, hS1, rfl, tk, _, rfl, .inr hK1, rfl, flat _, _, rfl, ?_⟩
      show if inV (.str nm) (kept.map V.str) = true then _ else _
      rw [inV_str]
      by_cases c : nm ∈ kept
      · rw [if_pos (decide_eq_true c)]
        exact put true (by rw [decide_eq_true c]; rfl)
      · rw [if_neg (by rw [decide_eq_false c]; decide)]
        refine ⟨_, rfl, _, rfl, l, _, rfl, .inl (SqL.of hl1), rfl, flat _, _, rfl, ?_⟩
        show if inV (.str nm) (ls.map V.str) = true then _ else _
        rw [inV_str]
        exact put (decide (nm ∈ ls)) (by rw [decide_eq_false c]; rfl)
  · rintro H' rfl
    rw [List.length_map, List.take_length]
    exact k D _ (same_upd nD) upd_same
end
end W1
end
section
set_option linter.all false
set_option maxRecDepth 100000
set_option maxHeartbeats 8000000
/-! Z6b: facts about drawn paths and lists -/
namespace W1
open PySem L2 Cm
theorem send_row {x : List Stm} {r : List Int × Stm} (h : r ∈ rowsL [] 0 x) : isSend x r.1 = decide (r.2.word = "send") := by
  have : foundAt x r.1 = some r.2 := found_iff.mpr h
  unfold isSend
  rw [this]
theorem send_none {x : List Stm} {p : List Int} (h : ¬ ∃ s, (p, s) ∈ rowsL [] 0 x) : isSend x p = false := by
  unfold isSend
  cases e : foundAt x p with
  | none => rfl
  | some s => exact absurd ⟨s, found_iff.mp e⟩ h
theorem send_nil {x : List Stm} : isSend x [] = false := send_none fun ⟨s, h⟩ => (at_s (q := []) (by simpa using h) : AtS x [] s).elim
theorem send_far {x : List Stm} {k : Nat} (h : x.length ≤ k) : isSend x [(k : Int)] = false := send_none fun ⟨s, h'⟩ => by
  obtain ⟨j, e, ex⟩ := (at_s (q := []) (by simpa using h') : AtS x [(k : Int)] s)
  have := (List.getElem?_eq_some_iff.mp ex).1
  omega
def sendB (r : List Int × Stm) : Bool := decide (r.2.word = "send")
def sends (x : List Stm) : List (List Int) := ((rowsL [] 0 x).filter sendB).map (·.1)
theorem sends_all {x : List Stm} {p : List Int} (h : p ∈ sends x) : isSend x p = true := by
  obtain ⟨r, hr, rfl⟩ := List.mem_map.mp h
  obtain ⟨h1, h2⟩ := List.mem_filter.mp hr
  rw [send_row h1]
  exact h2
theorem others_none {x : List Stm} {r : List Int × Stm} (h : r ∈ rowsL [] 0 x) (hn : r.1 ∉ sends x) : isSend x r.1 = false := by
  rw [send_row h]
  by_cases c : r.2.word = "send"
  · exact absurd (List.mem_map.mpr ⟨r, List.mem_filter.mpr ⟨h, decide_eq_true c⟩, rfl⟩) hn
  · exact decide_eq_false c
theorem sends_rows {x : List Stm} {p : List Int} (h : p ∈ sends x) : ∃ r ∈ rowsL [] 0 x, r.1 = p := by
  obtain ⟨r, hr, rfl⟩ := List.mem_map.mp h
  exact ⟨r, (List.mem_filter.mp hr).1, rfl⟩
/-- every keyed path is one of a send -/
theorem sends_key {x : List Stm} {ps : List (List Int)} (h : ps.Sublist (sends x)) : ∀ r ∈ rowsL [] 0 x, r.1 ∈ ps → r.2.word = "send" := fun r hr hp => by
  have := sends_all (h.subset hp)
  rw [send_row hr] at this
  exact of_decide_eq_true this
theorem lists_sub {names ls : List Str} (nd : names.Nodup) (h : ls.Sublist names) : listsOk names ls = true := by
  unfold listsOk
  rw [all_and, ← nodup_count, Bool.and_eq_true, decide_eq_true_iff, List.all_eq_true]
  exact ⟨fun a ha => decide_eq_true (h.subset ha), nd.sublist h⟩
theorem lists_far {names ls : List Str} {a : Str} (h : a ∉ names) : listsOk names (ls ++ [a]) = false := by
  unfold listsOk
  rw [List.all_append, List.all_cons, decide_eq_false h]
  simp
theorem lists_twice {names : List Str} {a : Str} : listsOk names [a, a] = false := by
  unfold listsOk
  rw [List.all_cons, show decide (List.count a [a, a] = 1) = false from decide_eq_false (by rw [List.count_cons_self, List.count_cons_self, List.count_nil]; decide)]
  simp
theorem kept_two {names kept ls : List Str} : keptOf names (kept ++ ls.filter fun a => !decide (a ∈ kept)) = names.filter fun a => decide (a ∈ kept) || decide (a ∈ ls) := by
  unfold keptOf
  refine List.filter_congr fun a _ => ?_
  by_cases h1 : a ∈ kept
  · simp [h1]
  · by_cases h2 : a ∈ ls
    · simp [h1, h2]
    · simp [h1, h2]
theorem lost_out {names : List Str} (h : NamesOk names) : ("lost" : Str) ∉ names := fun hm => by
  exact lost_not (h.2.2 _ hm)
end W1
namespace W1
open PySem L2 Cm
theorem seq_asg {te : TE} {g : TG} {t : TS} {D : Ends} {σ : L2.St} {H : Hp} (h : te σ H fun x H1 => g x σ H1 (t D)) : tSeq (tAsg te g) t D σ H := h
theorem cb_one {r : List V → Hp → VK → Prop} {te : TE} {σ : L2.St} {H : Hp} {Q : VK} (h : te σ H fun v H1 => r [v] H1 Q) : tCB r (tCons te tNil) σ H Q := h
theorem drw_p9 {names kept : List Str} {x : List Stm} (d : Drw names kept x) {r : List Int × Stm} (hr : r ∈ rowsL [] 0 x) : r.1.length ≤ 9 := by
  have := (wfs_rows x 3 [] 0 d.w r hr).1
  simp only [List.length_nil] at this
  omega
theorem notin_pths {K : PySem.W.Frag} {H : Hp} {Q : VK} {tp lp : Addr} {p : List Int} {vps : List V} {ps : List (List Int)} (ht : SqT K H tp (p.map V.int)) (hl : H lp = some (.lst vps)) (hp : Paired (PthV H) vps ps) (k : Q (.bl (!decide (p ∈ ps))) H) : rNotInD K (.ref tp) (.ref lp) H Q :=
  ⟨_, _, .tup ht (dp_ints p), .lst (SqL.of hl) (dp_pths hp), shaped_pth p, shaped_pths ps, by rw [any_pths]; exact k⟩
end W1
end
section
set_option linter.all false
set_option maxRecDepth 100000
set_option maxHeartbeats 8000000
/-! Z6: the law -/
namespace Cm
open PySem L2
section
variable {X : Cx} {K : PySem.W.Frag}
theorem op_neDK (hK : X.K = K) (hu : X.A.units + 64 < cLine) : OpR X (compareOp .NotEq) (rNeD K) := by
  subst hK
  exact op_neD hu
theorem op_notInDK (hK : X.K = K) (hu : X.A.units + 65 < cLine) : OpR X (compareOp .NotIn) (rNotInD K) := by
  subst hK
  exact op_notInD hu
end
end Cm
namespace W1
open PySem L2 Cm
structure Lw (K : PySem.W.Frag) (mg : Str → Option Value) (CP fI fE : Addr) (fdI fdE : FuncData) : Prop where
  gP : mg "Program" = some (.ref CP)
  mkP : Mk K CP fI
  bI : Binds K fdI ["self", "lists", "block", "kept"] []
  eq : PySem.W.findIn K (.ref CP) "__eq__" = some (some (.ref fE))
  eqf : PySem.W.isFn K (.ref fE) = true
  bE : Binds K fdE ["self", "other"] []
  nft : PySem.W.notFirst K CP (.type "tuple") = true
section
variable {P : Program} {w : World} {K : PySem.W.Frag} {mg : Str → Option Value} {base : Heap}
def spLaw (K : PySem.W.Frag) : Sp := fun vs H Q _ => ∃ (a : Addr) (ns : List Int), vs = [.ref a] ∧ ns.length ≤ 63 ∧ SqL K H a (ns.map V.int) ∧ ∀ H', Q (.bl true) H'
abbrev lawN : List Str := ["_law_script", "_law_h", "_law_turn", "_law_made", "_law_program_here", "_law_rows_here", "_law_sends", "_law_paths", "_law_lists_here", "_law_found", "_law_kept", "_law_others", "_law_wrong", "_law_path", "_law_name"]
theorem ok_law {CP CL CB : Addr} {f fMx fN fP fT fR fY : Addr} {fd fdMx fdN fdP fdT fdR fdY : FuncData} {fI fE : Addr} {fdI fdE : FuncData} (F : Fun K "law" "law" s_law f fd) (T : Bi mg) (PC : PCls K CP) (Y : Lw K mg CP fI fE fdI fdE)
    (Mx : Dn K mg "_law_mix" s_law_mix ["_law_script", "_law_seed"] fMx fdMx) (N : Dn K mg "_law_next" s_law_next ["_law_h", "_law_cap"] fN fdN) (Pg : Dn K mg "_law_program" s_law_program ["_law_h", "_law_most"] fP fdP) (To : Dn K mg "_law_told" s_law_told ["_law_program_here", "_law_paths", "_law_lists_here"] fT fdT)
    (Rw : Dn K mg "_law_rows" s_law_rows ["_law_block_here", "_law_path"] fR fdR) (Ky : Dn K mg "_law_keyed" s_law_keyed ["_law_block_here", "_law_path", "_law_paths"] fY fdY)
    (GP : FnOk P w K mg base CX0 9 fP fdP ["_law_h", "_law_most"] (spProgram K)) (GT : Em.FnOk2 P w K mg base 18 fT fdT ["_law_program_here", "_law_paths", "_law_lists_here"] (spTold K CP)) (GI : Em.FnOk2 P w K mg base 14 fI fdI ["self", "lists", "block", "kept"] (spPInit K CP CL CB))
    (GE : FnOk P w K mg base CX0 1 fE fdE ["self", "other"] (spPEq K CP)) (GR : FnOk P w K mg base CX0 7 fR fdR ["_law_block_here", "_law_path"] (spLRows 5 K)) (GY : FnOk P w K mg base CX0 7 fY fdY ["_law_block_here", "_law_path", "_law_paths"] (spKeyed 5 K)) : Em.FnOk2 P w K mg base 19 f fd ["_law_script"] (spLaw K) := by
  have GM : FnOk P w K mg base CX0 1 fMx fdMx ["_law_script", "_law_seed"] (spMix K) := ok_mix Mx.F T
  have GN : FnOk P w K mg base CX0 1 fN fdN ["_law_h", "_law_cap"] spNext := ok_next N.F T
  have nd := sc_law.nd
  refine fun2 F sc_law (fun vs H Q E h => ?_) (fun cdv A outer s H vs Q E Po hr h => ?_)
  · obtain ⟨a, ns, rfl, _⟩ := h
    rfl
  · obtain ⟨a, ns, rfl, hl, hS, kk⟩ := h
    have hr1 : Room 1 (A.deeper (PyProof.Rows.envOfC "law" (defScope s_law) s.heap.objs.size f cdv)) := hr.mono (by decide)
    have hr7 : Room 7 (A.deeper (PyProof.Rows.envOfC "law" (defScope s_law) s.heap.objs.size f cdv)) := hr.mono (by decide)
    have hr9 : Room 9 (A.deeper (PyProof.Rows.envOfC "law" (defScope s_law) s.heap.objs.size f cdv)) := hr.mono (by decide)
    have hu65 : (A.deeper (PyProof.Rows.envOfC "law" (defScope s_law) s.heap.objs.size f cdv)).units + 65 < cLine := by have := hr.un; omega
    have hr15 : Room 15 (A.deeper (PyProof.Rows.envOfC "law" (defScope s_law) s.heap.objs.size f cdv)) := hr.mono (by decide)
    refine ⟨_, Em.pss2_cons (Em.ps2_of fun _ => ps_set (i := 1) nd rfl (Or.inr rfl) (pe_call GM hr1 (by rfl) Mx.g Mx.F.kp Mx.b .nil pass0 (pa_cons (pv 0) (pa_cons pe_int pa_nil))))
      (Em.pss2_cons (Em.ps2_for ⟨rfl, rfl⟩ rfl (fun _ => pi_range1 (by rfl) T.range (pa_cons pe_int pa_nil)) (fun _ => pg_name (i := 2) nd rfl (Or.inl rfl)) (fun Z hZ =>
          Em.pss2_cons (Em.ps2_of fun _ => ps_set (i := 3) nd rfl (Or.inr rfl) (pe_call GP hr9 (by rfl) Pg.g Pg.F.kp Pg.b .nil pass0 (pa_cons (pv 1) (pa_cons pe_int pa_nil))))
          (Em.pss2_cons (Em.ps2_asg (g := gTup K 2 _) (Em.pe2_tup (Em.pa2_cons (Em.pe2_make Y.mkP GI hr15 (by rfl) Y.gP Y.bI .nil ⟨rfl, rfl⟩ (fun _ _ _ _ h => h)
                (Em.pa2_cons (Em.pe2_of fun _ => pe_ix (r := rIxT K) ix_tup (pv 3) pe_int (fun _ _ => rfl)) (Em.pa2_cons (Em.pe2_of fun _ => pe_ix (r := rIxT K) ix_tup (pv 3) pe_int (fun _ _ => rfl)) (Em.pa2_cons (Em.pe2_of fun _ => pe_ix (r := rIxT K) ix_tup (pv 3) pe_int (fun _ _ => rfl)) Em.pa2_nil))))
              (Em.pa2_cons (Em.pe2_of fun _ => pe_call GR hr7 (by rfl) Rw.g Rw.F.kp Rw.b .nil pass0 (pa_cons (pe_ix (r := rIxT K) ix_tup (pv 3) pe_int (fun _ _ => rfl)) (pa_cons (pe_tup pa_nil) pa_nil))) Em.pa2_nil)))
            (fun _ => pg_tup (by rfl) (pgs_cons (pg_name (i := 4) nd rfl (Or.inl rfl)) (pgs_cons (pg_name (i := 5) nd rfl (Or.inr rfl)) pgs_nil))))
          (Em.pss2_cons (Em.ps2_of fun _ => ps_set (i := 6) nd rfl (Or.inr rfl) (pe_lock (pe_lc (wi := iKeys _) (own := [("_law_path", 13)]) (g := gName 13) (by rfl) nd (pi_keys (pv 5))
                  (blkOk_by (own := [("_law_path", 13)]) (N := lawN) (sc := defScope s_law) (by decide +kernel)) (fun _ _ _ _ _ => pg_name (i := 13) nd rfl (Or.inl rfl))
                  (fun _ _ _ _ _ => pts_one (pt_cmpR op_eq (pe_ix (r := rIxT K) ix_tup (pe_dget (hu_of hr) (pv 5) (pv 13) (fun _ _ => rfl)) pe_int (fun _ _ => rfl)) pe_str (nomark _))) (fun _ _ _ _ _ => pv 13))))
          (Em.pss2_cons (Em.ps2_of fun _ => ps_setLc (i := 7) (own := [("_law_path", 13)]) (g := gName 13) (wi := iList K _) (by rfl) nd rfl rfl (sw_true rfl rfl rfl (by decide +kernel)) (pi_list (pv 6))
                  (blkOk_by (own := [("_law_path", 13)]) (N := lawN) (sc := defScope s_law) (by decide +kernel)) (fun _ _ _ _ _ => pg_name (i := 13) nd rfl (Or.inl rfl))
                  (fun _ _ _ _ _ => pts_one (pt_cmpR op_eq (pe_call GN hr1 (by rfl) N.g N.F.kp N.b .nil pass0 (pa_cons (pv 1) (pa_cons pe_int pa_nil))) pe_int (nomark _))) (fun _ _ _ _ _ => pv 13))
          (Em.pss2_cons (Em.ps2_of fun _ => ps_set (i := 8) nd rfl (Or.inr rfl) (pe_lc (own := [("_law_name", 14)]) (g := gName 14) (wi := iTup K _) (by rfl) nd (pi_tup (pe_ix (r := rIxT K) ix_tup (pv 3) pe_int (fun _ _ => rfl)))
                  (blkOk_by (own := [("_law_name", 14)]) (N := lawN) (sc := defScope s_law) (by decide +kernel)) (fun _ _ _ _ _ => pg_name (i := 14) nd rfl (Or.inl rfl))
                  (fun _ _ _ _ _ => pts_one (pt_cmpR op_eq (pe_call GN hr1 (by rfl) N.g N.F.kp N.b .nil pass0 (pa_cons (pv 1) (pa_cons pe_int pa_nil))) pe_int (nomark _))) (fun _ _ _ _ _ => pv 14)))
          (Em.pss2_cons (Em.ps2_set (i := 9) nd rfl (Or.inl rfl) (Em.pe2_call GT hr (by rfl) To.g To.F.kp To.b .nil ⟨rfl, rfl⟩ (fun _ _ _ _ h => h) (Em.pa2_cons (Em.pe2_of fun _ => pv 4) (Em.pa2_cons (Em.pe2_of fun _ => pv 7) (Em.pa2_cons (Em.pe2_of fun _ => pv 8) Em.pa2_nil)))))
          (Em.pss2_cons (Em.ps2_of fun _ => ps_set (i := 10) nd rfl (Or.inl rfl) (pe_callTy (call_tupFK (K := K) rfl) (by rfl) T.tuple (by decide +kernel) (pa_cons (pe_lc (own := [("_law_name", 14)]) (g := gName 14) (wi := iTup K _) (by rfl) nd (pi_tup (pe_ix (r := rIxT K) ix_tup (pv 3) pe_int (fun _ _ => rfl)))
                  (blkOk_by (own := [("_law_name", 14)]) (N := lawN) (sc := defScope s_law) (by decide +kernel)) (fun _ _ _ _ _ => pg_name (i := 14) nd rfl (Or.inl rfl))
                  (fun _ _ _ _ _ => pts_one (PW.pt (pw_or (pt_cmpR (r := rIn K false) op_in_seq (pv 14) (pe_ix (r := rIxT K) ix_tup (pv 3) pe_int (fun _ _ => rfl)) (by rfl)) (pw_or1 (pt_cmpR (r := rIn K false) op_in_seq (pv 14) (pv 8) (by rfl)))))) (fun _ _ _ _ _ => pv 14)) pa_nil)))
          (Em.pss2_cons (Em.ps2_ifB (Em.pt2_not (Em.pt2_cmp (r := rCmp CP (spPEq K CP) E0) (fun _ => op_cmpIns GE Y.eq Y.eqf Y.bE Y.nft hr1 pass0) (Em.pe2_of fun _ => pv 9) (Em.pe2_make Y.mkP GI hr15 (by rfl) Y.gP Y.bI .nil ⟨rfl, rfl⟩ (fun _ _ _ _ h => h)
                    (Em.pa2_cons (Em.pe2_of fun _ => pe_ix (r := rIxT K) ix_tup (pv 3) pe_int (fun _ _ => rfl)) (Em.pa2_cons (Em.pe2_of fun _ => pe_call GY hr7 (by rfl) Ky.g Ky.F.kp Ky.b .nil pass0 (pa_cons (pe_ix (r := rIxT K) ix_tup (pv 3) pe_int (fun _ _ => rfl)) (pa_cons (pe_tup pa_nil) (pa_cons (pv 7) pa_nil))))
                      (Em.pa2_cons (Em.pe2_of fun _ => pv 10) Em.pa2_nil)))) (nomark _))) (Em.pss2_one (Em.ps2_ret (Em.pe2_of fun _ => pe_bl))) Em.pss2_nil)
          (Em.pss2_cons (Em.ps2_of fun _ => ps_set (i := 11) nd rfl (Or.inl rfl) (pe_op op_cat (pe_lock (pe_lc (wi := iKeys _) (own := [("_law_path", 13)]) (g := gName 13) (by rfl) nd (pi_keys (pv 5))
                  (blkOk_by (own := [("_law_path", 13)]) (N := lawN) (sc := defScope s_law) (by decide +kernel)) (fun _ _ _ _ _ => pg_name (i := 13) nd rfl (Or.inl rfl))
                  (fun _ _ _ _ _ => pts_one (pt_cmpR (op_notInDK (K := K) rfl hu65) (pv 13) (pv 6) (by rfl))) (fun _ _ _ _ _ => pv 13)))
                (pe_lst (pa_cons (pe_tup (pa_cons pe_int pa_nil)) (pa_cons (pe_tup pa_nil) pa_nil)))))
          (Em.pss2_cons (Em.ps2_of fun _ => ps_set (i := 12) nd rfl (Or.inl rfl) (pe_ix (r := rIxL K) ix_list (pv 11) (pe_call GN hr1 (by rfl) N.g N.F.kp N.b .nil pass0 (pa_cons (pv 1) (pa_cons (pe_callB (r := rLenK K) (call_lenK rfl) (by rfl) T.len PySem.boot_len (pa_cons (pv 11) pa_nil)) pa_nil))) (fun _ _ => rfl)))
          (Em.pss2_cons (Em.ps2_ifB (Em.pt2_cmp (r := rNeD K) (fun _ => op_neDK (K := K) rfl hr.units) (Em.pe2_call GT hr (by rfl) To.g To.F.kp To.b .nil ⟨rfl, rfl⟩ (fun _ _ _ _ h => h)
                (Em.pa2_cons (Em.pe2_of fun _ => pv 4) (Em.pa2_cons (Em.pe2_of fun _ => pe_op op_cat (pv 7) (pe_lst (pa_cons (pv 12) (pa_cons (pe_tup (pa_cons pe_int pa_nil)) pa_nil)))) (Em.pa2_cons (Em.pe2_of fun _ => pe_lst (pa_cons pe_str pa_nil)) Em.pa2_nil)))) (Em.pe2_of fun _ => pv 12) (nomark _)) (Em.pss2_one (Em.ps2_ret (Em.pe2_of fun _ => pe_bl))) Em.pss2_nil)
          (Em.pss2_cons (Em.ps2_ifB (Em.pt2_cmp (r := rNe) (fun _ => op_ne) (Em.pe2_call GT hr (by rfl) To.g To.F.kp To.b .nil ⟨rfl, rfl⟩ (fun _ _ _ _ h => h)
                (Em.pa2_cons (Em.pe2_of fun _ => pv 4) (Em.pa2_cons (Em.pe2_of fun _ => pv 7) (Em.pa2_cons (Em.pe2_of fun _ => pe_op op_cat (pv 8) (pe_lst (pa_cons pe_str pa_nil))) Em.pa2_nil)))) (Em.pe2_of fun _ => pe_str) (nomark _)) (Em.pss2_one (Em.ps2_ret (Em.pe2_of fun _ => pe_bl))) Em.pss2_nil)
          (Em.pss2_cons (Em.ps2_ifB (Em.pt2_cmp (r := rNe) (fun _ => op_ne) (Em.pe2_call GT hr (by rfl) To.g To.F.kp To.b .nil ⟨rfl, rfl⟩ (fun _ _ _ _ h => h)
                (Em.pa2_cons (Em.pe2_of fun _ => pv 4) (Em.pa2_cons (Em.pe2_of fun _ => pe_lst pa_nil) (Em.pa2_cons (Em.pe2_of fun _ => pe_lst (pa_cons (pe_ix (r := rIxT K) ix_tup (pe_ix (r := rIxT K) ix_tup (pv 3) pe_int (fun _ _ => rfl)) pe_int (fun _ _ => rfl)) (pa_cons (pe_ix (r := rIxT K) ix_tup (pe_ix (r := rIxT K) ix_tup (pv 3) pe_int (fun _ _ => rfl)) pe_int (fun _ _ => rfl)) pa_nil))) Em.pa2_nil)))) (Em.pe2_of fun _ => pe_str) (nomark _)) (Em.pss2_one (Em.ps2_ret (Em.pe2_of fun _ => pe_bl))) Em.pss2_nil)
          (Em.pss2_one (Em.ps2_ifB (Em.pt2_not (Em.pt2_cmp (r := rCmp CP (spPEq K CP) E0) (fun _ => op_cmpIns GE Y.eq Y.eqf Y.bE Y.nft hr1 pass0) (Em.pe2_of fun _ => pv 4) (Em.pe2_make Y.mkP GI hr15 (by rfl) Y.gP Y.bI .nil ⟨rfl, rfl⟩ (fun _ _ _ _ h => h)
                (Em.pa2_cons (Em.pe2_of fun _ => pe_ix (r := rIxT K) ix_tup (pv 3) pe_int (fun _ _ => rfl)) (Em.pa2_cons (Em.pe2_of fun _ => pe_ix (r := rIxT K) ix_tup (pv 3) pe_int (fun _ _ => rfl)) (Em.pa2_cons (Em.pe2_of fun _ => pe_ix (r := rIxT K) ix_tup (pv 3) pe_int (fun _ _ => rfl)) Em.pa2_nil)))) (nomark _))) (Em.pss2_one (Em.ps2_ret (Em.pe2_of fun _ => pe_bl))) Em.pss2_nil))))))))))))))))
      (Em.pss2_one (Em.ps2_ret (Em.pe2_of fun _ => pe_bl)))), ?_⟩
    refine ⟨_, rfl, a, ns, 20, rfl, hS, hl, by decide, by decide, fun p q H1 hH1 s1 => ?_⟩
    refine ⟨6, rfl, by decide, by decide, ?_⟩
    refine for_range (lo := 0) (n := 6) (fun i σ Hc => ∃ v2 v3 v4 v5 v6 v7 v8 v9 v10 v11 v12 v13 v14, σ = [some (.ref a), some (.ref p), v2, v3, v4, v5, v6, v7, v8, v9, v10, v11, v12, v13, v14] ∧ HS Hc p q) ⟨none, none, none, none, none, none, none, none, none, none, none, none, none, rfl, hH1⟩ ?_ ?_
    · rintro i σ Hc hi ⟨v2, v3, v4, v5, v6, v7, v8, v9, v10, v11, v12, v13, v14, rfl, hHc⟩
      refine ⟨_, rfl, p, q, 10, rfl, hHc, fun names kept x t H3 hN hk hw hz hxl hP hH3 k3 => ?_⟩
      have d : Drw names kept x := ⟨hN, hk, hw, hz, hxl⟩
      clear hk hw hz k3 hHc
      have nm : ∀ a ∈ names, a.length ≤ 1000 := fun a ha => by have := (d.nk a ha).2; omega
      have nl : names.length ≤ 500 := by have := d.good.nl; omega
      have kl : kept.length ≤ 500 := by have := d.good.kl; omega
      have ox := d.okx
      have rn := ox.n
      have fin : fines x := d.good.f
      have dp4 : depths x ≤ 4 := by have := d.good.d; omega
      obtain ⟨tl, tb, tk, ht, hL, hT, hK⟩ := hP.at_
      have hS3 : SqT K H3 t [.ref tl, .ref tb, .ref tk] := .inl (.inl ht)
      refine ⟨_, rfl, t, _, 0, _, rfl, rfl, hS3, rfl, _, rfl, t, _, 1, _, rfl, rfl, hS3, rfl, _, rfl, t, _, 2, _, rfl, rfl, hS3, rfl, fun o dx no ndx ne => ?_⟩
      refine pinit_use no ndx hL hK nm nl kl hT ox (fun _ _ H4 s4 po => ?_) (fun z => by rw [d.are] at z; cases z) (fun _ q' hq => by rw [d.jn] at hq; cases hq)
      rw [d.ko] at po
      have hS4 := sqT_same' hS3 s4
      refine ⟨_, rfl, t, _, 1, _, rfl, rfl, hS4, rfl, by simp, fun e ne' => ?_⟩
      have s5 := same_upd (o := .tup []) ne'
      refine ⟨tb, e, [], x, rfl, (hT.mono (TK.same s4)).mono (TK.same s5), .inl (.inl upd_same), by have := d.good.d; omega, ox.l, ox.s, ox.n, by decide, fun dd kvs H6 s6 nd6 hd6 kv6 => ?_⟩
      have s56 := s5.trans s6
      have S6 : Lst K CP p q t t o dd names kept x names kept x kvs H6 := ⟨(hH3.same s4).same s56, (hP.same s4).same s56, (hP.same s4).same s56, po.same s56, hd6, kv6⟩
      clear hS3 hS4 ht hL hT hK hP hH3 po s5 s6 s56 nd6 ne' no ndx ne s4
      refine ⟨small_le (by simp), fun tt ntt => ?_⟩
      have S7 := S6.same (same_upd (o := .tup [.ref o, .ref dd]) ntt)
      refine ⟨tt, _, rfl, .inl (.inl upd_same), rfl, _, _, rfl, _, _, rfl, rfl, ?_⟩
      generalize upd H6 tt (.tup [.ref o, .ref dd]) = H7 at S7
      clear S6 hd6 kv6
      -- the sends
      refine keys_comp (b := sendB) S7.D S7.kv (by omega) (fun H' od j r vv qa R er hq hg tv hl tk hR => ?_) (fun lsn accs nls haccs => ?_)
      · obtain ⟨asm, zs, l, rfl, hasm, _⟩ := stm_inv tv
        refine ⟨_, rfl, _, rfl, dd, .ref asm, rfl, hg, asm, _, 0, _, rfl, rfl, .inl (.inl hasm), at0, rfl, _, rfl, ?_⟩
        have eas : sendB r = decide (V.str r.2.word = V.str "send") := by
          show decide (r.2.word = "send") = _
          by_cases hz : r.2.word = "send"
          · rw [decide_eq_true hz, decide_eq_true (by rw [hz])]
          · rw [decide_eq_false hz, decide_eq_false (fun e => hz (by injection e))]
        rw [← eas]
        exact hR
      have S8 := S7.same (same_upd (o := .lst accs) nls)
      have hls : upd H7 lsn (.lst accs) lsn = some (.lst accs) := upd_same
      have npl := S7.hs.np nls
      have psn := path_pths haccs
      generalize upd H7 lsn (.lst accs) = H8 at S8 hls haccs psn
      change Paired (PthV H8) accs (sends x) at psn
      have al : accs.length ≤ 500 := by
        have h1 : accs.length = _ := Paired.length haccs
        have h2 : ((rowsL [] 0 x).filter sendB).length ≤ (rowsL [] 0 x).length := List.length_filter_le _ _
        omega
      clear haccs nls S7
      -- the paths
      try dsimp only
      refine seq_asg ?_
      refine draw_list hls npl (by omega) S8.hs (fun lp vps H9 sub hs9 k9 nlp elp => ?_)
      have S9 := S8.keep hs9 k9
      have psn9 := pths_mono (TK.keep S8.hs k9) psn
      have hls9 := k9 _ _ hls npl.1 npl.2
      have nplp := S8.hs.np nlp
      obtain ⟨ps, sps, pps⟩ := sub_paired sub psn9
      have vl : vps.length ≤ 500 := Nat.le_trans sub.length_le al
      clear S8 psn hls k9 nlp
      -- the lists
      obtain ⟨tl, tb, tk, ht, hL, hT, hK⟩ := S9.P.at_
      try dsimp only
      refine seq_asg ?_
      refine draw_names (fun H' h => h.elim (fun s => s _ _ ht) fun h => TK.keep S9.hs h.2 _ _ ht) hL (by omega) S9.hs (fun ll ls H10 subl hs10 k10 nll ell => ?_)
      have S10 := S9.keep hs10 k10
      have psn10 := pths_mono (TK.keep S9.hs k10) psn9
      have npll := S9.hs.np nll
      have pps10 := pths_mono (TK.keep S9.hs k10) pps
      have hls10 := k10 _ _ hls9 npl.1 npl.2
      have elp10 := k10 _ _ elp nplp.1 nplp.2
      clear ht hL hT hK S9 psn9 pps hls9 elp k10
      have sall : ∀ p ∈ ps, isSend x p = true := fun p hp => sends_all (sps.subset hp)
      have lok : listsOk names ls = true := lists_sub d.n.1 subl
      have ll5 : ls.length ≤ 3 := Nat.le_trans subl.length_le (by rcases d.n.2.1 with h | h <;> omega)
      have p9 : ∀ p ∈ ps, p.length ≤ 9 := fun p hp => by
        obtain ⟨r, hr, rfl⟩ := sends_rows (sps.subset hp)
        exact drw_p9 d hr
      have pl : ps.length ≤ 500 := by rw [← Paired.length pps10]; exact vl
      -- told well
      refine ⟨_, rfl, _, rfl, _, rfl, o, lp, ll, names, kept, x, vps, ps, ls, rfl, S10.O, d, elp10, pps10, ell, p9, by omega, fun j p' v _ ej _ hf => ?_, fun _ hb => ?_, fun _ _ => ⟨?_, fun b H11 s11 po => ?_⟩⟩
      · rw [sall _ (List.mem_of_getElem? ej)] at hf
        cases hf
      · rw [lok] at hb
        cases hb
      · exact (rowsL_nd x [] 0).sublist (sps.trans (List.Sublist.map _ List.filter_sublist))
      rw [kept_two] at po
      have S11 := S10.same s11
      have psn11 := pths_mono (TK.same s11) psn10
      have pps11 := pths_mono (TK.same s11) pps10
      have hls11 := s11 _ _ hls10
      have elp11 := s11 _ _ elp10
      have ell11 := s11 _ _ ell
      clear S10 psn10 pps10 hls10 elp10 ell nll hs10
      -- the kept
      obtain ⟨tl, tb, tk, ht, hL, hT, hK⟩ := S11.P.at_
      try dsimp only
      refine seq_asg ?_
      refine cb_one ?_
      refine kept_comp ht hL hK ell11 (by rcases d.n.2.1 with h | h <;> omega) (fun D H12 s12 eD => ⟨D, _, rfl, SqL.of eD, fun tk2 ob nk2 od2 => ?_⟩)
      have s13 := s12.trans (same_upd (o := .frz ob (.tup ((names.filter fun a => decide (a ∈ kept) || decide (a ∈ ls)).map V.str))) nk2)
      have eK2 : TupX K (upd H12 tk2 (.frz ob (.tup ((names.filter fun a => decide (a ∈ kept) || decide (a ∈ ls)).map V.str)))) tk2 ((names.filter fun a => decide (a ∈ kept) || decide (a ∈ ls)).map V.str) := .inl ⟨ob, upd_same, od2⟩
      generalize upd H12 tk2 (.frz ob (.tup ((names.filter fun a => decide (a ∈ kept) || decide (a ∈ ls)).map V.str))) = H13 at s13 eK2
      clear s12 eD nk2 ht hL hT hK
      have dk0 := d.key ps
      have dk : Drw names (names.filter fun a => decide (a ∈ kept) || decide (a ∈ ls)) (keyL ps [] 0 x) := ⟨dk0.n, List.filter_sublist, dk0.w, dk0.z, dk0.l⟩
      have lk2 : (names.filter fun a => decide (a ∈ kept) || decide (a ∈ ls)).length ≤ 500 := by have := dk.good.kl; omega
      generalize (names.filter fun a => decide (a ∈ kept) || decide (a ∈ ls)) = kept2 at dk eK2 po lk2
      have S13 := S11.same s13
      have po13 := po.same s13
      have psn13 := pths_mono (TK.same s13) psn11
      have pps13 := pths_mono (TK.same s13) pps11
      have hls13 := s13 _ _ hls11
      have elp13 := s13 _ _ elp11
      have ell13 := s13 _ _ ell11
      clear S11 po psn11 pps11 hls11 elp11 ell11 s13 s11 dk0
      -- the program with keys
      obtain ⟨tl, tb, tk, ht, hL, hT, hK⟩ := S13.P.at_
      have hS13 : SqT K H13 t [.ref tl, .ref tb, .ref tk] := .inl (.inl ht)
      refine ⟨_, rfl, _, rfl, t, _, 0, _, rfl, rfl, hS13, rfl, _, rfl, t, _, 1, _, rfl, rfl, hS13, rfl, by simp, fun e ne' => ?_⟩
      have s14 := same_upd (o := .tup []) ne'
      refine ⟨_, rfl, .ref tb, e, lp, x, [], vps, ps, rfl, hT.mono (TK.same s14), .inl (.inl upd_same), s14 _ _ elp13, pths_mono (TK.same s14) pps13, by omega, ox.l, ox.s, by decide, sends_key sps, fun z H14 sz tz => ?_⟩
      have s14 := s14.trans sz
      obtain ⟨tb2, zs, rfl, _, _⟩ := Td.ref_inv tz
      refine ⟨_, rfl, fun o2 dx2 no2 ndx2 ne2 => ?_⟩
      refine pinit_use no2 ndx2 (hL.same s14) (eK2.same s14) nm nl lk2 tz dk.okx (fun _ _ H15 s15 po2 => ?_) (fun z => by rw [dk.are] at z; cases z) (fun _ q' hq => by rw [dk.jn] at hq; cases hq)
      rw [dk.ko] at po2
      have s15 := s14.trans s15
      have po15 := po13.same s15
      obtain ⟨_, _, _, _, _, _, hA, _⟩ := po15.at_
      obtain ⟨_, _, _, _, _, _, hB, _⟩ := po2.at_
      have fk : fines (keyL ps [] 0 x) := dk.good.f
      have dk4 : depths (keyL ps [] 0 x) ≤ 4 := by have := dk.good.d; omega
      refine ⟨b, _, _, o2, rfl, rfl, hA, .inl ⟨_, _, hB⟩, b, names, kept2, keyL ps [] 0 x, .ref o2, rfl, po15, dk.ns, dk.ks, dk.lay, dk4, .inr ⟨o2, names, kept2, keyL ps [] 0 x, rfl, po2, dk.ns, dk.ks, dk.lay, dk4, fk, fk, fun H16 s16 => ?_⟩⟩
      rw [shaped_self (shaped_tup dk.ns), shaped_self (shaped_tup dk.ks), shaped_self (shaped_blk dk.lay fk dk4)]
      refine ⟨true, rfl, iteF ?_⟩
      have s16 := s15.trans s16
      have S16 := S13.same s16
      have psn16 := pths_mono (TK.same s16) psn13
      have pps16 := pths_mono (TK.same s16) pps13
      have hls16 := s16 _ _ hls13
      have elp16 := s16 _ _ elp13
      have ell16 := s16 _ _ ell13
      clear S13 psn13 pps13 hls13 elp13 ell13 s16 s15 s14 hA hB po2 po15 po13 tz no2 ndx2 ne2 ht hL hT hK hS13 eK2 ne' sz
      -- the others
      try dsimp only
      refine keys_comp (b := fun r => !decide (r.1 ∈ sends x)) S16.D S16.kv (by omega) (fun H' od j r vv qa R er hq hg tv hl tk hR => ?_) (fun lo acco nlo hacco => ?_)
      · exact ⟨_, rfl, _, rfl, notin_pths (.inl (.inl hq)) (hl _ _ hls16) (pths_mono tk psn16) ⟨_, rfl, hR⟩⟩
      have S17 := S16.same (same_upd (o := .lst acco) nlo)
      have s17 := same_upd (o := .lst acco) nlo
      have elo : upd H16 lo (.lst acco) lo = some (.lst acco) := upd_same
      have pso := path_pths hacco
      generalize upd H16 lo (.lst acco) = H17 at S17 s17 elo hacco pso
      have aol : acco.length ≤ 500 := by
        have h1 : acco.length = _ := Paired.length hacco
        have h2 : ((rowsL [] 0 x).filter fun r => !decide (r.1 ∈ sends x)).length ≤ (rowsL [] 0 x).length := List.length_filter_le _ _
        omega
      have on1 : ∀ w ∈ ((rowsL [] 0 x).filter fun r => !decide (r.1 ∈ sends x)).map (·.1), isSend x w = false ∧ w.length ≤ 9 := fun w hw => by
        obtain ⟨r, hr, rfl⟩ := List.mem_map.mp hw
        obtain ⟨h1, h2⟩ := List.mem_filter.mp hr
        exact ⟨others_none h1 (by simpa using h2), drw_p9 d h1⟩
      generalize ((rowsL [] 0 x).filter fun r => !decide (r.1 ∈ sends x)).map (·.1) = os at pso on1
      clear hacco
      refine ⟨small_le (by simp), fun e1 ne1 => ?_⟩
      have g2 := same_upd (o := .tup [.int 44]) ne1
      have c1 : upd H17 e1 (.tup [.int 44]) e1 = some (.tup (([44] : List Int).map V.int)) := upd_same
      generalize upd H17 e1 (.tup [.int 44]) = H18 at g2 c1
      refine ⟨by simp, fun e2 ne2 => ?_⟩
      have g3 := same_upd (o := .tup []) ne2
      have c2 : upd H18 e2 (.tup []) e2 = some (.tup (([] : List Int).map V.int)) := upd_same
      generalize upd H18 e2 (.tup []) = H19 at g3 c2
      refine ⟨small_le (by simp), fun l2 n2 => ?_⟩
      have g4 := same_upd (o := .lst [.ref e1, .ref e2]) n2
      have f2 : upd H19 l2 (.lst [.ref e1, .ref e2]) l2 = some (.lst [.ref e1, .ref e2]) := upd_same
      generalize upd H19 l2 (.lst [.ref e1, .ref e2]) = H20 at g4 f2
      have g24 := (g2.trans g3).trans g4
      refine ⟨lo, l2, acco, [.ref e1, .ref e2], rfl, rfl, g24 _ _ elo, f2, small_le (by simp only [List.length_cons, List.length_nil]; omega), fun l3 n3 => ?_⟩
      have pv20 : Paired (PthV H20) (acco ++ [.ref e1, .ref e2]) (os ++ [[44], []]) :=
        paired_app (pths_mono (TK.same g24) pso) (.cons ⟨e1, rfl, g4 _ _ (g3 _ _ c1)⟩ (.cons ⟨e2, rfl, g4 _ _ c2⟩ .nil))
      have on2 : ∀ w ∈ os ++ [[44], []], isSend x w = false ∧ w.length ≤ 9 := fun w hw => by
        rcases List.mem_append.mp hw with h | h
        · exact on1 w h
        · rcases List.mem_cons.mp h with rfl | h
          · exact ⟨send_far (k := 44) (by omega), by decide⟩
          · cases List.mem_singleton.mp h
            exact ⟨send_nil, by decide⟩
      have vl2 : 0 < (acco ++ [V.ref e1, .ref e2]).length ∧ (acco ++ [V.ref e1, .ref e2]).length ≤ 502 := by
        rw [List.length_append]
        simp only [List.length_cons, List.length_nil]
        omega
      generalize acco ++ [V.ref e1, .ref e2] = ov at pv20 vl2
      generalize os ++ [[44], []] = ows at pv20 on2
      have g5 := same_upd (o := .lst ov) n3
      have f3 : upd H20 l3 (.lst ov) l3 = some (.lst ov) := upd_same
      have pv21 := pths_mono (TK.same g5) pv20
      have np3 := ((S17.hs.same g24)).np n3
      generalize upd H20 l3 (.lst ov) = H21 at g5 f3 pv21
      have g15 := s17.trans (g24.trans g5)
      have S21 := S16.same g15
      have pps21 := pths_mono (TK.same g15) pps16
      have elp21 := g15 _ _ elp16
      have ell21 := g15 _ _ ell16
      clear S16 S17 psn16 pps16 hls16 elp16 ell16 g15 g24 g5 g4 g3 g2 c1 c2 f2 n2 n3 ne1 ne2 s17 pv20 pso on1 elo nlo aol
      -- the wrong one
      refine ⟨_, rfl, _, rfl, _, rfl, l3, ov, rfl, .inl (SqL.of f3), p, q, (ov.length : Int), rfl, by omega, by omega, S21.hs, fun v H22 v0 v1 hs22 k22 => ?_⟩
      have S22 := S21.keep hs22 k22
      have f22 := k22 _ _ f3 np3.1 np3.2
      have pv22 := pths_mono (TK.keep S21.hs k22) pv21
      have pps22 := pths_mono (TK.keep S21.hs k22) pps21
      have lst22 : ∀ {z : Addr} {zs : List V}, H21 z = some (.lst zs) → z ≠ p ∧ z ≠ q → H22 z = some (.lst zs) := fun h n => k22 _ _ h n.1 n.2
      have elp22 := lst22 elp21 nplp
      have ell22 := lst22 ell21 npll
      obtain ⟨j, rfl⟩ := Int.eq_ofNat_of_zero_le v0
      have hj : j < ov.length := by omega
      obtain ⟨w, ew, tw, etw, htw⟩ := paired_at pv22 (List.getElem?_eq_getElem hj)
      refine ⟨l3, ov, (j : Int), ov[j], rfl, rfl, SqL.of f22, atI_nat (List.getElem?_eq_getElem hj), ?_⟩
      rw [etw]
      obtain ⟨hwn, hw9⟩ := on2 w (List.mem_of_getElem? ew)
      clear S21 pps21 elp21 ell21 pv21 f3 k22 lst22 pv22 f22 on2 ew etw hj v0 v1 vl2
      -- told the wrong path
      refine ⟨_, rfl, _, rfl, _, rfl, small_le (by simp), fun e5 ne5 => ?_⟩
      have g1 := same_upd (o := .tup [.int 55]) ne5
      have c1 : upd H22 e5 (.tup [.int 55]) e5 = some (.tup (([55] : List Int).map V.int)) := upd_same
      generalize upd H22 e5 (.tup [.int 55]) = H23 at g1 c1
      refine ⟨small_le (by simp), fun l4 n4 => ?_⟩
      have g2 := same_upd (o := .lst [.ref tw, .ref e5]) n4
      have f4 : upd H23 l4 (.lst [.ref tw, .ref e5]) l4 = some (.lst [.ref tw, .ref e5]) := upd_same
      generalize upd H23 l4 (.lst [.ref tw, .ref e5]) = H24 at g2 f4
      have g12 := g1.trans g2
      refine ⟨lp, l4, vps, [.ref tw, .ref e5], rfl, rfl, g12 _ _ elp22, f4, small_le (by simp only [List.length_cons, List.length_nil]; omega), fun l5 n5 => ?_⟩
      have g3 := same_upd (o := .lst (vps ++ [.ref tw, .ref e5])) n5
      have f5 : upd H24 l5 (.lst (vps ++ [.ref tw, .ref e5])) l5 = some (.lst (vps ++ [.ref tw, .ref e5])) := upd_same
      generalize upd H24 l5 (.lst (vps ++ [.ref tw, .ref e5])) = H25 at g3 f5
      refine ⟨small_le (by simp), fun l6 n6 => ?_⟩
      have g4 := same_upd (o := .lst [.str "lost"]) n6
      have f6 : upd H25 l6 (.lst [.str "lost"]) l6 = some (.lst ((["lost"] : List Str).map V.str)) := upd_same
      generalize upd H25 l6 (.lst [.str "lost"]) = H26 at g4 f6
      have g14 := (g12.trans g3).trans g4
      have S26 := S22.same g14
      have pv26 : Paired (PthV H26) (vps ++ [.ref tw, .ref e5]) (ps ++ [w, [55]]) :=
        paired_app (pths_mono (TK.same g14) pps22) (.cons ⟨tw, rfl, g14 _ _ htw⟩ (.cons ⟨e5, rfl, g4 _ _ (g3 _ _ (g2 _ _ c1))⟩ .nil))
      have vpl : vps.length = ps.length := Paired.length pps22
      have hnot : ¬ ∀ p' ∈ ps ++ [w, [55]], isSend x p' = true := fun h => by
        have := h w (List.mem_append.mpr (.inr List.mem_cons_self))
        rw [hwn] at this
        cases this
      refine ⟨o, l5, l6, names, kept, x, vps ++ [.ref tw, .ref e5], ps ++ [w, [55]], ["lost"], rfl, S26.O, d, g4 _ _ f5, pv26, f6, fun p' hp => ?_, by simp, fun j p' v' hlt ej ev hf H27 s27 => ?_, fun h => absurd h hnot, fun h => absurd h hnot⟩
      · rcases List.mem_append.mp hp with h | h
        · exact p9 _ h
        · rcases List.mem_cons.mp h with rfl | h
          · exact hw9
          · cases List.mem_singleton.mp h
            decide
      have ej' : j = ps.length := by
        rcases Nat.lt_trichotomy j ps.length with h | h | h
        · rw [List.getElem?_append_left h] at ej
          rw [sall _ (List.mem_of_getElem? ej)] at hf
          cases hf
        · exact h
        · have := hlt ps.length w h (by rw [List.getElem?_append_right (Nat.le_refl _), Nat.sub_self]; rfl)
          rw [hwn] at this
          cases this
      subst ej'
      rw [← vpl, List.getElem?_append_right (Nat.le_refl _), Nat.sub_self] at ev
      cases ev
      have htw27 := s27 _ _ (g14 _ _ htw)
      refine ⟨_, rfl, _, _, .tup (.inl (.inl htw27)) (dp_ints w), .tup (.inl (.inl htw27)) (dp_ints w), shaped_pth w, shaped_pth w, ?_⟩
      rw [shaped_self (shaped_pth w)]
      refine ⟨false, rfl, iteF ?_⟩
      have s27 := g14.trans s27
      have S27 := S22.same s27
      have pps27 := pths_mono (TK.same s27) pps22
      have elp27 := s27 _ _ elp22
      have ell27 := s27 _ _ ell22
      clear S22 pps22 elp22 ell22 s27 htw27 ej hf hlt hnot vpl pv26 S26 g14 f6 g4 n6 f5 g3 n5 g12 f4 g2 n4 c1 g1 ne5 htw hw9 hwn
      -- told an unknown list
      refine ⟨_, rfl, _, rfl, _, rfl, small_le (by simp), fun l7 n7 => ?_⟩
      have g1 := same_upd (o := .lst [.str "lost"]) n7
      have f7 : upd H27 l7 (.lst [.str "lost"]) l7 = some (.lst [.str "lost"]) := upd_same
      generalize upd H27 l7 (.lst [.str "lost"]) = H28 at g1 f7
      refine ⟨ll, l7, ls.map V.str, [.str "lost"], rfl, rfl, g1 _ _ ell27, f7, small_le (by rw [List.length_map]; simp only [List.length_cons, List.length_nil]; omega), fun l8 n8 => ?_⟩
      have g2 := same_upd (o := .lst (ls.map V.str ++ [.str "lost"])) n8
      have f8 : upd H28 l8 (.lst (ls.map V.str ++ [.str "lost"])) l8 = some (.lst ((ls ++ [("lost" : Str)]).map V.str)) := by
        rw [List.map_append]
        exact upd_same
      generalize upd H28 l8 (.lst (ls.map V.str ++ [.str "lost"])) = H29 at g2 f8
      have g12 := g1.trans g2
      have S29 := S27.same g12
      have lf : listsOk names (ls ++ [("lost" : Str)]) = false := lists_far (lost_out d.n)
      refine ⟨o, lp, l8, names, kept, x, vps, ps, ls ++ [("lost" : Str)], rfl, S29.O, d, g12 _ _ elp27, pths_mono (TK.same g12) pps27, f8, p9, by rw [List.length_append]; simp only [List.length_cons, List.length_nil]; omega, fun j p' v' _ ej _ hf => ?_, fun _ _ H30 s30 => ?_, fun _ h => ?_⟩
      · rw [sall _ (List.mem_of_getElem? ej)] at hf
        cases hf
      rotate_left
      · rw [lf] at h
        cases h
      refine ⟨rfl, false, (by show V.bl (!decide (V.str "lists" = V.str "lists")) = V.bl false; rw [decide_eq_true rfl]; rfl), iteF ?_⟩
      have S30 := S29.same s30
      clear S27 S29 g1 g2 g12 f7 f8 n7 n8 lf elp27 pps27 ell27 s30
      -- told a list twice
      obtain ⟨tl, tb, tk, ht, hL, hT, hK⟩ := S30.P.at_
      have hS : SqT K H30 t [.ref tl, .ref tb, .ref tk] := .inl (.inl ht)
      obtain ⟨n0, e0⟩ : ∃ n0, atI (names.map V.str) 0 = some (.str n0) := by
        rcases d.n.2.1 with h | h
        · match names, h with
          | [a, b], _ => exact ⟨a, rfl⟩
        · match names, h with
          | [a, b, c], _ => exact ⟨a, rfl⟩
      refine ⟨_, rfl, small_le (by simp), fun l9 n9 => ?_⟩
      have g1 := same_upd (o := .lst []) n9
      have f9 : upd H30 l9 (.lst []) l9 = some (.lst []) := upd_same
      generalize upd H30 l9 (.lst []) = H31 at g1 f9
      have hS1 := sqT_same' hS g1
      have hL1 := (hL.same g1).sq
      refine ⟨_, rfl, t, _, 0, _, rfl, rfl, hS1, rfl, tl, _, 0, _, rfl, rfl, hL1, e0, _, rfl, t, _, 0, _, rfl, rfl, hS1, rfl, tl, _, 0, _, rfl, rfl, hL1, e0, small_le (by simp), fun l10 n10 => ?_⟩
      have g2 := same_upd (o := .lst [.str n0, .str n0]) n10
      have f10 : upd H31 l10 (.lst [.str n0, .str n0]) l10 = some (.lst (([n0, n0] : List Str).map V.str)) := upd_same
      generalize upd H31 l10 (.lst [.str n0, .str n0]) = H32 at g2 f10
      have g12 := g1.trans g2
      have S32 := S30.same g12
      refine ⟨o, l9, l10, names, kept, x, [], [], [n0, n0], rfl, S32.O, d, g2 _ _ f9, .nil, f10, (fun p' hp => by cases hp), by simp, (fun j p' v' _ ej => by simp at ej), fun _ _ H33 s33 => ?_, fun _ h => ?_⟩
      rotate_left
      · rw [lists_twice] at h
        cases h
      refine ⟨rfl, false, (by show V.bl (!decide (V.str "lists" = V.str "lists")) = V.bl false; rw [decide_eq_true rfl]; rfl), iteF ?_⟩
      have S33 := S32.same s33
      clear S30 S32 hS ht hL hT hK hS1 hL1 g1 g2 g12 f9 f10 n9 n10 s33
      -- the program as it was
      obtain ⟨tl, tb, tk, ht, hL, hT, hK⟩ := S33.P.at_
      have hS : SqT K H33 t [.ref tl, .ref tb, .ref tk] := .inl (.inl ht)
      refine ⟨_, rfl, _, rfl, t, _, 0, _, rfl, rfl, hS, rfl, _, rfl, t, _, 1, _, rfl, rfl, hS, rfl, _, rfl, t, _, 2, _, rfl, rfl, hS, rfl, fun o2 dx2 no2 ndx2 ne2 => ?_⟩
      refine pinit_use no2 ndx2 hL hK nm nl kl hT ox (fun _ _ H34 s34 po2 => ?_) (fun z => by rw [d.are] at z; cases z) (fun _ q' hq => by rw [d.jn] at hq; cases hq)
      rw [d.ko] at po2
      have S34 := S33.same s34
      obtain ⟨_, _, _, _, _, _, hA, _⟩ := S34.O.at_
      obtain ⟨_, _, _, _, _, _, hB, _⟩ := po2.at_
      refine ⟨o, _, _, o2, rfl, rfl, hA, .inl ⟨_, _, hB⟩, o, names, kept, x, .ref o2, rfl, S34.O, d.ns, d.ks, d.lay, dp4, .inr ⟨o2, names, kept, x, rfl, po2, d.ns, d.ks, d.lay, dp4, fin, fin, fun H35 s35 => ?_⟩⟩
      rw [shaped_self (shaped_tup d.ns), shaped_self (shaped_tup d.ks), shaped_self (shaped_blk d.lay fin dp4)]
      exact ⟨true, rfl, iteF ⟨_, _, _, _, _, _, _, _, _, _, _, _, _, rfl, (S34.same s35).hs⟩⟩
    · rintro σ Hc ⟨v2, v3, v4, v5, v6, v7, v8, v9, v10, v11, v12, v13, v14, rfl, hHc⟩
      exact kk _
end
end W1
end
section
set_option linter.all false
set_option maxRecDepth 100000
set_option maxHeartbeats 4000000
/-! Z7a: what the module has laid -/
namespace Cm
open PySem L2
theorem exm_mk {K : PySem.W.Frag} {C : Addr} {t : Value} {b : Bool} (h1 : PySem.W.isClsIn K C = true) (h2 : PySem.W.typeIn K (.ref C) = some (.type "type")) (h3 : PySem.W.subIn K (.ref C) (.type "BaseException") = some true) (h4 : PySem.W.subIn K t (.ref C) = some b) : PySem.W.exmOne K t (.ref C) = some b := by
  have h1' : (PySem.W.clsIn K C).isSome = true := h1
  unfold PySem.W.exmOne PySem.W.kitCls
  rw [h3, if_pos (by decide)]
  show (if ((PySem.W.clsIn K C).isSome && PySem.W.typeIn K (.ref C) == some (.type "type")) = true then PySem.W.subIn K t (.ref C) else none) = some b
  rw [h1', h2, if_pos (by decide)]
  exact h4
end Cm
namespace W1
open PySem L2 Cm
theorem law_binds {K : PySem.W.Frag} {f : Addr} {fd : FuncData} (F : Fun K "law" "law" s_law f fd) : ∀ (s : Shared) (v : Value), BindsTo s fd ⟨[v], []⟩ [("_law_script", v)] := by
  obtain ⟨oc, od, kV, doc, pm, an, cdv, ct, osl, rfl, _, _⟩ := F.ex
  exact fun s v => .of_eq rfl
theorem xi_is : ∃ m j q1 q2 q3 q4 p0 p1 p2 p3 p4 p5 p6 p7 p8, InitIs s_InvalidBlock_init (.JoinedStr [.Constant (.str m) j q1, .FormattedValue (.Name "path" q2) (-1) none q3] q4) p0 p1 p2 p3 p4 p5 p6 p7 p8 ∧ m.length ≤ 1000 ∧
    ∀ (P : Program) (w : World) (K : PySem.W.Frag) (mg : Str → Option Value) (base : Heap) cc cda f A outer s H E, Says (cxI P w K mg base s_InvalidBlock_init "InvalidBlock.__init__" cc cda f A outer s H E).env (.JoinedStr [.Constant (.str m) j q1, .FormattedValue (.Name "path" q2) (-1) none q3] q4) p0 p1 p2 p3 p4 := by
  refine ⟨_, _, _, _, _, _, _, _, _, _, _, _, _, _, _, ⟨rfl, NdefX.nscope_by (by decide +kernel), rfl, ⟨_, rfl, rfl⟩, fun us hl => ?_⟩, ?_, fun P w K mg base cc cda f A outer s H E => ⟨?_, ?_, ?_, ?_⟩⟩
  · match us, hl with
    | [_, _], _ => exact fun _ _ _ _ _ _ _ _ _ _ => rfl
  · decide +kernel
  · rfl
  · rfl
  · rfl
  · exact ⟨_, rfl⟩
end W1
end
section
set_option linter.all false
set_option maxRecDepth 100000
set_option maxHeartbeats 4000000
/-! Z7b: what the module has laid, all together -/
namespace W1
open PySem L2 Cm
def At (K : PySem.W.Frag) (d : Addr) (z : Str) (l : List Nat) : Prop := ∃ a, PySem.W.nsIn K d z = some (some (.ref a)) ∧ ∀ H, SqT K H a (l.map fun i => V.int (i : Nat))
theorem at_mk {K : PySem.W.Frag} {d a : Addr} {z : Str} {l : List Nat} {o : Obj} {its : Array Value} {n : Nat} (h : PySem.W.nsIn K d z = some (some (.ref a))) (L : K.lookup a = some o) (c : o.cls = .type "tuple") (D : o.data = .seq its n) (Z : its.size ≤ sizeLine) (V : Vals (l.map fun i => V.int (i : Nat)) its.toList) : At K d z l :=
  ⟨a, h, fun H => .inr ⟨o, its, n, L, c, D, Z, V⟩⟩
theorem tab_blocksAt {K : PySem.W.Frag} {w : World} {d : Addr} (kd : ∃ es n, KDict K w d es n) (h0 : At K d "send" [4]) (h1 : At K d "keyed" [4]) (h2 : At K d "look" [4]) (h3 : At K d "move" []) (h4 : At K d "part" []) (h5 : At K d "tell" []) (h6 : At K d "end" []) (h7 : At K d "if" [2, 3]) (h8 : At K d "while" [2]) (h9 : At K d "times" [2]) : Tab K w d blocksAt := by
  refine ⟨kd, fun z l h => ?_⟩
  show At K d z l
  unfold blocksAt at h
  repeat' split at h
  all_goals first | cases h | skip
  all_goals first | (rename_i c; rcases c with rfl | rfl | rfl | rfl; all_goals assumption) | (rename_i c; rcases c with rfl | rfl | rfl; all_goals assumption) | (rename_i c; rcases c with rfl | rfl; all_goals assumption) | (rename_i c; subst c; assumption)
theorem tab_listsAt {K : PySem.W.Frag} {w : World} {d : Addr} (kd : ∃ es n, KDict K w d es n) (h0 : At K d "send" [1, 2, 3]) (h1 : At K d "keyed" [1, 2, 3]) (h2 : At K d "look" [1, 2, 3]) (h3 : At K d "move" [1, 2]) (h4 : At K d "part" [1, 2]) (h5 : At K d "tell" [1]) (h6 : At K d "end" []) (h7 : At K d "if" [1]) (h8 : At K d "while" [1]) (h9 : At K d "times" []) : Tab K w d listsAt := by
  refine ⟨kd, fun z l h => ?_⟩
  show At K d z l
  unfold listsAt at h
  repeat' split at h
  all_goals first | cases h | skip
  all_goals first | (rename_i c; rcases c with rfl | rfl | rfl | rfl; all_goals assumption) | (rename_i c; rcases c with rfl | rfl | rfl; all_goals assumption) | (rename_i c; rcases c with rfl | rfl; all_goals assumption) | (rename_i c; subst c; assumption)
theorem init_binds {K : PySem.W.Frag} {e0 fI : Addr} {fd : FuncData} (FI : FunD K "__init__" "Program.__init__" (defArgs s_Program_init) (defBody s_Program_init) (defScope s_Program_init) [.ref e0] [] fI fd) : Binds K fd ["self", "lists", "block", "kept"] [] := by
  obtain ⟨ds, v, b⟩ := FI.binds1 (ps := ["self", "lists", "block", "kept"]) 4 1 (by simp) rfl (fun T kV doc pm an cdv ct us its hl hi => match us, hl, its, hi with | [_, _, _, _], _, [_], _ => ⟨_, rfl, rfl⟩)
  cases v
  exact b
/-- what the top has written -/
structure Wall (P : Program) (K : PySem.W.Frag) (w : World) (mg : Str → Option Value) (CP CL CB CN fI fXB ccB cdaB fXN ccN cdaN fE fG fS p1 p2 p3 g1 g2 g3 e0 : Addr) (fdI fdXB fdXN fdE fdG fdS gd1 gd2 gd3 : FuncData) : Prop where
  T : Bi mg
  al : mg "all" = none
  Cs : Cst K mg
  Tb : Tabs K w mg
  Wt : Told K mg
  PC : PCls K CP
  XL : Xc K mg "InvalidLists" CL
  FI : FunD K "__init__" "Program.__init__" (defArgs s_Program_init) (defBody s_Program_init) (defScope s_Program_init) [.ref e0] [] fI fdI
  gB : mg "InvalidBlock" = some (.ref CB)
  FB : FunX K "InvalidBlock.__init__" s_InvalidBlock_init ccB cdaB fXB fdXB
  SB : SupC P K mg CB ccB cdaB
  nB : PySem.W.findIn K (.ref CB) "path" = some none
  iB : PySem.W.findIn K (.ref CB) "__init__" = some (some (.ref fXB))
  tB : PySem.W.typeIn K (.ref fXB) = some (.type "function")
  gN : mg "NoStatement" = some (.ref CN)
  FN : FunX K "NoStatement.__init__" s_NoStatement_init ccN cdaN fXN fdXN
  SN : SupC P K mg CN ccN cdaN
  nN : PySem.W.findIn K (.ref CN) "path" = some none
  iN : PySem.W.findIn K (.ref CN) "__init__" = some (some (.ref fXN))
  tN : PySem.W.typeIn K (.ref fXN) = some (.type "function")
  C : Cl3 K mg CN CL
  Y : Lw K mg CP fI fE fdI fdE
  M : Lm K mg CP fI fG fS p1 p2 p3 g1 g2 g3 fdI fdG fdS gd1 gd2 gd3
  FE : Fun K "__eq__" "Program.__eq__" s_Program_eq fE fdE
  FG : Fun K "__getitem__" "Program.__getitem__" s_Program_getitem fG fdG
  FS : Fun K "with_statement" "Program.with_statement" s_Program_with_statement fS fdS
  c1 : PySem.W.findIn K (.ref CP) "__class__" = some (some (.builtin "object.__class__"))
  c2 : PySem.W.specialIn K (.builtin "object.__class__") "__get__" = some (some (.builtin "getset_descriptor.__get__"))
  c3 : PySem.W.takesIn K (.builtin "object.__class__") = some true
  c4 : PySem.W.mroIn K CP (.type "object") = some true
  kt : PySem.W.kitOne K (.type "tuple") (.ref CP) = some false
theorem with_wall {P : Program} {w : World} {K : PySem.W.Frag} {h : Heap} {mg : Str → Option Value} {R : Prop} {CP CL CB CN fI TI e0 : Addr} {oI : Obj} {itI : List Value} {nI : Nat} {odI anI : Option Addr} {slI : Array (Option Value)} {ocI kVI dcI pmI cdI ctI : Value} {Pp1 fp1 : Addr} {rep1 : List Value} {odp1 anp1 : Option Addr} {slp1 : Array (Option Value)} {ocp1 kVp1 dcp1 pmp1 cdp1 ctp1 : Value} {Pp2 fp2 : Addr} {rep2 : List Value} {odp2 anp2 : Option Addr} {slp2 : Array (Option Value)} {ocp2 kVp2 dcp2 pmp2 cdp2 ctp2 : Value} {Pp3 fp3 : Addr} {rep3 : List Value} {odp3 anp3 : Option Addr} {slp3 : Array (Option Value)} {ocp3 kVp3 dcp3 pmp3 cdp3 ctp3 : Value} {fE : Addr} {odE anE : Option Addr} {slE : Array (Option Value)} {ocE kVE dcE pmE cdE ctE : Value} {fG : Addr} {odG anG : Option Addr} {slG : Array (Option Value)} {ocG kVG dcG pmG cdG ctG : Value} {fS : Addr} {odS anS : Option Addr} {slS : Array (Option Value)} {ocS kVS dcS pmS cdS ctS : Value} {fXCB ccCB cdaCB : Addr} {nmCB qCB : Str} {NCB : Addr} {bsCB bmCB subCB : List Value} {snCB : List Str} {abCB : Bool} {colCB : Option Bool} {ddCB : Option Addr} {z0CB z1CB z2CB z3CB z5CB : Option Value} {cdCB : ClassData} {clSCB ccSCB : Value} {cldSCB cddSCB : Option Addr} {cslSCB ccsSCB : Array (Option Value)} {vsSCB : Array Value} {fileSCB : Str} {tfSCB : Tok} {ocXCB kVXCB dcXCB pmXCB ctXCB : Value} {odXCB anXCB : Option Addr} {slXCB : Array (Option Value)} {fXCN ccCN cdaCN : Addr} {nmCN qCN : Str} {NCN : Addr} {bsCN bmCN subCN : List Value} {snCN : List Str} {abCN : Bool} {colCN : Option Bool} {ddCN : Option Addr} {z0CN z1CN z2CN z3CN z5CN : Option Value} {cdCN : ClassData} {clSCN ccSCN : Value} {cldSCN cddSCN : Option Addr} {cslSCN ccsSCN : Array (Option Value)} {vsSCN : Array Value} {fileSCN : Str} {tfSCN : Tok} {ocXCN kVXCN dcXCN pmXCN ctXCN : Value} {odXCN anXCN : Option Addr} {slXCN : Array (Option Value)} {tc1 tc2 tc3 tc4 tc5 tc6 : Tok} {aTW : Addr} {oTW : Obj} {iTW : Array Value} {nTW : Nat} {dX : Addr} {esX : Array DictEntry} {mX : Nat} {aX0 : Addr} {oX0 : Obj} {iX0 : Array Value} {nX0 : Nat} {aX1 : Addr} {oX1 : Obj} {iX1 : Array Value} {nX1 : Nat} {aX2 : Addr} {oX2 : Obj} {iX2 : Array Value} {nX2 : Nat} {aX3 : Addr} {oX3 : Obj} {iX3 : Array Value} {nX3 : Nat} {aX4 : Addr} {oX4 : Obj} {iX4 : Array Value} {nX4 : Nat} {aX5 : Addr} {oX5 : Obj} {iX5 : Array Value} {nX5 : Nat} {aX6 : Addr} {oX6 : Obj} {iX6 : Array Value} {nX6 : Nat} {aX7 : Addr} {oX7 : Obj} {iX7 : Array Value} {nX7 : Nat} {aX8 : Addr} {oX8 : Obj} {iX8 : Array Value} {nX8 : Nat} {aX9 : Addr} {oX9 : Obj} {iX9 : Array Value} {nX9 : Nat} {dY : Addr} {esY : Array DictEntry} {mY : Nat} {aY0 : Addr} {oY0 : Obj} {iY0 : Array Value} {nY0 : Nat} {aY1 : Addr} {oY1 : Obj} {iY1 : Array Value} {nY1 : Nat} {aY2 : Addr} {oY2 : Obj} {iY2 : Array Value} {nY2 : Nat} {aY3 : Addr} {oY3 : Obj} {iY3 : Array Value} {nY3 : Nat} {aY4 : Addr} {oY4 : Obj} {iY4 : Array Value} {nY4 : Nat} {aY5 : Addr} {oY5 : Obj} {iY5 : Array Value} {nY5 : Nat} {aY6 : Addr} {oY6 : Obj} {iY6 : Array Value} {nY6 : Nat} {aY7 : Addr} {oY7 : Obj} {iY7 : Array Value} {nY7 : Nat} {aY8 : Addr} {oY8 : Obj} {iY8 : Array Value} {nY8 : Nat} {aY9 : Addr} {oY9 : Obj} {iY9 : Array Value} {nY9 : Nat} (X : K.In h) (G : h.Ns mainGlobals mg)
    (aP : PySem.W.nsIn K mainGlobals "Program" = some (some (.ref CP)))
    (pg : PySem.W.plainGet K CP Str.empty = true)
    (hd : PySem.W.hasDictIn K CP = true)
    (po : PySem.W.plainOver K CP = true)
    (sa : PySem.W.findIn K (.ref CP) "__setattr__" = some (some (.builtin "object.__setattr__")))
    (n1 : PySem.W.findIn K (.ref CP) "_rows" = some none)
    (n2 : PySem.W.findIn K (.ref CP) "_lists" = some none)
    (n3 : PySem.W.findIn K (.ref CP) "_block" = some none)
    (n4 : PySem.W.findIn K (.ref CP) "_kept" = some none)
    (ha : PySem.W.findIn K (.ref CP) "__class__" = some (some (.builtin "object.__class__")))
    (hn : PySem.W.specialIn K (.builtin "object.__class__") "__get__" = some (some (.builtin "getset_descriptor.__get__")))
    (htk : PySem.W.takesIn K (.builtin "object.__class__") = some true)
    (hm : PySem.W.mroIn K CP (.type "object") = some true)
    (mk : PySem.W.makesIn K CP = true)
    (kc : PySem.W.keepIn K (.ref CP) = true)
    (icP : PySem.W.isClsIn K CP = true)
    (tyP : PySem.W.typeIn K (.ref CP) = some (.type "type"))
    (stP : PySem.W.subIn K (.type "tuple") (.ref CP) = some false)
    (nft : PySem.W.notFirst K CP (.type "tuple") = true)
    (aI : PySem.W.findIn K (.ref CP) "__init__" = some (some (.ref fI)))
    (iI : PySem.W.isFn K (.ref fI) = true)
    (lI : K.lookup fI = some ⟨ocI, odI, .func (PySem.W.fnOf "__init__" "Program.__init__" (defArgs s_Program_init) (defBody s_Program_init) (defScope s_Program_init) (.ref TI) kVI dcI pmI anI cdI ctI), slI⟩)
    (cI : PySem.W.codeIn K cdI "Program.__init__" = true)
    (kI : PySem.W.keepIn K (.ref fI) = true)
    (tI : K.lookup TI = some oI)
    (dI : oI.data = .seq itI.toArray nI)
    (vI : Vals [V.ref e0] itI)
    (bp1 : PySem.W.findIn K (.ref CP) "lists" = some (some (.ref Pp1)))
    (gp1 : PySem.W.specialIn K (.ref Pp1) "__get__" = some (some (.builtin "property.__get__")))
    (tp1 : PySem.W.takesIn K (.ref Pp1) = some true)
    (ep1 : PySem.W.recIn K Pp1 "property" = some (.ref fp1 :: rep1))
    (lp1 : K.lookup fp1 = some ⟨ocp1, odp1, .func (PySem.W.fnOf "lists" "Program.lists" (defArgs s_Program_lists) (defBody s_Program_lists) (defScope s_Program_lists) .none kVp1 dcp1 pmp1 anp1 cdp1 ctp1), slp1⟩)
    (cp1 : PySem.W.codeIn K cdp1 "Program.lists" = true)
    (kp1 : PySem.W.keepIn K (.ref fp1) = true)
    (bp2 : PySem.W.findIn K (.ref CP) "block" = some (some (.ref Pp2)))
    (gp2 : PySem.W.specialIn K (.ref Pp2) "__get__" = some (some (.builtin "property.__get__")))
    (tp2 : PySem.W.takesIn K (.ref Pp2) = some true)
    (ep2 : PySem.W.recIn K Pp2 "property" = some (.ref fp2 :: rep2))
    (lp2 : K.lookup fp2 = some ⟨ocp2, odp2, .func (PySem.W.fnOf "block" "Program.block" (defArgs s_Program_block) (defBody s_Program_block) (defScope s_Program_block) .none kVp2 dcp2 pmp2 anp2 cdp2 ctp2), slp2⟩)
    (cp2 : PySem.W.codeIn K cdp2 "Program.block" = true)
    (kp2 : PySem.W.keepIn K (.ref fp2) = true)
    (bp3 : PySem.W.findIn K (.ref CP) "kept" = some (some (.ref Pp3)))
    (gp3 : PySem.W.specialIn K (.ref Pp3) "__get__" = some (some (.builtin "property.__get__")))
    (tp3 : PySem.W.takesIn K (.ref Pp3) = some true)
    (ep3 : PySem.W.recIn K Pp3 "property" = some (.ref fp3 :: rep3))
    (lp3 : K.lookup fp3 = some ⟨ocp3, odp3, .func (PySem.W.fnOf "kept" "Program.kept" (defArgs s_Program_kept) (defBody s_Program_kept) (defScope s_Program_kept) .none kVp3 dcp3 pmp3 anp3 cdp3 ctp3), slp3⟩)
    (cp3 : PySem.W.codeIn K cdp3 "Program.kept" = true)
    (kp3 : PySem.W.keepIn K (.ref fp3) = true)
    (aE : PySem.W.findIn K (.ref CP) "__eq__" = some (some (.ref fE)))
    (iE : PySem.W.isFn K (.ref fE) = true)
    (lE : K.lookup fE = some ⟨ocE, odE, .func (PySem.W.fnOf "__eq__" "Program.__eq__" (defArgs s_Program_eq) (defBody s_Program_eq) (defScope s_Program_eq) .none kVE dcE pmE anE cdE ctE), slE⟩)
    (cE : PySem.W.codeIn K cdE "Program.__eq__" = true)
    (kE : PySem.W.keepIn K (.ref fE) = true)
    (aG : PySem.W.findIn K (.ref CP) "__getitem__" = some (some (.ref fG)))
    (iG : PySem.W.isFn K (.ref fG) = true)
    (lG : K.lookup fG = some ⟨ocG, odG, .func (PySem.W.fnOf "__getitem__" "Program.__getitem__" (defArgs s_Program_getitem) (defBody s_Program_getitem) (defScope s_Program_getitem) .none kVG dcG pmG anG cdG ctG), slG⟩)
    (cG : PySem.W.codeIn K cdG "Program.__getitem__" = true)
    (kG : PySem.W.keepIn K (.ref fG) = true)
    (aS : PySem.W.findIn K (.ref CP) "with_statement" = some (some (.ref fS)))
    (iS : PySem.W.isFn K (.ref fS) = true)
    (lS : K.lookup fS = some ⟨ocS, odS, .func (PySem.W.fnOf "with_statement" "Program.with_statement" (defArgs s_Program_with_statement) (defBody s_Program_with_statement) (defScope s_Program_with_statement) .none kVS dcS pmS anS cdS ctS), slS⟩)
    (cS : PySem.W.codeIn K cdS "Program.with_statement" = true)
    (kS : PySem.W.keepIn K (.ref fS) = true)
    (fnG : PySem.W.fnIn K fG = true)
    (aCL : PySem.W.nsIn K mainGlobals "InvalidLists" = some (some (.ref CL)))
    (kCL : PySem.W.keepIn K (.ref CL) = true)
    (bCL : PySem.W.subIn K (.ref CL) (.type "BaseException") = some true)
    (tCL : PySem.W.typeIn K (.ref CL) = some (.type "type"))
    (iCL : PySem.W.isClsIn K CL = true)
    (dCL : PySem.W.hasDictIn K CL = true)
    (aCB : PySem.W.nsIn K mainGlobals "InvalidBlock" = some (some (.ref CB)))
    (kCB : PySem.W.keepIn K (.ref CB) = true)
    (bCB : PySem.W.subIn K (.ref CB) (.type "BaseException") = some true)
    (tCB : PySem.W.typeIn K (.ref CB) = some (.type "type"))
    (iCB : PySem.W.isClsIn K CB = true)
    (dCB : PySem.W.hasDictIn K CB = true)
    (aCN : PySem.W.nsIn K mainGlobals "NoStatement" = some (some (.ref CN)))
    (kCN : PySem.W.keepIn K (.ref CN) = true)
    (bCN : PySem.W.subIn K (.ref CN) (.type "BaseException") = some true)
    (tCN : PySem.W.typeIn K (.ref CN) = some (.type "type"))
    (iCN : PySem.W.isClsIn K CN = true)
    (dCN : PySem.W.hasDictIn K CN = true)
    (xCL : PySem.W.excIn K CL [.type "ValueError", .type "Exception", .type "BaseException", .type "object"] "ValueError.__new__" = true)
    (sNN : PySem.W.subIn K (.ref CN) (.ref CN) = some true)
    (sLN : PySem.W.subIn K (.ref CL) (.ref CN) = some false)
    (sLL : PySem.W.subIn K (.ref CL) (.ref CL) = some true)
    (zgCB : PySem.W.findIn K (.ref CB) "__getattribute__" = some (some (.builtin "BaseException.__getattribute__")))
    (zkCB : PySem.W.findIn K (.ref CB) "__getattr__" = some none)
    (nCB : PySem.W.findIn K (.ref CB) "path" = some none)
    (saCB : PySem.W.findIn K (.ref CB) "__setattr__" = some (some (.builtin "object.__setattr__")))
    (clsCB : K.lookup CB = some (PySem.excClassObj nmCB qCB CB NCB bsCB bmCB true snCB subCB abCB colCB ddCB z0CB z1CB z2CB z3CB z5CB "ValueError.__new__"))
    (refCB : PySem.HandSPX.refsVE bmCB = true)
    (cd_CB : PySem.W.clsIn K CB = some cdCB)
    (hmSCB : PySem.W.ks_superIn K CB CB "__init__" = some (some (.builtin "ValueError.__init__")))
    (hBSCB : PySem.W.subIn K (.ref CB) (.type "ValueError") = some true)
    (hsSCB : PySem.W.mroIn K CB (.ref CB) = some true)
    (iXCB : PySem.W.findIn K (.ref CB) "__init__" = some (some (.ref fXCB)))
    (tXCB : PySem.W.typeIn K (.ref fXCB) = some (.type "function"))
    (lXCB : K.lookup fXCB = some ⟨ocXCB, odXCB, .func (PySem.W.fnX "__init__" "InvalidBlock.__init__" (defArgs s_InvalidBlock_init) (defBody s_InvalidBlock_init) (defScope s_InvalidBlock_init) [("__class__", ccCB)] .none kVXCB dcXCB pmXCB anXCB (.ref cdaCB) ctXCB), slXCB⟩)
    (cXCB : PySem.W.codeIn K (.ref cdaCB) "InvalidBlock.__init__" = true)
    (cellSCB : K.lookup ccCB = some ⟨clSCB, cldSCB, .cell (some (.ref CB)), cslSCB⟩)
    (codeSCB : K.lookup cdaCB = some ⟨ccSCB, cddSCB, .fields vsSCB, ccsSCB⟩)
    (fileS_CB : vsSCB[2]? = some (.str fileSCB tfSCB))
    (feqSCB : ((P.main.file : Str) == fileSCB) = true)
    (zgCN : PySem.W.findIn K (.ref CN) "__getattribute__" = some (some (.builtin "BaseException.__getattribute__")))
    (zkCN : PySem.W.findIn K (.ref CN) "__getattr__" = some none)
    (nCN : PySem.W.findIn K (.ref CN) "path" = some none)
    (saCN : PySem.W.findIn K (.ref CN) "__setattr__" = some (some (.builtin "object.__setattr__")))
    (clsCN : K.lookup CN = some (PySem.excClassObj nmCN qCN CN NCN bsCN bmCN true snCN subCN abCN colCN ddCN z0CN z1CN z2CN z3CN z5CN "ValueError.__new__"))
    (refCN : PySem.HandSPX.refsVE bmCN = true)
    (cd_CN : PySem.W.clsIn K CN = some cdCN)
    (hmSCN : PySem.W.ks_superIn K CN CN "__init__" = some (some (.builtin "ValueError.__init__")))
    (hBSCN : PySem.W.subIn K (.ref CN) (.type "ValueError") = some true)
    (hsSCN : PySem.W.mroIn K CN (.ref CN) = some true)
    (iXCN : PySem.W.findIn K (.ref CN) "__init__" = some (some (.ref fXCN)))
    (tXCN : PySem.W.typeIn K (.ref fXCN) = some (.type "function"))
    (lXCN : K.lookup fXCN = some ⟨ocXCN, odXCN, .func (PySem.W.fnX "__init__" "NoStatement.__init__" (defArgs s_NoStatement_init) (defBody s_NoStatement_init) (defScope s_NoStatement_init) [("__class__", ccCN)] .none kVXCN dcXCN pmXCN anXCN (.ref cdaCN) ctXCN), slXCN⟩)
    (cXCN : PySem.W.codeIn K (.ref cdaCN) "NoStatement.__init__" = true)
    (cellSCN : K.lookup ccCN = some ⟨clSCN, cldSCN, .cell (some (.ref CN)), cslSCN⟩)
    (codeSCN : K.lookup cdaCN = some ⟨ccSCN, cddSCN, .fields vsSCN, ccsSCN⟩)
    (fileS_CN : vsSCN[2]? = some (.str fileSCN tfSCN))
    (feqSCN : ((P.main.file : Str) == fileSCN) = true)
    (opS : PySem.W.nsIn K PySem.cStatics "thirdparty.any" = some none)
    (topS : (P.main.scope.names.lookup ("super" : Str)).isSome = false)
    (c1 : PySem.W.nsIn K mainGlobals "LETTERS" = some (some (.str "abcdefghijklmnopqrstuvwxyz" tc1)))
    (c2 : PySem.W.nsIn K mainGlobals "MOST_LETTERS" = some (some (.int 8 tc2)))
    (c3 : PySem.W.nsIn K mainGlobals "MOST_LISTS" = some (some (.int 4 tc3)))
    (c4 : PySem.W.nsIn K mainGlobals "MOST_ROUNDS" = some (some (.int 3 tc4)))
    (c5 : PySem.W.nsIn K mainGlobals "MOST_AROUND" = some (some (.int 2 tc5)))
    (c6 : PySem.W.nsIn K mainGlobals "MOST_STATEMENTS" = some (some (.int 20 tc6)))
    (KTW : PySem.W.nsIn K mainGlobals "TOLD_WORDS" = some (some (.ref aTW)))
    (LTW : K.lookup aTW = some oTW)
    (CTW : oTW.cls = .type "tuple")
    (DTW : oTW.data = .seq iTW nTW)
    (ZTW : iTW.size ≤ sizeLine)
    (VTW : Vals [V.str "done", .str "failed"] iTW.toList)
    (gX : PySem.W.nsIn K mainGlobals "BLOCKS_AT" = some (some (.ref dX)))
    (atX : K.lookup dX = some ⟨.type "dict", none, .dict esX mX, #[]⟩)
    (litX : PySem.W.KeysLit w.params esX.toList)
    (lowX : (dX == sysModules) = false)
    (KX0 : PySem.W.nsIn K dX "send" = some (some (.ref aX0)))
    (LX0 : K.lookup aX0 = some oX0)
    (CX0 : oX0.cls = .type "tuple")
    (DX0 : oX0.data = .seq iX0 nX0)
    (ZX0 : iX0.size ≤ sizeLine)
    (VX0 : Vals [V.int 4] iX0.toList)
    (KX1 : PySem.W.nsIn K dX "keyed" = some (some (.ref aX1)))
    (LX1 : K.lookup aX1 = some oX1)
    (CX1 : oX1.cls = .type "tuple")
    (DX1 : oX1.data = .seq iX1 nX1)
    (ZX1 : iX1.size ≤ sizeLine)
    (VX1 : Vals [V.int 4] iX1.toList)
    (KX2 : PySem.W.nsIn K dX "look" = some (some (.ref aX2)))
    (LX2 : K.lookup aX2 = some oX2)
    (CX2 : oX2.cls = .type "tuple")
    (DX2 : oX2.data = .seq iX2 nX2)
    (ZX2 : iX2.size ≤ sizeLine)
    (VX2 : Vals [V.int 4] iX2.toList)
    (KX3 : PySem.W.nsIn K dX "move" = some (some (.ref aX3)))
    (LX3 : K.lookup aX3 = some oX3)
    (CX3 : oX3.cls = .type "tuple")
    (DX3 : oX3.data = .seq iX3 nX3)
    (ZX3 : iX3.size ≤ sizeLine)
    (VX3 : Vals [] iX3.toList)
    (KX4 : PySem.W.nsIn K dX "part" = some (some (.ref aX4)))
    (LX4 : K.lookup aX4 = some oX4)
    (CX4 : oX4.cls = .type "tuple")
    (DX4 : oX4.data = .seq iX4 nX4)
    (ZX4 : iX4.size ≤ sizeLine)
    (VX4 : Vals [] iX4.toList)
    (KX5 : PySem.W.nsIn K dX "tell" = some (some (.ref aX5)))
    (LX5 : K.lookup aX5 = some oX5)
    (CX5 : oX5.cls = .type "tuple")
    (DX5 : oX5.data = .seq iX5 nX5)
    (ZX5 : iX5.size ≤ sizeLine)
    (VX5 : Vals [] iX5.toList)
    (KX6 : PySem.W.nsIn K dX "end" = some (some (.ref aX6)))
    (LX6 : K.lookup aX6 = some oX6)
    (CX6 : oX6.cls = .type "tuple")
    (DX6 : oX6.data = .seq iX6 nX6)
    (ZX6 : iX6.size ≤ sizeLine)
    (VX6 : Vals [] iX6.toList)
    (KX7 : PySem.W.nsIn K dX "if" = some (some (.ref aX7)))
    (LX7 : K.lookup aX7 = some oX7)
    (CX7 : oX7.cls = .type "tuple")
    (DX7 : oX7.data = .seq iX7 nX7)
    (ZX7 : iX7.size ≤ sizeLine)
    (VX7 : Vals [V.int 2, V.int 3] iX7.toList)
    (KX8 : PySem.W.nsIn K dX "while" = some (some (.ref aX8)))
    (LX8 : K.lookup aX8 = some oX8)
    (CX8 : oX8.cls = .type "tuple")
    (DX8 : oX8.data = .seq iX8 nX8)
    (ZX8 : iX8.size ≤ sizeLine)
    (VX8 : Vals [V.int 2] iX8.toList)
    (KX9 : PySem.W.nsIn K dX "times" = some (some (.ref aX9)))
    (LX9 : K.lookup aX9 = some oX9)
    (CX9 : oX9.cls = .type "tuple")
    (DX9 : oX9.data = .seq iX9 nX9)
    (ZX9 : iX9.size ≤ sizeLine)
    (VX9 : Vals [V.int 2] iX9.toList)
    (gY : PySem.W.nsIn K mainGlobals "LISTS_AT" = some (some (.ref dY)))
    (atY : K.lookup dY = some ⟨.type "dict", none, .dict esY mY, #[]⟩)
    (litY : PySem.W.KeysLit w.params esY.toList)
    (lowY : (dY == sysModules) = false)
    (KY0 : PySem.W.nsIn K dY "send" = some (some (.ref aY0)))
    (LY0 : K.lookup aY0 = some oY0)
    (CY0 : oY0.cls = .type "tuple")
    (DY0 : oY0.data = .seq iY0 nY0)
    (ZY0 : iY0.size ≤ sizeLine)
    (VY0 : Vals [V.int 1, V.int 2, V.int 3] iY0.toList)
    (KY1 : PySem.W.nsIn K dY "keyed" = some (some (.ref aY1)))
    (LY1 : K.lookup aY1 = some oY1)
    (CY1 : oY1.cls = .type "tuple")
    (DY1 : oY1.data = .seq iY1 nY1)
    (ZY1 : iY1.size ≤ sizeLine)
    (VY1 : Vals [V.int 1, V.int 2, V.int 3] iY1.toList)
    (KY2 : PySem.W.nsIn K dY "look" = some (some (.ref aY2)))
    (LY2 : K.lookup aY2 = some oY2)
    (CY2 : oY2.cls = .type "tuple")
    (DY2 : oY2.data = .seq iY2 nY2)
    (ZY2 : iY2.size ≤ sizeLine)
    (VY2 : Vals [V.int 1, V.int 2, V.int 3] iY2.toList)
    (KY3 : PySem.W.nsIn K dY "move" = some (some (.ref aY3)))
    (LY3 : K.lookup aY3 = some oY3)
    (CY3 : oY3.cls = .type "tuple")
    (DY3 : oY3.data = .seq iY3 nY3)
    (ZY3 : iY3.size ≤ sizeLine)
    (VY3 : Vals [V.int 1, V.int 2] iY3.toList)
    (KY4 : PySem.W.nsIn K dY "part" = some (some (.ref aY4)))
    (LY4 : K.lookup aY4 = some oY4)
    (CY4 : oY4.cls = .type "tuple")
    (DY4 : oY4.data = .seq iY4 nY4)
    (ZY4 : iY4.size ≤ sizeLine)
    (VY4 : Vals [V.int 1, V.int 2] iY4.toList)
    (KY5 : PySem.W.nsIn K dY "tell" = some (some (.ref aY5)))
    (LY5 : K.lookup aY5 = some oY5)
    (CY5 : oY5.cls = .type "tuple")
    (DY5 : oY5.data = .seq iY5 nY5)
    (ZY5 : iY5.size ≤ sizeLine)
    (VY5 : Vals [V.int 1] iY5.toList)
    (KY6 : PySem.W.nsIn K dY "end" = some (some (.ref aY6)))
    (LY6 : K.lookup aY6 = some oY6)
    (CY6 : oY6.cls = .type "tuple")
    (DY6 : oY6.data = .seq iY6 nY6)
    (ZY6 : iY6.size ≤ sizeLine)
    (VY6 : Vals [] iY6.toList)
    (KY7 : PySem.W.nsIn K dY "if" = some (some (.ref aY7)))
    (LY7 : K.lookup aY7 = some oY7)
    (CY7 : oY7.cls = .type "tuple")
    (DY7 : oY7.data = .seq iY7 nY7)
    (ZY7 : iY7.size ≤ sizeLine)
    (VY7 : Vals [V.int 1] iY7.toList)
    (KY8 : PySem.W.nsIn K dY "while" = some (some (.ref aY8)))
    (LY8 : K.lookup aY8 = some oY8)
    (CY8 : oY8.cls = .type "tuple")
    (DY8 : oY8.data = .seq iY8 nY8)
    (ZY8 : iY8.size ≤ sizeLine)
    (VY8 : Vals [V.int 1] iY8.toList)
    (KY9 : PySem.W.nsIn K dY "times" = some (some (.ref aY9)))
    (LY9 : K.lookup aY9 = some oY9)
    (CY9 : oY9.cls = .type "tuple")
    (DY9 : oY9.data = .seq iY9 nY9)
    (ZY9 : iY9.size ≤ sizeLine)
    (VY9 : Vals [] iY9.toList)
    (z_type : PySem.W.nsIn K mainGlobals "type" = some none)
    (z_int : PySem.W.nsIn K mainGlobals "int" = some none)
    (z_str : PySem.W.nsIn K mainGlobals "str" = some none)
    (z_bool : PySem.W.nsIn K mainGlobals "bool" = some none)
    (z_dict : PySem.W.nsIn K mainGlobals "dict" = some none)
    (z_list : PySem.W.nsIn K mainGlobals "list" = some none)
    (z_tuple : PySem.W.nsIn K mainGlobals "tuple" = some none)
    (z_len : PySem.W.nsIn K mainGlobals "len" = some none)
    (z_range : PySem.W.nsIn K mainGlobals "range" = some none)
    (z_max : PySem.W.nsIn K mainGlobals "max" = some none)
    (z_isinstance : PySem.W.nsIn K mainGlobals "isinstance" = some none)
    (z_all : PySem.W.nsIn K mainGlobals "all" = some none)
    (z_enumerate : PySem.W.nsIn K mainGlobals "enumerate" = some none)
    (z_sorted : PySem.W.nsIn K mainGlobals "sorted" = some none)
    (z_super : PySem.W.nsIn K mainGlobals "super" = some none)
    (rest : ∀ CP CL CB CN fI fXB ccB cdaB fXN ccN cdaN fE fG fS p1 p2 p3 g1 g2 g3 e0 fdI fdXB fdXN fdE fdG fdS gd1 gd2 gd3, Wall P K w mg CP CL CB CN fI fXB ccB cdaB fXN ccN cdaN fE fG fS p1 p2 p3 g1 g2 g3 e0 fdI fdXB fdXN fdE fdG fdS gd1 gd2 gd3 → R) : R := by
  have none := fun {x : Str} (z : PySem.W.nsIn K mainGlobals x = some none) => PySem.W.mg_none_of X G z
  have cl : Cls K CP := ⟨pg, hd, po, sa⟩
  have PC : PCls K CP := ⟨cl, n1, n2, n3, n4⟩
  have FE := fun_mk (st := s_Program_eq) lE cE kE
  have FG := fun_mk (st := s_Program_getitem) lG cG kG
  have FS := fun_mk (st := s_Program_with_statement) lS cS kS
  have FI : FunD K "__init__" "Program.__init__" (defArgs s_Program_init) (defBody s_Program_init) (defScope s_Program_init) [.ref e0] [] fI _ := ⟨⟨_, _, _, _, _, _, _, _, _, _, rfl, lI, cI, .inr ⟨(fun z => nomatch z), TI, oI, itI, nI, rfl, tI, dI, vI⟩, .inl rfl⟩, kI⟩
  have Fp1 := fun_mk (st := s_Program_lists) lp1 cp1 kp1
  have Fp2 := fun_mk (st := s_Program_block) lp2 cp2 kp2
  have Fp3 := fun_mk (st := s_Program_kept) lp3 cp3 kp3
  have bI := init_binds FI
  have oexCB : OexC K CB := ⟨⟨_, _, _, _, _, _, _, _, _, _, _, _, _, _, _, clsCB, refCB⟩, saCB, bCB, tCB, kCB⟩
  have oexCN : OexC K CN := ⟨⟨_, _, _, _, _, _, _, _, _, _, _, _, _, _, _, clsCN, refCN⟩, saCN, bCN, tCN, kCN⟩
  exact rest CP CL CB CN fI fXCB ccCB cdaCB fXCN ccCN cdaCN fE fG fS Pp1 Pp2 Pp3 fp1 fp2 fp3 e0 _ _ _ _ _ _ _ _ _
    { T := ⟨none z_type, none z_int, none z_str, none z_bool, none z_dict, none z_list, none z_tuple, none z_len, none z_range, none z_max, none z_isinstance⟩
      al := none z_all
      Cs := ⟨⟨_, PySem.W.mg_of X G c1⟩, ⟨_, PySem.W.mg_of X G c2⟩, ⟨_, PySem.W.mg_of X G c3⟩, ⟨_, PySem.W.mg_of X G c4⟩, ⟨_, PySem.W.mg_of X G c5⟩, ⟨_, PySem.W.mg_of X G c6⟩, none z_all, none z_enumerate⟩
      Tb := ⟨⟨dX, PySem.W.mg_of X G gX, tab_blocksAt ⟨_, _, ⟨atX, litX, lowX⟩⟩ (at_mk KX0 LX0 CX0 DX0 ZX0 VX0) (at_mk KX1 LX1 CX1 DX1 ZX1 VX1) (at_mk KX2 LX2 CX2 DX2 ZX2 VX2) (at_mk KX3 LX3 CX3 DX3 ZX3 VX3) (at_mk KX4 LX4 CX4 DX4 ZX4 VX4) (at_mk KX5 LX5 CX5 DX5 ZX5 VX5) (at_mk KX6 LX6 CX6 DX6 ZX6 VX6) (at_mk KX7 LX7 CX7 DX7 ZX7 VX7) (at_mk KX8 LX8 CX8 DX8 ZX8 VX8) (at_mk KX9 LX9 CX9 DX9 ZX9 VX9)⟩, ⟨dY, PySem.W.mg_of X G gY, tab_listsAt ⟨_, _, ⟨atY, litY, lowY⟩⟩ (at_mk KY0 LY0 CY0 DY0 ZY0 VY0) (at_mk KY1 LY1 CY1 DY1 ZY1 VY1) (at_mk KY2 LY2 CY2 DY2 ZY2 VY2) (at_mk KY3 LY3 CY3 DY3 ZY3 VY3) (at_mk KY4 LY4 CY4 DY4 ZY4 VY4) (at_mk KY5 LY5 CY5 DY5 ZY5 VY5) (at_mk KY6 LY6 CY6 DY6 ZY6 VY6) (at_mk KY7 LY7 CY7 DY7 ZY7 VY7) (at_mk KY8 LY8 CY8 DY8 ZY8 VY8) (at_mk KY9 LY9 CY9 DY9 ZY9 VY9)⟩⟩
      Wt := ⟨aTW, PySem.W.mg_of X G KTW, fun H => .inr ⟨oTW, iTW, nTW, LTW, CTW, DTW, ZTW, VTW⟩⟩
      PC := PC
      XL := ⟨PySem.W.mg_of X G aCL, xCL, kCL, bCL, tCL⟩
      FI := FI
      gB := PySem.W.mg_of X G aCB
      FB := ⟨_, _, _, _, _, _, _, _, rfl, lXCB, cXCB⟩
      SB := ⟨oexCB, ⟨_, cd_CB⟩, opS, hmSCB, hBSCB, hsSCB, ⟨_, _, _, cellSCB⟩, ⟨_, _, _, _, _, _, codeSCB, fileS_CB, feqSCB⟩, topS, none z_super⟩
      nB := nCB
      iB := iXCB
      tB := tXCB
      gN := PySem.W.mg_of X G aCN
      FN := ⟨_, _, _, _, _, _, _, _, rfl, lXCN, cXCN⟩
      SN := ⟨oexCN, ⟨_, cd_CN⟩, opS, hmSCN, hBSCN, hsSCN, ⟨_, _, _, cellSCN⟩, ⟨_, _, _, _, _, _, codeSCN, fileS_CN, feqSCN⟩, topS, none z_super⟩
      nN := nCN
      iN := iXCN
      tN := tXCN
      C := ⟨PySem.W.mg_of X G aCN, PySem.W.mg_of X G aCL, exm_mk iCN tCN bCN sNN, exm_mk iCN tCN bCN sLN, exm_mk iCL tCL bCL sLL, ⟨zgCN, zkCN, bCN, dCN⟩, nCN⟩
      Y := ⟨PySem.W.mg_of X G aP, ⟨mk, aI, iI, kc⟩, bI, aE, iE, FE.binds (ps := ["self", "other"]) (fun _ _ _ _ _ _ us hl => match us, hl with | [_, _], _ => rfl), nft⟩
      M := ⟨PySem.W.mg_of X G aP, ⟨mk, aI, iI, kc⟩, bI, aG, iG, fnG, FG.binds (ps := ["self", "path"]) (fun _ _ _ _ _ _ us hl => match us, hl with | [_, _], _ => rfl), ⟨aS, iS, kS⟩, FS.binds (ps := ["self", "path", "statement"]) (fun _ _ _ _ _ _ us hl => match us, hl with | [_, _, _], _ => rfl), ⟨bp1, gp1, tp1, ⟨_, ep1⟩⟩, ⟨bp2, gp2, tp2, ⟨_, ep2⟩⟩, ⟨bp3, gp3, tp3, ⟨_, ep3⟩⟩, Fp1.binds (ps := ["self"]) (fun _ _ _ _ _ _ us hl => match us, hl with | [_], _ => rfl), Fp2.binds (ps := ["self"]) (fun _ _ _ _ _ _ us hl => match us, hl with | [_], _ => rfl), Fp3.binds (ps := ["self"]) (fun _ _ _ _ _ _ us hl => match us, hl with | [_], _ => rfl), Fp1, Fp2, Fp3⟩
      FE := FE
      FG := FG
      FS := FS
      c1 := ha
      c2 := hn
      c3 := htk
      c4 := hm
      kt := kit_mk icP tyP rfl stP }
theorem end_law {P : Program} {w : World} {K : PySem.W.Frag} {mg : Str → Option Value} {CP CL CB CN fI fXB ccB cdaB fXN ccN cdaN fE fG fS p1 p2 p3 g1 g2 g3 e0 : Addr} {fdI fdXB fdXN fdE fdG fdS gd1 gd2 gd3 : FuncData} (base : Heap) (L : Wall P K w mg CP CL CB CN fI fXB ccB cdaB fXN ccN cdaN fE fG fS p1 p2 p3 g1 g2 g3 e0 fdI fdXB fdXN fdE fdG fdS gd1 gd2 gd3)
    {f_is_number : Addr} {d_is_number : FuncData} (D_is_number : Dn K mg "is_number" s_is_number ["value", "most"] f_is_number d_is_number)
    {f_is_name : Addr} {d_is_name : FuncData} (D_is_name : Dn K mg "is_name" s_is_name ["value"] f_is_name d_is_name)
    {f_are_lists : Addr} {d_are_lists : FuncData} (D_are_lists : Dn K mg "are_lists" s_are_lists ["lists", "kept"] f_are_lists d_are_lists)
    {f_blocks_of : Addr} {d_blocks_of : FuncData} (D_blocks_of : Dn K mg "blocks_of" s_blocks_of ["statement"] f_blocks_of d_blocks_of)
    {f_walk : Addr} {d_walk : FuncData} (D_walk : Dn K mg "walk" s_walk ["block", "around"] f_walk d_walk)
    {f_is_faulty : Addr} {d_is_faulty : FuncData} (D_is_faulty : Dn K mg "is_faulty" s_is_faulty ["lists", "path", "statement"] f_is_faulty d_is_faulty)
    {f_checked_rows : Addr} {d_checked_rows : FuncData} (D_checked_rows : Dn K mg "checked_rows" s_checked_rows ["lists", "block"] f_checked_rows d_checked_rows)
    {f_found_at : Addr} {d_found_at : FuncData} (D_found_at : Dn K mg "found_at" s_found_at ["block", "path"] f_found_at d_found_at)
    {f_with_item : Addr} {d_with_item : FuncData} (D_with_item : Dn K mg "with_item" s_with_item ["row", "at", "value"] f_with_item d_with_item)
    {f_with_statement_at : Addr} {d_with_statement_at : FuncData} (D_with_statement_at : Dn K mg "with_statement_at" s_with_statement_at ["block", "path", "statement"] f_with_statement_at d_with_statement_at)
    {f_is_send : Addr} {d_is_send : FuncData} (D_is_send : Dn K mg "is_send" s_is_send ["program", "path"] f_is_send d_is_send)
    {f_mended : Addr} {d_mended : FuncData} (D_mended : Dn K mg "mended" s_mended ["program", "paths", "lists"] f_mended d_mended)
    {f_law_mix : Addr} {d_law_mix : FuncData} (D_law_mix : Dn K mg "_law_mix" s_law_mix ["_law_script", "_law_seed"] f_law_mix d_law_mix)
    {f_law_next : Addr} {d_law_next : FuncData} (D_law_next : Dn K mg "_law_next" s_law_next ["_law_h", "_law_cap"] f_law_next d_law_next)
    {f_law_turned : Addr} {d_law_turned : FuncData} (D_law_turned : Dn K mg "_law_turned" s_law_turned ["_law_h", "_law_menu", "_law_many"] f_law_turned d_law_turned)
    {f_law_lists : Addr} {d_law_lists : FuncData} (D_law_lists : Dn K mg "_law_lists" s_law_lists ["_law_h"] f_law_lists d_law_lists)
    {f_law_list : Addr} {d_law_list : FuncData} (D_law_list : Dn K mg "_law_list" s_law_list ["_law_h", "_law_lists_here"] f_law_list d_law_list)
    {f_law_statement : Addr} {d_law_statement : FuncData} (D_law_statement : Dn K mg "_law_statement" s_law_statement ["_law_h", "_law_lists_here", "_law_deep", "_law_room"] f_law_statement d_law_statement)
    {f_law_block : Addr} {d_law_block : FuncData} (D_law_block : Dn K mg "_law_block" s_law_block ["_law_h", "_law_lists_here", "_law_deep", "_law_room"] f_law_block d_law_block)
    {f_law_program : Addr} {d_law_program : FuncData} (D_law_program : Dn K mg "_law_program" s_law_program ["_law_h", "_law_most"] f_law_program d_law_program)
    {f_law_blocks : Addr} {d_law_blocks : FuncData} (D_law_blocks : Dn K mg "_law_blocks" s_law_blocks ["_law_statement_here"] f_law_blocks d_law_blocks)
    {f_law_rows : Addr} {d_law_rows : FuncData} (D_law_rows : Dn K mg "_law_rows" s_law_rows ["_law_block_here", "_law_path"] f_law_rows d_law_rows)
    {f_law_keyed : Addr} {d_law_keyed : FuncData} (D_law_keyed : Dn K mg "_law_keyed" s_law_keyed ["_law_block_here", "_law_path", "_law_paths"] f_law_keyed d_law_keyed)
    {f_law_told : Addr} {d_law_told : FuncData} (D_law_told : Dn K mg "_law_told" s_law_told ["_law_program_here", "_law_paths", "_law_lists_here"] f_law_told d_law_told)
    {f_law : Addr} {d_law : FuncData} (D_law : Dn K mg "law" s_law ["_law_script"] f_law d_law)
    : Em.FnOk2 P w K mg base 19 f_law d_law ["_law_script"] (spLaw K) := by
  have RB : RaisesIB P w K mg base 3 CB := by
    obtain ⟨m, j, q1, q2, q3, q4, x0, x1, x2, x3, x4, x5, x6, x7, x8, hI, hm, hS⟩ := xi_is
    exact raises_ib L.FB hI L.SB L.nB hm (fun A outer s H E => hS P w K mg base ccB cdaB fXB A outer s H E) L.iB L.tB L.gB
  have RN : RaisesNS P w K mg base 3 CN := by
    obtain ⟨m, j, q1, x0, x1, x2, x3, x4, x5, x6, x7, x8, hI, hS⟩ := ns_is
    exact raises_ns L.FN hI L.SN L.nN (fun A outer s H E => hS P w K mg base ccN cdaN fXN A outer s H E) L.iN L.tN L.gN
  have GR := ok_rows (base := base) D_checked_rows.F L.T L.Cs L.Tb L.Wt D_is_number D_is_faulty D_blocks_of D_walk RB (by decide)
  have GI := ok_pinit L.FI L.T L.Cs L.PC L.XL D_are_lists D_is_name D_checked_rows GR
  have GE : FnOk P w K mg base CX0 1 _ _ _ _ := ok_peq L.FE L.T L.PC L.Y.gP L.c1 L.c2 L.c3 L.c4 L.kt
  have GGet := ok_getitem L.FG L.T L.Tb L.PC D_is_number D_blocks_of D_found_at RN
  have GWS := ok_ws L.FS L.T L.Tb L.PC L.Y.gP L.Y.mkP D_is_number D_blocks_of D_found_at D_with_statement_at D_with_item RN L.Y.bI GI
  have GSd : FnOk P w K mg base CX0 3 _ _ _ _ := ok_send D_is_send.F L.T L.Tb L.PC L.M D_is_number D_blocks_of D_found_at
  have GM := ok_mended D_mended.F L.T L.al L.PC L.XL L.M D_is_send GSd RN GGet GWS GI
  have GT := ok_told D_law_told.F L.C D_mended GM
  have GP : FnOk P w K mg base CX0 9 _ _ _ _ := ok_program D_law_program.F L.T D_law_next D_law_list D_law_block D_law_statement D_law_lists D_law_turned
  exact ok_law D_law.F L.T L.PC L.Y D_law_mix D_law_next D_law_program D_law_told D_law_rows D_law_keyed GP GT GI GE (ok_lrows D_law_rows L.T D_law_blocks 5) (ok_keyed D_law_keyed L.T D_law_blocks 5)
end W1
end
section
set_option maxRecDepth 100000
set_option maxHeartbeats 4000000
/-! Z7: the end -/
namespace W1
open PySem L2 Cm
theorem walk_ {l : PySem.W.OpenLaw} {q : Program} {loose : List Str} {XP : (Str → Option Value) → Heap → Prop} {YP : World → Heap → Prop} {d : DefRec} {K : Params → PySem.W.Frag} (hn : l.most = some 63) (hdf : d.params.defaults = [])
    (hY : ∀ (w : World) (h : Heap), YP w h → (K w.params).In h)
    (F : ∀ (w : World) (mg : Str → Option Value) (fa : Addr) (h : Heap), (K w.params).In h → h.Ns mainGlobals mg → mg d.name = some (.ref fa) →
      ∃ fd : FuncData, (∀ (s : Shared) (u : Value), BindsTo s fd ⟨[u], []⟩ [("_law_script", u)]) ∧ ∀ base : Heap, (K w.params).In base → base.Ns mainGlobals mg → Em.FnOk2 l.prog w (K w.params) mg base 19 fa fd ["_law_script"] (spLaw (K w.params))) :
    Er.WalkE q loose XP YP l.row.toRowW d [] :=
  Em.walk2 (n := 63) (k := 19) (x := "_law_script") (sp := fun w => spLaw (K w.params)) hn (by decide) hdf ⟨rfl, by decide, by decide⟩ hY F (fun w H a ns hl _ hS => ⟨a, ns, rfl, hl, hS, fun _ => rfl⟩)
end W1
open PySem PySem.W PyProof.Rows
namespace Er
set_option maxRecDepth 100000 in
set_option maxHeartbeats 0 in
theorem aux : PySem.Challenge.rw_answerparts_k20_mends_made.Holds := by
  w_on; o_law; k_head; (case hw => w_witness2)
  k_fill
  refine W1.walk_ (l := PySem.Challenge.rw_answerparts_k20_mends_made) rfl rfl (fun w h Y => PySem.W.kIn_of Y) ?F
  case F =>
    intro w mg fa h KX G hmg
    refine' Cm.with_dn (x := "is_number") (st := W1.s_is_number) (ps := ["value", "most"]) KX G ?a_is_number ?l_is_number ?c_is_number ?k_is_number (fun fd F => F.binds (ps := ["value", "most"]) (fun _ _ _ _ _ _ us hl => match us, hl with | [_, _], _ => rfl)) ?_
    (case a_is_number => k_is); (case l_is_number => k_is); (case c_is_number => k_is); (case k_is_number => k_is)
    intro f_is_number d_is_number D_is_number
    refine' Cm.with_dn (x := "is_name") (st := W1.s_is_name) (ps := ["value"]) KX G ?a_is_name ?l_is_name ?c_is_name ?k_is_name (fun fd F => F.binds (ps := ["value"]) (fun _ _ _ _ _ _ us hl => match us, hl with | [_], _ => rfl)) ?_
    (case a_is_name => k_is); (case l_is_name => k_is); (case c_is_name => k_is); (case k_is_name => k_is)
    intro f_is_name d_is_name D_is_name
    refine' Cm.with_dn (x := "are_lists") (st := W1.s_are_lists) (ps := ["lists", "kept"]) KX G ?a_are_lists ?l_are_lists ?c_are_lists ?k_are_lists (fun fd F => F.binds (ps := ["lists", "kept"]) (fun _ _ _ _ _ _ us hl => match us, hl with | [_, _], _ => rfl)) ?_
    (case a_are_lists => k_is); (case l_are_lists => k_is); (case c_are_lists => k_is); (case k_are_lists => k_is)
    intro f_are_lists d_are_lists D_are_lists
    refine' Cm.with_dn (x := "blocks_of") (st := W1.s_blocks_of) (ps := ["statement"]) KX G ?a_blocks_of ?l_blocks_of ?c_blocks_of ?k_blocks_of (fun fd F => F.binds (ps := ["statement"]) (fun _ _ _ _ _ _ us hl => match us, hl with | [_], _ => rfl)) ?_
    (case a_blocks_of => k_is); (case l_blocks_of => k_is); (case c_blocks_of => k_is); (case k_blocks_of => k_is)
    intro f_blocks_of d_blocks_of D_blocks_of
    refine' Cm.with_dn (x := "walk") (st := W1.s_walk) (ps := ["block", "around"]) KX G ?a_walk ?l_walk ?c_walk ?k_walk (fun fd F => F.binds (ps := ["block", "around"]) (fun _ _ _ _ _ _ us hl => match us, hl with | [_, _], _ => rfl)) ?_
    (case a_walk => k_is); (case l_walk => k_is); (case c_walk => k_is); (case k_walk => k_is)
    intro f_walk d_walk D_walk
    refine' Cm.with_dn (x := "is_faulty") (st := W1.s_is_faulty) (ps := ["lists", "path", "statement"]) KX G ?a_is_faulty ?l_is_faulty ?c_is_faulty ?k_is_faulty (fun fd F => F.binds (ps := ["lists", "path", "statement"]) (fun _ _ _ _ _ _ us hl => match us, hl with | [_, _, _], _ => rfl)) ?_
    (case a_is_faulty => k_is); (case l_is_faulty => k_is); (case c_is_faulty => k_is); (case k_is_faulty => k_is)
    intro f_is_faulty d_is_faulty D_is_faulty
    refine' Cm.with_dn (x := "checked_rows") (st := W1.s_checked_rows) (ps := ["lists", "block"]) KX G ?a_checked_rows ?l_checked_rows ?c_checked_rows ?k_checked_rows (fun fd F => F.binds (ps := ["lists", "block"]) (fun _ _ _ _ _ _ us hl => match us, hl with | [_, _], _ => rfl)) ?_
    (case a_checked_rows => k_is); (case l_checked_rows => k_is); (case c_checked_rows => k_is); (case k_checked_rows => k_is)
    intro f_checked_rows d_checked_rows D_checked_rows
    refine' Cm.with_dn (x := "found_at") (st := W1.s_found_at) (ps := ["block", "path"]) KX G ?a_found_at ?l_found_at ?c_found_at ?k_found_at (fun fd F => F.binds (ps := ["block", "path"]) (fun _ _ _ _ _ _ us hl => match us, hl with | [_, _], _ => rfl)) ?_
    (case a_found_at => k_is); (case l_found_at => k_is); (case c_found_at => k_is); (case k_found_at => k_is)
    intro f_found_at d_found_at D_found_at
    refine' Cm.with_dn (x := "with_item") (st := W1.s_with_item) (ps := ["row", "at", "value"]) KX G ?a_with_item ?l_with_item ?c_with_item ?k_with_item (fun fd F => F.binds (ps := ["row", "at", "value"]) (fun _ _ _ _ _ _ us hl => match us, hl with | [_, _, _], _ => rfl)) ?_
    (case a_with_item => k_is); (case l_with_item => k_is); (case c_with_item => k_is); (case k_with_item => k_is)
    intro f_with_item d_with_item D_with_item
    refine' Cm.with_dn (x := "with_statement_at") (st := W1.s_with_statement_at) (ps := ["block", "path", "statement"]) KX G ?a_with_statement_at ?l_with_statement_at ?c_with_statement_at ?k_with_statement_at (fun fd F => F.binds (ps := ["block", "path", "statement"]) (fun _ _ _ _ _ _ us hl => match us, hl with | [_, _, _], _ => rfl)) ?_
    (case a_with_statement_at => k_is); (case l_with_statement_at => k_is); (case c_with_statement_at => k_is); (case k_with_statement_at => k_is)
    intro f_with_statement_at d_with_statement_at D_with_statement_at
    refine' Cm.with_dn (x := "is_send") (st := W1.s_is_send) (ps := ["program", "path"]) KX G ?a_is_send ?l_is_send ?c_is_send ?k_is_send (fun fd F => F.binds (ps := ["program", "path"]) (fun _ _ _ _ _ _ us hl => match us, hl with | [_, _], _ => rfl)) ?_
    (case a_is_send => k_is); (case l_is_send => k_is); (case c_is_send => k_is); (case k_is_send => k_is)
    intro f_is_send d_is_send D_is_send
    refine' Cm.with_dn (x := "mended") (st := W1.s_mended) (ps := ["program", "paths", "lists"]) KX G ?a_mended ?l_mended ?c_mended ?k_mended (fun fd F => F.binds (ps := ["program", "paths", "lists"]) (fun _ _ _ _ _ _ us hl => match us, hl with | [_, _, _], _ => rfl)) ?_
    (case a_mended => k_is); (case l_mended => k_is); (case c_mended => k_is); (case k_mended => k_is)
    intro f_mended d_mended D_mended
    refine' Cm.with_dn (x := "_law_mix") (st := W1.s_law_mix) (ps := ["_law_script", "_law_seed"]) KX G ?a_law_mix ?l_law_mix ?c_law_mix ?k_law_mix (fun fd F => F.binds (ps := ["_law_script", "_law_seed"]) (fun _ _ _ _ _ _ us hl => match us, hl with | [_, _], _ => rfl)) ?_
    (case a_law_mix => k_is); (case l_law_mix => k_is); (case c_law_mix => k_is); (case k_law_mix => k_is)
    intro f_law_mix d_law_mix D_law_mix
    refine' Cm.with_dn (x := "_law_next") (st := W1.s_law_next) (ps := ["_law_h", "_law_cap"]) KX G ?a_law_next ?l_law_next ?c_law_next ?k_law_next (fun fd F => F.binds (ps := ["_law_h", "_law_cap"]) (fun _ _ _ _ _ _ us hl => match us, hl with | [_, _], _ => rfl)) ?_
    (case a_law_next => k_is); (case l_law_next => k_is); (case c_law_next => k_is); (case k_law_next => k_is)
    intro f_law_next d_law_next D_law_next
    refine' Cm.with_dn (x := "_law_turned") (st := W1.s_law_turned) (ps := ["_law_h", "_law_menu", "_law_many"]) KX G ?a_law_turned ?l_law_turned ?c_law_turned ?k_law_turned (fun fd F => F.binds (ps := ["_law_h", "_law_menu", "_law_many"]) (fun _ _ _ _ _ _ us hl => match us, hl with | [_, _, _], _ => rfl)) ?_
    (case a_law_turned => k_is); (case l_law_turned => k_is); (case c_law_turned => k_is); (case k_law_turned => k_is)
    intro f_law_turned d_law_turned D_law_turned
    refine' Cm.with_dn (x := "_law_lists") (st := W1.s_law_lists) (ps := ["_law_h"]) KX G ?a_law_lists ?l_law_lists ?c_law_lists ?k_law_lists (fun fd F => F.binds (ps := ["_law_h"]) (fun _ _ _ _ _ _ us hl => match us, hl with | [_], _ => rfl)) ?_
    (case a_law_lists => k_is); (case l_law_lists => k_is); (case c_law_lists => k_is); (case k_law_lists => k_is)
    intro f_law_lists d_law_lists D_law_lists
    refine' Cm.with_dn (x := "_law_list") (st := W1.s_law_list) (ps := ["_law_h", "_law_lists_here"]) KX G ?a_law_list ?l_law_list ?c_law_list ?k_law_list (fun fd F => F.binds (ps := ["_law_h", "_law_lists_here"]) (fun _ _ _ _ _ _ us hl => match us, hl with | [_, _], _ => rfl)) ?_
    (case a_law_list => k_is); (case l_law_list => k_is); (case c_law_list => k_is); (case k_law_list => k_is)
    intro f_law_list d_law_list D_law_list
    refine' Cm.with_dn (x := "_law_statement") (st := W1.s_law_statement) (ps := ["_law_h", "_law_lists_here", "_law_deep", "_law_room"]) KX G ?a_law_statement ?l_law_statement ?c_law_statement ?k_law_statement (fun fd F => F.binds (ps := ["_law_h", "_law_lists_here", "_law_deep", "_law_room"]) (fun _ _ _ _ _ _ us hl => match us, hl with | [_, _, _, _], _ => rfl)) ?_
    (case a_law_statement => k_is); (case l_law_statement => k_is); (case c_law_statement => k_is); (case k_law_statement => k_is)
    intro f_law_statement d_law_statement D_law_statement
    refine' Cm.with_dn (x := "_law_block") (st := W1.s_law_block) (ps := ["_law_h", "_law_lists_here", "_law_deep", "_law_room"]) KX G ?a_law_block ?l_law_block ?c_law_block ?k_law_block (fun fd F => F.binds (ps := ["_law_h", "_law_lists_here", "_law_deep", "_law_room"]) (fun _ _ _ _ _ _ us hl => match us, hl with | [_, _, _, _], _ => rfl)) ?_
    (case a_law_block => k_is); (case l_law_block => k_is); (case c_law_block => k_is); (case k_law_block => k_is)
    intro f_law_block d_law_block D_law_block
    refine' Cm.with_dn (x := "_law_program") (st := W1.s_law_program) (ps := ["_law_h", "_law_most"]) KX G ?a_law_program ?l_law_program ?c_law_program ?k_law_program (fun fd F => F.binds (ps := ["_law_h", "_law_most"]) (fun _ _ _ _ _ _ us hl => match us, hl with | [_, _], _ => rfl)) ?_
    (case a_law_program => k_is); (case l_law_program => k_is); (case c_law_program => k_is); (case k_law_program => k_is)
    intro f_law_program d_law_program D_law_program
    refine' Cm.with_dn (x := "_law_blocks") (st := W1.s_law_blocks) (ps := ["_law_statement_here"]) KX G ?a_law_blocks ?l_law_blocks ?c_law_blocks ?k_law_blocks (fun fd F => F.binds (ps := ["_law_statement_here"]) (fun _ _ _ _ _ _ us hl => match us, hl with | [_], _ => rfl)) ?_
    (case a_law_blocks => k_is); (case l_law_blocks => k_is); (case c_law_blocks => k_is); (case k_law_blocks => k_is)
    intro f_law_blocks d_law_blocks D_law_blocks
    refine' Cm.with_dn (x := "_law_rows") (st := W1.s_law_rows) (ps := ["_law_block_here", "_law_path"]) KX G ?a_law_rows ?l_law_rows ?c_law_rows ?k_law_rows (fun fd F => F.binds (ps := ["_law_block_here", "_law_path"]) (fun _ _ _ _ _ _ us hl => match us, hl with | [_, _], _ => rfl)) ?_
    (case a_law_rows => k_is); (case l_law_rows => k_is); (case c_law_rows => k_is); (case k_law_rows => k_is)
    intro f_law_rows d_law_rows D_law_rows
    refine' Cm.with_dn (x := "_law_keyed") (st := W1.s_law_keyed) (ps := ["_law_block_here", "_law_path", "_law_paths"]) KX G ?a_law_keyed ?l_law_keyed ?c_law_keyed ?k_law_keyed (fun fd F => F.binds (ps := ["_law_block_here", "_law_path", "_law_paths"]) (fun _ _ _ _ _ _ us hl => match us, hl with | [_, _, _], _ => rfl)) ?_
    (case a_law_keyed => k_is); (case l_law_keyed => k_is); (case c_law_keyed => k_is); (case k_law_keyed => k_is)
    intro f_law_keyed d_law_keyed D_law_keyed
    refine' Cm.with_dn (x := "_law_told") (st := W1.s_law_told) (ps := ["_law_program_here", "_law_paths", "_law_lists_here"]) KX G ?a_law_told ?l_law_told ?c_law_told ?k_law_told (fun fd F => F.binds (ps := ["_law_program_here", "_law_paths", "_law_lists_here"]) (fun _ _ _ _ _ _ us hl => match us, hl with | [_, _, _], _ => rfl)) ?_
    (case a_law_told => k_is); (case l_law_told => k_is); (case c_law_told => k_is); (case k_law_told => k_is)
    intro f_law_told d_law_told D_law_told
    refine' Cm.with_dn (x := "law") (st := W1.s_law) (ps := ["_law_script"]) KX G ?a_law ?l_law ?c_law ?k_law (fun fd F => F.binds (ps := ["_law_script"]) (fun _ _ _ _ _ _ us hl => match us, hl with | [_], _ => rfl)) ?_
    (case a_law => k_is); (case l_law => k_is); (case c_law => k_is); (case k_law => k_is)
    intro f_law d_law D_law
    refine' W1.with_wall (P := PySem.Challenge.rw_answerparts_k20_mends_made.prog) (w := w) KX G ?w_aP ?w_pg ?w_hd ?w_po ?w_sa ?w_n1 ?w_n2 ?w_n3 ?w_n4 ?w_ha ?w_hn ?w_htk ?w_hm ?w_mk ?w_kc ?w_icP ?w_tyP ?w_stP ?w_nft ?w_aI ?w_iI ?w_lI ?w_cI ?w_kI ?w_tI ?w_dI ?w_vI ?w_bp1 ?w_gp1 ?w_tp1 ?w_ep1 ?w_lp1 ?w_cp1 ?w_kp1 ?w_bp2 ?w_gp2 ?w_tp2 ?w_ep2 ?w_lp2 ?w_cp2 ?w_kp2 ?w_bp3 ?w_gp3 ?w_tp3 ?w_ep3 ?w_lp3 ?w_cp3 ?w_kp3 ?w_aE ?w_iE ?w_lE ?w_cE ?w_kE ?w_aG ?w_iG ?w_lG ?w_cG ?w_kG ?w_aS ?w_iS ?w_lS ?w_cS ?w_kS ?w_fnG ?w_aCL ?w_kCL ?w_bCL ?w_tCL ?w_iCL ?w_dCL ?w_aCB ?w_kCB ?w_bCB ?w_tCB ?w_iCB ?w_dCB ?w_aCN ?w_kCN ?w_bCN ?w_tCN ?w_iCN ?w_dCN ?w_xCL ?w_sNN ?w_sLN ?w_sLL ?w_zgCB ?w_zkCB ?w_nCB ?w_saCB ?w_clsCB ?w_refCB ?w_cd_CB ?w_hmSCB ?w_hBSCB ?w_hsSCB ?w_iXCB ?w_tXCB ?w_lXCB ?w_cXCB ?w_cellSCB ?w_codeSCB ?w_fileS_CB ?w_feqSCB ?w_zgCN ?w_zkCN ?w_nCN ?w_saCN ?w_clsCN ?w_refCN ?w_cd_CN ?w_hmSCN ?w_hBSCN ?w_hsSCN ?w_iXCN ?w_tXCN ?w_lXCN ?w_cXCN ?w_cellSCN ?w_codeSCN ?w_fileS_CN ?w_feqSCN ?w_opS ?w_topS ?w_c1 ?w_c2 ?w_c3 ?w_c4 ?w_c5 ?w_c6 ?w_KTW ?w_LTW ?w_CTW ?w_DTW ?w_ZTW ?w_VTW ?w_gX ?w_atX ?w_litX ?w_lowX ?w_KX0 ?w_LX0 ?w_CX0 ?w_DX0 ?w_ZX0 ?w_VX0 ?w_KX1 ?w_LX1 ?w_CX1 ?w_DX1 ?w_ZX1 ?w_VX1 ?w_KX2 ?w_LX2 ?w_CX2 ?w_DX2 ?w_ZX2 ?w_VX2 ?w_KX3 ?w_LX3 ?w_CX3 ?w_DX3 ?w_ZX3 ?w_VX3 ?w_KX4 ?w_LX4 ?w_CX4 ?w_DX4 ?w_ZX4 ?w_VX4 ?w_KX5 ?w_LX5 ?w_CX5 ?w_DX5 ?w_ZX5 ?w_VX5 ?w_KX6 ?w_LX6 ?w_CX6 ?w_DX6 ?w_ZX6 ?w_VX6 ?w_KX7 ?w_LX7 ?w_CX7 ?w_DX7 ?w_ZX7 ?w_VX7 ?w_KX8 ?w_LX8 ?w_CX8 ?w_DX8 ?w_ZX8 ?w_VX8 ?w_KX9 ?w_LX9 ?w_CX9 ?w_DX9 ?w_ZX9 ?w_VX9 ?w_gY ?w_atY ?w_litY ?w_lowY ?w_KY0 ?w_LY0 ?w_CY0 ?w_DY0 ?w_ZY0 ?w_VY0 ?w_KY1 ?w_LY1 ?w_CY1 ?w_DY1 ?w_ZY1 ?w_VY1 ?w_KY2 ?w_LY2 ?w_CY2 ?w_DY2 ?w_ZY2 ?w_VY2 ?w_KY3 ?w_LY3 ?w_CY3 ?w_DY3 ?w_ZY3 ?w_VY3 ?w_KY4 ?w_LY4 ?w_CY4 ?w_DY4 ?w_ZY4 ?w_VY4 ?w_KY5 ?w_LY5 ?w_CY5 ?w_DY5 ?w_ZY5 ?w_VY5 ?w_KY6 ?w_LY6 ?w_CY6 ?w_DY6 ?w_ZY6 ?w_VY6 ?w_KY7 ?w_LY7 ?w_CY7 ?w_DY7 ?w_ZY7 ?w_VY7 ?w_KY8 ?w_LY8 ?w_CY8 ?w_DY8 ?w_ZY8 ?w_VY8 ?w_KY9 ?w_LY9 ?w_CY9 ?w_DY9 ?w_ZY9 ?w_VY9 ?w_z_type ?w_z_int ?w_z_str ?w_z_bool ?w_z_dict ?w_z_list ?w_z_tuple ?w_z_len ?w_z_range ?w_z_max ?w_z_isinstance ?w_z_all ?w_z_enumerate ?w_z_sorted ?w_z_super ?_
    (case w_aP => k_is)
    (case w_pg => k_is)
    (case w_hd => k_is)
    (case w_po => k_is)
    (case w_sa => k_is)
    (case w_n1 => k_is)
    (case w_n2 => k_is)
    (case w_n3 => k_is)
    (case w_n4 => k_is)
    (case w_ha => k_is)
    (case w_hn => k_is)
    (case w_htk => k_is)
    (case w_hm => k_is)
    (case w_mk => k_is)
    (case w_kc => k_is)
    (case w_icP => k_is)
    (case w_tyP => k_is)
    (case w_stP => k_is)
    (case w_nft => k_is)
    (case w_aI => k_is)
    (case w_iI => k_is)
    (case w_lI => k_is)
    (case w_cI => k_is)
    (case w_kI => k_is)
    (case w_tI => k_is)
    (case w_dI => rfl)
    (case w_vI => exact .cons rfl .nil)
    (case w_bp1 => k_is)
    (case w_gp1 => k_is)
    (case w_tp1 => k_is)
    (case w_ep1 => k_is)
    (case w_lp1 => k_is)
    (case w_cp1 => k_is)
    (case w_kp1 => k_is)
    (case w_bp2 => k_is)
    (case w_gp2 => k_is)
    (case w_tp2 => k_is)
    (case w_ep2 => k_is)
    (case w_lp2 => k_is)
    (case w_cp2 => k_is)
    (case w_kp2 => k_is)
    (case w_bp3 => k_is)
    (case w_gp3 => k_is)
    (case w_tp3 => k_is)
    (case w_ep3 => k_is)
    (case w_lp3 => k_is)
    (case w_cp3 => k_is)
    (case w_kp3 => k_is)
    (case w_aE => k_is)
    (case w_iE => k_is)
    (case w_lE => k_is)
    (case w_cE => k_is)
    (case w_kE => k_is)
    (case w_aG => k_is)
    (case w_iG => k_is)
    (case w_lG => k_is)
    (case w_cG => k_is)
    (case w_kG => k_is)
    (case w_aS => k_is)
    (case w_iS => k_is)
    (case w_lS => k_is)
    (case w_cS => k_is)
    (case w_kS => k_is)
    (case w_fnG => k_is)
    (case w_aCL => k_is)
    (case w_kCL => k_is)
    (case w_bCL => k_is)
    (case w_tCL => k_is)
    (case w_iCL => k_is)
    (case w_dCL => k_is)
    (case w_aCB => k_is)
    (case w_kCB => k_is)
    (case w_bCB => k_is)
    (case w_tCB => k_is)
    (case w_iCB => k_is)
    (case w_dCB => k_is)
    (case w_aCN => k_is)
    (case w_kCN => k_is)
    (case w_bCN => k_is)
    (case w_tCN => k_is)
    (case w_iCN => k_is)
    (case w_dCN => k_is)
    (case w_xCL => k_exc)
    (case w_sNN => first | rfl | k_is)
    (case w_sLN => k_is)
    (case w_sLL => first | rfl | k_is)
    (case w_zgCB => k_is)
    (case w_zkCB => k_is)
    (case w_nCB => k_is)
    (case w_saCB => k_is)
    (case w_clsCB => k_is)
    (case w_refCB => decide +kernel)
    (case w_cd_CB => k_is)
    (case w_hmSCB => ks_is)
    (case w_hBSCB => k_is)
    (case w_hsSCB => k_is)
    (case w_iXCB => k_is)
    (case w_tXCB => k_is)
    (case w_lXCB => k_is)
    (case w_cXCB => k_is)
    (case w_cellSCB => k_is)
    (case w_codeSCB => k_is)
    (case w_fileS_CB => rfl)
    (case w_feqSCB => first | rfl | decide +kernel)
    (case w_zgCN => k_is)
    (case w_zkCN => k_is)
    (case w_nCN => k_is)
    (case w_saCN => k_is)
    (case w_clsCN => k_is)
    (case w_refCN => decide +kernel)
    (case w_cd_CN => k_is)
    (case w_hmSCN => ks_is)
    (case w_hBSCN => k_is)
    (case w_hsSCN => k_is)
    (case w_iXCN => k_is)
    (case w_tXCN => k_is)
    (case w_lXCN => k_is)
    (case w_cXCN => k_is)
    (case w_cellSCN => k_is)
    (case w_codeSCN => k_is)
    (case w_fileS_CN => rfl)
    (case w_feqSCN => first | rfl | decide +kernel)
    (case w_opS => k_is)
    (case w_topS => decide +kernel)
    (case w_c1 => k_is)
    (case w_c2 => k_is)
    (case w_c3 => k_is)
    (case w_c4 => k_is)
    (case w_c5 => k_is)
    (case w_c6 => k_is)
    (case w_KTW => k_is)
    (case w_LTW => k_is)
    (case w_CTW => rfl)
    (case w_DTW => rfl)
    (case w_ZTW => decide)
    (case w_VTW => exact .cons ⟨_, rfl⟩ (.cons ⟨_, rfl⟩ (.nil)))
    (case w_gX => k_is)
    (case w_atX => k_is)
    (case w_litX => exact ⟨⟨_, _, rfl, rfl⟩, ⟨⟨_, _, rfl, rfl⟩, ⟨⟨_, _, rfl, rfl⟩, ⟨⟨_, _, rfl, rfl⟩, ⟨⟨_, _, rfl, rfl⟩, ⟨⟨_, _, rfl, rfl⟩, ⟨⟨_, _, rfl, rfl⟩, ⟨⟨_, _, rfl, rfl⟩, ⟨⟨_, _, rfl, rfl⟩, ⟨⟨_, _, rfl, rfl⟩, trivial⟩⟩⟩⟩⟩⟩⟩⟩⟩⟩)
    (case w_lowX => rfl)
    (case w_KX0 => k_is)
    (case w_LX0 => k_is)
    (case w_CX0 => rfl)
    (case w_DX0 => rfl)
    (case w_ZX0 => decide)
    (case w_VX0 => exact .cons ⟨_, rfl⟩ (.nil))
    (case w_KX1 => k_is)
    (case w_LX1 => k_is)
    (case w_CX1 => rfl)
    (case w_DX1 => rfl)
    (case w_ZX1 => decide)
    (case w_VX1 => exact .cons ⟨_, rfl⟩ (.nil))
    (case w_KX2 => k_is)
    (case w_LX2 => k_is)
    (case w_CX2 => rfl)
    (case w_DX2 => rfl)
    (case w_ZX2 => decide)
    (case w_VX2 => exact .cons ⟨_, rfl⟩ (.nil))
    (case w_KX3 => k_is)
    (case w_LX3 => k_is)
    (case w_CX3 => rfl)
    (case w_DX3 => rfl)
    (case w_ZX3 => decide)
    (case w_VX3 => exact .nil)
    (case w_KX4 => k_is)
    (case w_LX4 => k_is)
    (case w_CX4 => rfl)
    (case w_DX4 => rfl)
    (case w_ZX4 => decide)
    (case w_VX4 => exact .nil)
    (case w_KX5 => k_is)
    (case w_LX5 => k_is)
    (case w_CX5 => rfl)
    (case w_DX5 => rfl)
    (case w_ZX5 => decide)
    (case w_VX5 => exact .nil)
    (case w_KX6 => k_is)
    (case w_LX6 => k_is)
    (case w_CX6 => rfl)
    (case w_DX6 => rfl)
    (case w_ZX6 => decide)
    (case w_VX6 => exact .nil)
    (case w_KX7 => k_is)
    (case w_LX7 => k_is)
    (case w_CX7 => rfl)
    (case w_DX7 => rfl)
    (case w_ZX7 => decide)
    (case w_VX7 => exact .cons ⟨_, rfl⟩ (.cons ⟨_, rfl⟩ (.nil)))
    (case w_KX8 => k_is)
    (case w_LX8 => k_is)
    (case w_CX8 => rfl)
    (case w_DX8 => rfl)
    (case w_ZX8 => decide)
    (case w_VX8 => exact .cons ⟨_, rfl⟩ (.nil))
    (case w_KX9 => k_is)
    (case w_LX9 => k_is)
    (case w_CX9 => rfl)
    (case w_DX9 => rfl)
    (case w_ZX9 => decide)
    (case w_VX9 => exact .cons ⟨_, rfl⟩ (.nil))
    (case w_gY => k_is)
    (case w_atY => k_is)
    (case w_litY => exact ⟨⟨_, _, rfl, rfl⟩, ⟨⟨_, _, rfl, rfl⟩, ⟨⟨_, _, rfl, rfl⟩, ⟨⟨_, _, rfl, rfl⟩, ⟨⟨_, _, rfl, rfl⟩, ⟨⟨_, _, rfl, rfl⟩, ⟨⟨_, _, rfl, rfl⟩, ⟨⟨_, _, rfl, rfl⟩, ⟨⟨_, _, rfl, rfl⟩, ⟨⟨_, _, rfl, rfl⟩, trivial⟩⟩⟩⟩⟩⟩⟩⟩⟩⟩)
    (case w_lowY => rfl)
    (case w_KY0 => k_is)
    (case w_LY0 => k_is)
    (case w_CY0 => rfl)
    (case w_DY0 => rfl)
    (case w_ZY0 => decide)
    (case w_VY0 => exact .cons ⟨_, rfl⟩ (.cons ⟨_, rfl⟩ (.cons ⟨_, rfl⟩ (.nil))))
    (case w_KY1 => k_is)
    (case w_LY1 => k_is)
    (case w_CY1 => rfl)
    (case w_DY1 => rfl)
    (case w_ZY1 => decide)
    (case w_VY1 => exact .cons ⟨_, rfl⟩ (.cons ⟨_, rfl⟩ (.cons ⟨_, rfl⟩ (.nil))))
    (case w_KY2 => k_is)
    (case w_LY2 => k_is)
    (case w_CY2 => rfl)
    (case w_DY2 => rfl)
    (case w_ZY2 => decide)
    (case w_VY2 => exact .cons ⟨_, rfl⟩ (.cons ⟨_, rfl⟩ (.cons ⟨_, rfl⟩ (.nil))))
    (case w_KY3 => k_is)
    (case w_LY3 => k_is)
    (case w_CY3 => rfl)
    (case w_DY3 => rfl)
    (case w_ZY3 => decide)
    (case w_VY3 => exact .cons ⟨_, rfl⟩ (.cons ⟨_, rfl⟩ (.nil)))
    (case w_KY4 => k_is)
    (case w_LY4 => k_is)
    (case w_CY4 => rfl)
    (case w_DY4 => rfl)
    (case w_ZY4 => decide)
    (case w_VY4 => exact .cons ⟨_, rfl⟩ (.cons ⟨_, rfl⟩ (.nil)))
    (case w_KY5 => k_is)
    (case w_LY5 => k_is)
    (case w_CY5 => rfl)
    (case w_DY5 => rfl)
    (case w_ZY5 => decide)
    (case w_VY5 => exact .cons ⟨_, rfl⟩ (.nil))
    (case w_KY6 => k_is)
    (case w_LY6 => k_is)
    (case w_CY6 => rfl)
    (case w_DY6 => rfl)
    (case w_ZY6 => decide)
    (case w_VY6 => exact .nil)
    (case w_KY7 => k_is)
    (case w_LY7 => k_is)
    (case w_CY7 => rfl)
    (case w_DY7 => rfl)
    (case w_ZY7 => decide)
    (case w_VY7 => exact .cons ⟨_, rfl⟩ (.nil))
    (case w_KY8 => k_is)
    (case w_LY8 => k_is)
    (case w_CY8 => rfl)
    (case w_DY8 => rfl)
    (case w_ZY8 => decide)
    (case w_VY8 => exact .cons ⟨_, rfl⟩ (.nil))
    (case w_KY9 => k_is)
    (case w_LY9 => k_is)
    (case w_CY9 => rfl)
    (case w_DY9 => rfl)
    (case w_ZY9 => decide)
    (case w_VY9 => exact .nil)
    (case w_z_type => k_is)
    (case w_z_int => k_is)
    (case w_z_str => k_is)
    (case w_z_bool => k_is)
    (case w_z_dict => k_is)
    (case w_z_list => k_is)
    (case w_z_tuple => k_is)
    (case w_z_len => k_is)
    (case w_z_range => k_is)
    (case w_z_max => k_is)
    (case w_z_isinstance => k_is)
    (case w_z_all => k_is)
    (case w_z_enumerate => k_is)
    (case w_z_sorted => k_is)
    (case w_z_super => k_is)
    intro CP CL CB CN fI fXB ccB cdaB fXN ccN cdaN fE fG fS p1 p2 p3 g1 g2 g3 e0 fdI fdXB fdXN fdE fdG fdS gd1 gd2 gd3 L
    have e := hmg.symm.trans D_law.g
    cases e
    exact ⟨d_law, W1.law_binds D_law.F, fun base _ _ => W1.end_law base L
      D_is_number D_is_name D_are_lists D_blocks_of D_walk D_is_faulty D_checked_rows D_found_at D_with_item D_with_statement_at D_is_send D_mended D_law_mix D_law_next D_law_turned D_law_lists D_law_list D_law_statement D_law_block D_law_program D_law_blocks D_law_rows D_law_keyed D_law_told D_law⟩
end Er
theorem PySem.Challenge.cw_answerparts_k20_mends_made_holds : PySem.Challenge.rw_answerparts_k20_mends_made.Holds :=
  Er.aux
end
