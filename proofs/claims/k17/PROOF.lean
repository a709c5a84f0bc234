import PyProof.Rows.All
import Wide.All
import OpenK.AllK
import Wide.FinOn
import HandS.ForMost
import HandS.ForExc
import HandS.IsInst
import HandS.TupLe
import HandS.Evl
import HandS.ExcInit
import HandS.ExcField
import KE.KExcIs
import HandS.ExcCtx
import HandS.HotCalls
import HandS.Defaults
import HandS.SortInts
import HandS.Struct
import HandS.DictComp
import HandS.Wide
import PyProof.StrOps2
import KE.GoesMore
import KE.GoesEnum
import HandS.Iter
import HandS.TupAny
import HandS.Sort
import HandS.SortOrd
import HandS.SortRule
import KE.KSortTup
import HandS.More
import HandS.Defaults
import PySem.Challenge.RW_saggar_k17_many_locals
set_option Elab.async false
set_option linter.all false
set_option maxRecDepth 100000
set_option maxHeartbeats 4000000

namespace My
open PySem PySem.Spec PyProof.Rows L2
/-! ### the text by places -/
def top (i : Nat) : Stmt := PySem.Challenge.pw_saggar_k17_many_locals.main.body.getD i (.Pass ⟨0, 0, 0, 0⟩)
abbrev s_Oversized___init__ : Stmt := inClass (top 2) 0
abbrev s_Unknown___init__ : Stmt := inClass (top 3) 0
abbrev s_Twice___init__ : Stmt := inClass (top 4) 0
abbrev s_Fixed___init__ : Stmt := inClass (top 5) 0
abbrev s_change_of : Stmt := top 11
abbrev s_places_behind : Stmt := top 12
abbrev s_heights_from : Stmt := top 13
abbrev s_greatest_heights : Stmt := top 14
abbrev s_Draft___init__ : Stmt := inClass (top 17) 0
abbrev s_compile_method : Stmt := top 18
abbrev s_measured : Stmt := top 19
abbrev s_declared : Stmt := top 20
abbrev s_carried_out : Stmt := top 21
abbrev s_returns : Stmt := top 22
abbrev s_is_plain_block : Stmt := top 23
abbrev s_Scope___init__ : Stmt := inClass (top 24) 0
abbrev s_Coder___init__ : Stmt := inClass (top 25) 0
abbrev s_Coder_emit : Stmt := inClass (top 25) 1
abbrev s_Coder_land : Stmt := inClass (top 25) 2
abbrev s_Coder_literal : Stmt := inClass (top 25) 3
abbrev s_Coder_method : Stmt := inClass (top 25) 4
abbrev s_Coder_body : Stmt := inClass (top 25) 5
abbrev s_Coder_statement : Stmt := inClass (top 25) 6
abbrev s_Coder_expression : Stmt := inClass (top 25) 7
abbrev s_Coder_located : Stmt := inClass (top 25) 8
abbrev s_Coder_is_param : Stmt := inClass (top 25) 9
abbrev s_Coder_setting : Stmt := inClass (top 25) 10
abbrev s_Coder_send : Stmt := inClass (top 25) 11
abbrev s_Coder_plain_send : Stmt := inClass (top 25) 12
abbrev s_Coder_sent : Stmt := inClass (top 25) 13
abbrev s_Coder_choice : Stmt := inClass (top 25) 14
abbrev s_Coder_repeat : Stmt := inClass (top 25) 15
abbrev s_Coder_block : Stmt := inClass (top 25) 16
abbrev s__law_cell : Stmt := top 27
abbrev s__law_told : Stmt := top 28
abbrev s_law : Stmt := top 29
theorem sc_Oversized___init__ : FnScope ["self", "limit"] ["self", "limit"] (defScope s_Oversized___init__) := ⟨rfl, rfl, rfl, by decide +kernel, rfl, by decide +kernel, by decide +kernel⟩
theorem sc_Unknown___init__ : FnScope ["self", "name", "at"] ["self", "name", "at"] (defScope s_Unknown___init__) := ⟨rfl, rfl, rfl, by decide +kernel, rfl, by decide +kernel, by decide +kernel⟩
theorem sc_Twice___init__ : FnScope ["self", "name", "at"] ["self", "name", "at"] (defScope s_Twice___init__) := ⟨rfl, rfl, rfl, by decide +kernel, rfl, by decide +kernel, by decide +kernel⟩
theorem sc_Fixed___init__ : FnScope ["self", "name", "at"] ["self", "name", "at"] (defScope s_Fixed___init__) := ⟨rfl, rfl, rfl, by decide +kernel, rfl, by decide +kernel, by decide +kernel⟩
theorem sc_change_of : FnScope ["op", "arg"] ["op", "arg"] (defScope s_change_of) := ⟨rfl, rfl, rfl, by decide +kernel, rfl, by decide +kernel, by decide +kernel⟩
theorem sc_places_behind : FnScope ["op", "arg", "place"] ["op", "arg", "place"] (defScope s_places_behind) := ⟨rfl, rfl, rfl, by decide +kernel, rfl, by decide +kernel, by decide +kernel⟩
theorem sc_heights_from : FnScope ["code", "start", "heights", "waiting", "place", "height", "op", "arg", "behind", "following"] ["code", "start"] (defScope s_heights_from) := ⟨rfl, rfl, rfl, by decide +kernel, rfl, by decide +kernel, by decide +kernel⟩
theorem sc_greatest_heights : FnScope ["code", "literals", "greatest", "starts", "start", "heights", "place", "op", "arg"] ["code", "literals"] (defScope s_greatest_heights) := ⟨rfl, rfl, rfl, by decide +kernel, rfl, by decide +kernel, by decide +kernel⟩
theorem sc_Draft___init__ : FnScope ["self", "selector", "argc", "count", "stack", "code", "literals"] ["self", "selector", "argc", "count", "stack", "code", "literals"] (defScope s_Draft___init__) := ⟨rfl, rfl, rfl, by decide +kernel, rfl, by decide +kernel, by decide +kernel⟩
theorem sc_compile_method : FnScope ["tree", "fields", "globals_known", "coder", "stacks", "literals", "count", "literal"] ["tree", "fields", "globals_known"] (defScope s_compile_method) := ⟨rfl, rfl, rfl, by decide +kernel, rfl, by decide +kernel, by decide +kernel⟩
theorem sc_measured : FnScope ["literal", "stacks", "kind", "argc", "count", "start"] ["literal", "stacks"] (defScope s_measured) := ⟨rfl, rfl, rfl, by decide +kernel, rfl, by decide +kernel, by decide +kernel⟩
theorem sc_declared : FnScope ["params", "temps", "indexes", "name", "at"] ["params", "temps"] (defScope s_declared) := ⟨rfl, rfl, rfl, by decide +kernel, rfl, by decide +kernel, by decide +kernel⟩
theorem sc_carried_out : FnScope ["statements", "found", "statement"] ["statements"] (defScope s_carried_out) := ⟨rfl, rfl, rfl, by decide +kernel, rfl, by decide +kernel, by decide +kernel⟩
theorem sc_returns : FnScope ["statements", "statement"] ["statements"] (defScope s_returns) := ⟨rfl, rfl, rfl, by decide +kernel, rfl, by decide +kernel, by decide +kernel⟩
theorem sc_is_plain_block : FnScope ["tree"] ["tree"] (defScope s_is_plain_block) := ⟨rfl, rfl, rfl, by decide +kernel, rfl, by decide +kernel, by decide +kernel⟩
theorem sc_Scope___init__ : FnScope ["self", "params", "temps"] ["self", "params", "temps"] (defScope s_Scope___init__) := ⟨rfl, rfl, rfl, by decide +kernel, rfl, by decide +kernel, by decide +kernel⟩
theorem sc_Coder___init__ : FnScope ["self", "fields", "globals_known", "k", "name"] ["self", "fields", "globals_known"] (defScope s_Coder___init__) := ⟨rfl, rfl, rfl, by decide +kernel, rfl, by decide +kernel, by decide +kernel⟩
theorem sc_Coder_emit : FnScope ["self", "op", "arg"] ["self", "op", "arg"] (defScope s_Coder_emit) := ⟨rfl, rfl, rfl, by decide +kernel, rfl, by decide +kernel, by decide +kernel⟩
theorem sc_Coder_land : FnScope ["self", "jumps", "place"] ["self", "jumps"] (defScope s_Coder_land) := ⟨rfl, rfl, rfl, by decide +kernel, rfl, by decide +kernel, by decide +kernel⟩
theorem sc_Coder_literal : FnScope ["self", "literal"] ["self", "literal"] (defScope s_Coder_literal) := ⟨rfl, rfl, rfl, by decide +kernel, rfl, by decide +kernel, by decide +kernel⟩
theorem sc_Coder_method : FnScope ["self", "tree", "statement"] ["self", "tree"] (defScope s_Coder_method) := ⟨rfl, rfl, rfl, by decide +kernel, rfl, by decide +kernel, by decide +kernel⟩
theorem sc_Coder_body : FnScope ["self", "statements", "k", "statement"] ["self", "statements"] (defScope s_Coder_body) := ⟨rfl, rfl, rfl, by decide +kernel, rfl, by decide +kernel, by decide +kernel⟩
theorem sc_Coder_statement : FnScope ["self", "statement"] ["self", "statement"] (defScope s_Coder_statement) := ⟨rfl, rfl, rfl, by decide +kernel, rfl, by decide +kernel, by decide +kernel⟩
theorem sc_Coder_expression : FnScope ["self", "tree", "kind", "op", "arg"] ["self", "tree"] (defScope s_Coder_expression) := ⟨rfl, rfl, rfl, by decide +kernel, rfl, by decide +kernel, by decide +kernel⟩
theorem sc_Coder_located : FnScope ["self", "name", "at", "distance", "scope"] ["self", "name", "at"] (defScope s_Coder_located) := ⟨rfl, rfl, rfl, by decide +kernel, rfl, by decide +kernel, by decide +kernel⟩
theorem sc_Coder_is_param : FnScope ["self", "name", "scope"] ["self", "name"] (defScope s_Coder_is_param) := ⟨rfl, rfl, rfl, by decide +kernel, rfl, by decide +kernel, by decide +kernel⟩
theorem sc_Coder_setting : FnScope ["self", "tree", "_", "name", "worth", "at", "op", "arg"] ["self", "tree"] (defScope s_Coder_setting) := ⟨rfl, rfl, rfl, by decide +kernel, rfl, by decide +kernel, by decide +kernel⟩
theorem sc_Coder_send : FnScope ["self", "tree", "_", "receiver", "selector", "arguments", "argument"] ["self", "tree"] (defScope s_Coder_send) := ⟨rfl, rfl, rfl, by decide +kernel, rfl, by decide +kernel, by decide +kernel⟩
theorem sc_Coder_plain_send : FnScope ["self", "tree"] ["self", "tree"] (defScope s_Coder_plain_send) := ⟨rfl, rfl, rfl, by decide +kernel, rfl, by decide +kernel, by decide +kernel⟩
theorem sc_Coder_sent : FnScope ["self", "op", "selector", "arguments", "argument", "number"] ["self", "op", "selector", "arguments"] (defScope s_Coder_sent) := ⟨rfl, rfl, rfl, by decide +kernel, rfl, by decide +kernel, by decide +kernel⟩
theorem sc_Coder_choice : FnScope ["self", "condition", "chosen", "other", "test", "over"] ["self", "condition", "chosen", "other"] (defScope s_Coder_choice) := ⟨rfl, rfl, rfl, by decide +kernel, rfl, by decide +kernel, by decide +kernel⟩
theorem sc_Coder_repeat : FnScope ["self", "condition", "statements", "start", "test"] ["self", "condition", "statements"] (defScope s_Coder_repeat) := ⟨rfl, rfl, rfl, by decide +kernel, rfl, by decide +kernel, by decide +kernel⟩
theorem sc_Coder_block : FnScope ["self", "tree", "_", "params", "temps", "statements", "number", "over", "scope"] ["self", "tree"] (defScope s_Coder_block) := ⟨rfl, rfl, rfl, by decide +kernel, rfl, by decide +kernel, by decide +kernel⟩
theorem sc__law_cell : FnScope ["script", "k"] ["script", "k"] (defScope s__law_cell) := ⟨rfl, rfl, rfl, by decide +kernel, rfl, by decide +kernel, by decide +kernel⟩
theorem sc__law_told : FnScope ["tree", "e"] ["tree"] (defScope s__law_told) := ⟨rfl, rfl, rfl, by decide +kernel, rfl, by decide +kernel, by decide +kernel⟩
theorem sc_law : FnScope ["script", "cell", "many", "params", "pairs", "twice", "at", "names", "selector", "tree", "block", "found", "k"] ["script"] (defScope s_law) := ⟨rfl, rfl, rfl, by decide +kernel, rfl, by decide +kernel, by decide +kernel⟩

/-! ### words for all laws -/
abbrev cl (x : Str) : List Nat := x.cps.toList
theorem str1 {a c : Nat} : ((⟨#[a]⟩ : Str) = ⟨#[c]⟩) = (a = c) := by
  apply propext
  constructor
  · intro h
    have h2 := congrArg (fun x : Str => x.cps.toList) h
    simpa using h2
  · intro h
    rw [h]
theorem len_cl (x : Str) : x.length = (cl x).length := by
  show x.cps.size = x.cps.toList.length
  simp
theorem cl_append (x y : Str) : cl (x ++ y) = cl x ++ cl y := by
  show (x.cps ++ y.cps).toList = _
  simp
theorem at_cl (x : Str) (n : Nat) : x.cps[n]? = (cl x)[n]? := by
  show x.cps[n]? = x.cps.toList[n]?
  simp
theorem cl_nil {x : Str} : x = "" ↔ cl x = [] := by
  constructor
  · intro h
    rw [h]
    rfl
  · intro h
    have e : x.cps = #[] := by
      have := congrArg List.toArray h
      simpa using this
    have : x = ⟨x.cps⟩ := rfl
    rw [this, e]
    rfl
theorem sc_ii {i j : Int} : scal (.int i) (.int j) = true := rfl
theorem sc_ss {x y : Str} : scal (.str x) (.str y) = true := rfl
theorem sc_bb {a b : Bool} : scal (.bl a) (.bl b) = true := rfl
theorem cx_K {CX : CXT} {P : Program} {w : World} {K : PySem.W.Frag} {mg : Str → Option Value} {base : Heap} {N : List Str} {qual : Str} {scope : Scope} {f : Addr} {cd : Value} {A : Around} {outer : List Env} {s : Shared} {H : Hp} {E : XK} : (cxOf CX P w K mg base N qual scope f cd A outer s H E).K = K := rfl
/-! ### rules told over a tracked list as it stands: H p is looked up -/
def lstAt (H : Hp) (p : Addr) (R : List V → Prop) : Prop := match H p with
  | some (.lst xs) => R xs
  | _ => False
theorem lstAt_of {H : Hp} {p : Addr} {xs : List V} {R : List V → Prop} (h : H p = some (.lst xs)) : lstAt H p R = R xs := by
  unfold lstAt
  rw [h]
theorem lstAt_get {H : Hp} {p : Addr} {R : List V → Prop} (h : lstAt H p R) : ∃ xs, H p = some (.lst xs) ∧ R xs := by
  unfold lstAt at h
  split at h
  · rename_i xs e
    exact ⟨xs, e, h⟩
  · exact h.elim
def setI (xs : List V) (i : Int) (v : V) : Option (List V) := (ixN xs.length i).map fun j => xs.set j v
def rIxM : R2 := fun x y H Q => ∃ p i, x = .ref p ∧ y = .int i ∧ lstAt H p fun xs => ∃ v, atI xs i = some v ∧ Q v H
def rSetM : V → V → V → Hp → (Hp → Prop) → Prop := fun o i v H Q => ∃ p k, o = .ref p ∧ i = .int k ∧ lstAt H p fun xs => ∃ ys, setI xs k v = some ys ∧ Q (upd H p (.lst ys))
def rLenM : List V → Hp → VK → Prop := fun vs H Q => ∃ p, vs = [.ref p] ∧ lstAt H p fun xs => Q (.int xs.length) H
theorem atI_0 {α : Type} {a : α} {l : List α} : atI (a :: l) 0 = some a := by simp [atI, ixN]
theorem atI_1 {α : Type} {a b : α} {l : List α} : atI (a :: b :: l) 1 = some b := by
  have : ixN (a :: b :: l).length 1 = some 1 := by
    unfold ixN
    rw [if_pos (by omega), if_pos (by simp only [List.length_cons]; omega)]
    rfl
  unfold atI
  rw [this]
  rfl
theorem atI_2 {α : Type} {a b c : α} {l : List α} : atI (a :: b :: c :: l) 2 = some c := by
  have : ixN (a :: b :: c :: l).length 2 = some 2 := by
    unfold ixN
    rw [if_pos (by omega), if_pos (by simp only [List.length_cons]; omega)]
    rfl
  unfold atI
  rw [this]
  rfl
theorem atI_3 {α : Type} {a b c d : α} {l : List α} : atI (a :: b :: c :: d :: l) 3 = some d := by
  have : ixN (a :: b :: c :: d :: l).length 3 = some 3 := by
    unfold ixN
    rw [if_pos (by omega), if_pos (by simp only [List.length_cons]; omega)]
    rfl
  unfold atI
  rw [this]
  rfl
theorem setI_0 {a v : V} {l : List V} : setI (a :: l) 0 v = some (v :: l) := by simp [setI, ixN]
theorem setI_1 {a b v : V} {l : List V} : setI (a :: b :: l) 1 v = some (a :: v :: l) := by
  have : ixN (a :: b :: l).length 1 = some 1 := by
    unfold ixN
    rw [if_pos (by omega), if_pos (by simp only [List.length_cons]; omega)]
    rfl
  unfold setI
  rw [this]
  rfl
theorem setI_2 {a b c v : V} {l : List V} : setI (a :: b :: c :: l) 2 v = some (a :: b :: v :: l) := by
  have : ixN (a :: b :: c :: l).length 2 = some 2 := by
    unfold ixN
    rw [if_pos (by omega), if_pos (by simp only [List.length_cons]; omega)]
    rfl
  unfold setI
  rw [this]
  rfl
theorem setI_3 {a b c d v : V} {l : List V} : setI (a :: b :: c :: d :: l) 3 v = some (a :: b :: c :: v :: l) := by
  have : ixN (a :: b :: c :: d :: l).length 3 = some 3 := by
    unfold ixN
    rw [if_pos (by omega), if_pos (by simp only [List.length_cons]; omega)]
    rfl
  unfold setI
  rw [this]
  rfl
/-- isinstance of a plain value and a built-in type -/
def isTy : V → String → Option Bool
  | .bl _, T => L2.kitB "bool" T
  | .int _, T => L2.kitB "int" T
  | .str _, T => L2.kitB "str" T
  | .non, T => L2.kitB "NoneType" T
  | _, _ => none
def rIsS : List V → Hp → VK → Prop := fun xs H Q => ∃ x T, xs = [x, .ty T] ∧ ∃ b, isTy x T = some b ∧ Q (.bl b) H
theorem isTy_bb {b : Bool} : isTy (.bl b) "bool" = some true := by
  show L2.kitB "bool" "bool" = some true
  decide +kernel
theorem isTy_bi {b : Bool} : isTy (.bl b) "int" = some true := by
  show L2.kitB "bool" "int" = some true
  decide +kernel
theorem isTy_ib {i : Int} : isTy (.int i) "bool" = some false := by
  show L2.kitB "int" "bool" = some false
  decide +kernel
theorem isTy_ii {i : Int} : isTy (.int i) "int" = some true := by
  show L2.kitB "int" "int" = some true
  decide +kernel
theorem isTy_ss {x : Str} : isTy (.str x) "str" = some true := by
  show L2.kitB "str" "str" = some true
  decide +kernel
theorem isTy_nb : isTy .non "bool" = some false := by
  show L2.kitB "NoneType" "bool" = some false
  decide +kernel
theorem isTy_ni : isTy .non "int" = some false := by
  show L2.kitB "NoneType" "int" = some false
  decide +kernel
section
variable {X : Cx}
theorem call_isS : CallR X (.builtin "isinstance") rIsS := by
  intro pins s σ H xs us Q I r h
  obtain ⟨x, T, rfl, b, e, q⟩ := h
  have ty : ∃ t, TyX X.K H x (.type t) ∧ L2.kitB t T = some b := by
    cases x with
    | bl k => exact ⟨_, .base (.bl k), e⟩
    | int k => exact ⟨_, .base (.int k), e⟩
    | str k => exact ⟨_, .base (.str k), e⟩
    | non => exact ⟨_, .base .non, e⟩
    | byt k => cases e
    | flt k => cases e
    | ref k => cases e
    | ty k => cases e
  obtain ⟨t, ht, hk⟩ := ty
  exact call_isi pins s σ H _ us Q I r ⟨x, .ty T, .type t, .type T, b, rfl, .ty T, ht, kit_ty hk, q⟩
theorem ix_lstM : IxR X rIxM := by
  intro value slice pins s σ H x y v u Q I rx ry h hs
  obtain ⟨p, i, e1, e2, h⟩ := h
  obtain ⟨xs, hp, z, hz, q⟩ := lstAt_get h
  exact ix_list value slice pins s σ H x y v u Q I rx ry ⟨p, xs, i, z, e1, e2, .inl (.inl hp), hz, q⟩ hs
theorem set_lstM : PSet X rSetM := by
  intro pins s σ H o i v ov iv u Q I ro ri rv h
  obtain ⟨p, k, e1, e2, h⟩ := h
  obtain ⟨xs, hp, ys, hy, q⟩ := lstAt_get h
  unfold setI at hy
  cases hj : ixN xs.length k with
  | none =>
    rw [hj] at hy
    cases hy
  | some j =>
    rw [hj] at hy
    have hy2 : xs.set j v = ys := Option.some.inj hy
    subst hy2
    exact set_list pins s σ H o i v ov iv u Q I ro ri rv ⟨p, xs, k, j, e1, e2, hp, hj, q⟩
theorem call_lenM : CallR X (.builtin "len") rLenM := by
  intro pins s σ H xs us Q I r h
  obtain ⟨p, e, h⟩ := h
  obtain ⟨ys, hp, q⟩ := lstAt_get h
  exact call_len_seq pins s σ H xs us Q I r ⟨p, ys, e, .inl (.inl (.inl hp)), q⟩
/-- int(n) of an int -/
theorem call_intI : CallR X (.type "int") (fun xs H Q => ∃ i, xs = [.int i] ∧ Q (.int i) H) := fun pins s σ H xs us Q I r h => call_int1 pins s σ H xs us Q I r (Or.inl h)
end
theorem same_new {H : Hp} {p : Addr} {o : HO} (h : H p = none) : Same H (upd H p o) := fun b x e => by
  rw [upd_ne (ne_of_none e h)]
  exact e
/-! ### loops by an invariant, told over the loop's own reading -/
theorem for_rng {ta : TA} {g : TG} {tb : TS} {D : Ends} {σ : L2.St} {H : Hp} (j : Int) (hta : ∀ R : List V → Hp → Prop, R [.int j] H → ta σ H R) (h0 : 0 ≤ j) (h1 : j < 2 ^ 62) (Pv : Nat → L2.St → Hp → Prop) (hp : Pv 0 σ H)
    (hs : ∀ (i : Nat) σ H, (i : Int) < j → Pv i σ H → g (.int (i : Int)) σ H fun σ2 H2 => tb { D with nx := Pv (i + 1), ct := Pv (i + 1), bk := D.nx } σ2 H2) (hd : ∀ σ H, Pv j.toNat σ H → D.nx σ H) : tFor (iRng1 ta) g tb D σ H := by
  refine hta _ ⟨j, rfl, by omega, h1, for_range (lo := 0) (n := j.toNat) Pv hp (fun i σ H hi pv => ?_) hd⟩
  rw [Int.zero_add]
  exact hs i σ H (by omega) pv
theorem for_rng2 {ta : TA} {g : TG} {tb : TS} {D : Ends} {σ : L2.St} {H : Hp} (l j : Int) (hta : ∀ R : List V → Hp → Prop, R [.int l, .int j] H → ta σ H R) (h0 : -(2 ^ 62) ≤ l) (h2 : l < 2 ^ 62) (h3 : -(2 ^ 62) ≤ j) (h1 : j < 2 ^ 62) (Pv : Nat → L2.St → Hp → Prop) (hp : Pv 0 σ H)
    (hs : ∀ (i : Nat) σ H, l + (i : Int) < j → Pv i σ H → g (.int (l + (i : Int))) σ H fun σ2 H2 => tb { D with nx := Pv (i + 1), ct := Pv (i + 1), bk := D.nx } σ2 H2) (hd : ∀ σ H, Pv (j - l).toNat σ H → D.nx σ H) : tFor (iRng2 ta) g tb D σ H :=
  hta _ ⟨l, j, rfl, ⟨h0, h2, h3, h1⟩, for_range (lo := l) (n := (j - l).toNat) Pv hp (fun i σ H hi pv => hs i σ H (by omega) pv) hd⟩
theorem for_lst {K : PySem.W.Frag} {tl : TE} {g : TG} {tb : TS} {D : Ends} {σ : L2.St} {H H0 : Hp} {a : Addr} (xs : List V) (htl : ∀ R : V → Hp → Prop, R (.ref a) H0 → tl σ H R) (Pv : Nat → L2.St → Hp → Prop) (hp : Pv 0 σ H0) (hl : ∀ i σ H, i ≤ xs.length → Pv i σ H → SqL K H a xs)
    (hs : ∀ i x σ H, xs[i]? = some x → Pv i σ H → g x σ H fun σ2 H2 => tb { D with nx := Pv (i + 1), ct := Pv (i + 1), bk := D.nx } σ2 H2) (hd : ∀ σ H, Pv xs.length σ H → D.nx σ H) : tFor (iList K tl) g tb D σ H :=
  htl _ ⟨a, rfl, ⟨xs, hl 0 σ H0 (Nat.zero_le _) hp⟩, L2.for_list (K := K) (a := a) (xs := xs) Pv hp hl hs hd⟩
/-- [f(x) for x in a list of ints], the element an int that is reckoned from x alone -/
theorem lc_ints {K : PySem.W.Frag} {tl te : TE} {c : Nat} {σ : L2.St} {H : Hp} {Q : VK} {a : Addr} {ns : List Int} (f : Int → Int) (htl : ∀ R : V → Hp → Prop, R (.ref a) H → tl σ H R) (ha : SqL K H a (ns.map V.int)) (hc : c < σ.length) (hn : ns.length ≤ 100000)
    (hte : ∀ (σ' : L2.St) (H' : Hp) (z : Int) (R : VK), σ'[c]? = some (some (.int z)) → R (.int (f z)) H' → te σ' H' R) (k : ∀ D, H D = none → Q (.ref D) (upd H D (.lst (ns.map fun z => .int (f z))))) : tLc (iList K tl) (gName c) tYes te [c] σ H Q := by
  refine htl _ ⟨a, rfl, ⟨_, ha⟩, fun D hD => lc_list (K := K) (a := a) (xs := ns.map V.int) (fun i H' => H' = upd H D (.lst ((ns.take i).map fun z => .int (f z)))) (by rw [List.take_zero]; rfl) (fun i H' _ e => ?_) ?_ ?_⟩
  · rw [e]
    exact (same_new hD).seq ha
  · rintro i x H' hx rfl
    rw [List.getElem?_map] at hx
    cases hz : ns[i]? with
    | none =>
      rw [hz] at hx
      cases hx
    | some z =>
      rw [hz] at hx
      have ex : V.int z = x := Option.some.inj hx
      subst ex
      have hlt : i < ns.length := (List.getElem?_eq_some_iff.mp hz).1
      refine ⟨?_, ?_⟩
      · show List.set (List.set (List.set σ c none) c _) c none = List.set σ c none
        rw [List.set_set, List.set_set]
      · simp only [tYes, if_true]
        refine hte _ _ z _ ?_ ⟨_, upd_same, ?_, ?_⟩
        · show (List.set (List.set σ c none) c _)[c]? = _
          rw [List.getElem?_set_self (by rw [List.length_set]; exact hc)]
        · rw [List.length_map, List.length_take]
          exact Nat.lt_of_le_of_lt (Nat.min_le_left _ _) (Nat.lt_of_lt_of_le (by omega : i < 100000) (by decide))
        · rw [upd_upd, List.take_add_one, hz, List.map_append]
          rfl
  · rintro H' rfl
    rw [List.length_map, List.take_length]
    exact k D hD

/-! ### dicts, told over a tracked dict as it stands -/
def dcAt (H : Hp) (p : Addr) (R : List (Key × V) → Prop) : Prop := match H p with
  | some (.dK kvs) => R kvs
  | _ => False
theorem dcAt_get {H : Hp} {p : Addr} {R : List (Key × V) → Prop} (h : dcAt H p R) : ∃ kvs, H p = some (.dK kvs) ∧ R kvs := by
  unfold dcAt at h
  split at h
  · rename_i kvs e
    exact ⟨kvs, e, h⟩
  · exact h.elim
/-- .. read, though it may be locked -/
def dcRd (H : Hp) (p : Addr) (R : List (Key × V) → Prop) : Prop := match H p with
  | some (.dK kvs) => R kvs
  | some (.frz _ (.dK kvs)) => R kvs
  | _ => False
theorem dcRd_get {H : Hp} {p : Addr} {R : List (Key × V) → Prop} (h : dcRd H p R) : ∃ kvs, Rd H p (.dK kvs) ∧ R kvs := by
  unfold dcRd at h
  split at h
  · rename_i kvs e
    exact ⟨kvs, .inl e, h⟩
  · rename_i o kvs e
    exact ⟨kvs, .inr ⟨o, e⟩, h⟩
  · exact h.elim
def keyOf : V → Option Key
  | .int i => some (Sum.inl i)
  | .str x => some (Sum.inr x)
  | _ => none
theorem keyOf_kV {y : V} {k : Key} (h : keyOf y = some k) : y = kV k := by
  cases y <;> first | (cases h; rfl) | cases h
theorem keyOf_int {i : Int} : keyOf (.int i) = some (Sum.inl i) := rfl
theorem keyOf_str {x : Str} : keyOf (.str x) = some (Sum.inr x) := rfl
theorem kV_int {i : Int} {k : Key} : (V.int i = kV k) = (Sum.inl i = k) := by
  apply propext
  cases k with
  | inl j => exact ⟨(fun h => by cases h; rfl), (fun h => by cases h; rfl)⟩
  | inr x => exact ⟨(fun h => by cases h), (fun h => by cases h)⟩
theorem kV_str {x : Str} {k : Key} : (V.str x = kV k) = (Sum.inr x = k) := by
  apply propext
  cases k with
  | inl j => exact ⟨(fun h => by cases h), (fun h => by cases h)⟩
  | inr y => exact ⟨(fun h => by cases h; rfl), (fun h => by cases h; rfl)⟩
def rDInM (neg : Bool) : R2 := fun y x H Q => ∃ a, x = .ref a ∧ ∃ k, keyOf y = some k ∧ dcRd H a fun kvs => Q (.bl (if neg then !(valV kvs k).isSome else (valV kvs k).isSome)) H
def rDGetM : R2 := fun x y H Q => ∃ a, x = .ref a ∧ ∃ k, keyOf y = some k ∧ dcRd H a fun kvs => ∃ v, valV kvs k = some v ∧ Q v H
def rDSetM : V → V → V → Hp → (Hp → Prop) → Prop := fun o i v H Q => ∃ a, o = .ref a ∧ ∃ k, keyOf i = some k ∧ dcAt H a fun kvs => kvs.length < sizeLine ∧ Q (upd H a (.dK (putK kvs k v)))
def rDLenM : List V → Hp → VK → Prop := fun vs H Q => ∃ a, vs = [.ref a] ∧ dcAt H a fun kvs => Q (.int kvs.length) H
section
variable {X : Cx}
theorem op_dinM (hu : X.A.units + 1 < cLine) : OpR X (compareOp .In) (rDInM false) := by
  intro pins s σ H y x u v Q I ry rx h
  obtain ⟨a, rfl, k, hk, h⟩ := h
  obtain ⟨kvs, hp, q⟩ := dcRd_get h
  obtain rfl : v = Value.ref a := rx
  have e := keyOf_kV hk
  subst e
  exact d_in hu I (.inl ⟨kvs, k, hp, rfl, rfl⟩) ry fun s3 I3 => ⟨.bl (valV kvs k).isSome, H, I3, rfl, q⟩
theorem op_dnotinM (hu : X.A.units + 1 < cLine) : OpR X (compareOp .NotIn) (rDInM true) := by
  intro pins s σ H y x u v Q I ry rx h
  obtain ⟨a, rfl, k, hk, h⟩ := h
  obtain ⟨kvs, hp, q⟩ := dcRd_get h
  obtain rfl : v = Value.ref a := rx
  have e := keyOf_kV hk
  subst e
  exact d_notIn hu I (.inl ⟨kvs, k, hp, rfl, rfl⟩) ry fun s3 I3 => ⟨.bl (!(valV kvs k).isSome), H, I3, rfl, q⟩
theorem ix_dictM (hu : X.A.units + 1 < cLine) : IxR X rDGetM := by
  intro value slice pins s σ H x y v u Q I rx ry h hs
  obtain ⟨a, rfl, k, hk, h⟩ := h
  obtain ⟨kvs, hp, z, hz, q⟩ := dcRd_get h
  obtain rfl : v = Value.ref a := rx
  have e := keyOf_kV hk
  subst e
  have g : DGet H a (kV k) (some z) := by
    rw [← hz]
    exact .inl ⟨kvs, k, hp, rfl, rfl⟩
  exact tail_any (dict_typeIs I g) PySem.F.slot_dict_getitem.lookup (d_getItem hu I g ry fun w' s3 I3 rw' => ⟨z, H, I3, rw', q⟩) hs
theorem set_dictM (hu : X.A.units + 1 < cLine) : PSet X rDSetM := by
  intro pins s σ H o i v ov iv u Q I ro ri rv h
  obtain ⟨a, rfl, k, hk, h⟩ := h
  obtain ⟨kvs, hp, hl, q⟩ := dcAt_get h
  obtain rfl : ov = Value.ref a := ro
  have e := keyOf_kV hk
  subst e
  exact d_setItem hu I (.k hp hl) ri rv fun s4 I4 => ⟨_, I4, q⟩
theorem call_lenDM : CallR X (.builtin "len") rDLenM := by
  intro pins s σ H xs us Q I r h
  obtain ⟨a, e, h⟩ := h
  obtain ⟨kvs, hp, q⟩ := dcAt_get h
  exact call_lenD pins s σ H xs us Q I r ⟨a, kvs, e, hp, q⟩
end
/-! ### own errors with fields -/
/-- what the written part says of an own error class at C, its __init__ at fI -/
structure ExF (K : PySem.W.Frag) (C fI : Addr) : Prop where
  o : OexC K C
  x : XfC K C
  ic : PySem.W.findIn K (.ref C) "__init__" = some (some (.ref fI))
  ti : PySem.W.typeIn K (.ref fI) = some (.type "function")
  ha : PySem.W.findIn K (.ref C) "__class__" = some (some (.builtin "object.__class__"))
  hn : PySem.W.specialIn K (.builtin "object.__class__") "__get__" = some (some (.builtin "getset_descriptor.__get__"))
  ht : PySem.W.takesIn K (.builtin "object.__class__") = some true
  hm : PySem.W.mroIn K C (.type "object") = some true
/-- __init__ of an error with one field, with two -/
def sp_ex1 (C : Addr) (f : Str) : Sp := fun vs H Q _ => ∃ (a : Addr) (v : V), vs = [.ref a, v] ∧ H a = some (exo a C none) ∧ ∀ dx, H dx = none → dx ≠ a → Q .non (upd (upd H dx (exd dx [(f, v)])) a (exo a C (some dx)))
def sp_ex2 (C : Addr) (f g : Str) : Sp := fun vs H Q _ => ∃ (a : Addr) (v w : V), vs = [.ref a, v, w] ∧ H a = some (exo a C none) ∧
  ∀ dx, H dx = none → dx ≠ a → Q .non (upd (upd (upd H dx (exd dx [(f, v)])) a (exo a C (some dx))) dx (exd dx [(g, w), (f, v)]))
/-- raise C(e), raise C(e, e2) -/
def tRz1 (C : Addr) (f : Str) (W : WX) (ta : TA) : TS := fun _ σ H => ta σ H fun vs H1 => ∃ v, vs = [v] ∧ ∀ d, H1 d = none → W (.ref C) (some d) σ (upd H1 d (.xd [(f, v)]))
def tRz2 (C : Addr) (f g : Str) (W : WX) (ta : TA) : TS := fun _ σ H => ta σ H fun vs H1 => ∃ v w, vs = [v, w] ∧ ∀ d, H1 d = none → W (.ref C) (some d) σ (upd H1 d (.xd [(g, w), (f, v)]))
theorem del_upd_upd {H : Hp} {a dx : Addr} {o1 o2 : HO} {o3 : HO} {o0 : HO} (ha : H a = none) (ne : dx ≠ a) : upd (del (upd (upd (upd H a o0) dx o1) a o2) a) dx o3 = upd H dx o3 := by
  funext b
  by_cases hb : b = dx
  · subst hb
    rw [upd_same, upd_same]
  · rw [upd_ne hb, upd_ne hb]
    by_cases hba : b = a
    · subst hba
      rw [del_same, ha]
    · rw [del_ne hba, upd_ne hba, upd_ne hb, upd_ne hba]
theorem del_upd_upd2 {H : Hp} {a dx : Addr} {o0 o1 o2 o3 o4 : HO} (ha : H a = none) (ne : dx ≠ a) : upd (del (upd (upd (upd (upd H a o0) dx o1) a o2) dx o3) a) dx o4 = upd H dx o4 := by
  funext b
  by_cases hb : b = dx
  · subst hb
    rw [upd_same, upd_same]
  · rw [upd_ne hb, upd_ne hb]
    by_cases hba : b = a
    · subst hba
      rw [del_same, ha]
    · rw [del_ne hba, upd_ne hb, upd_ne hba, upd_ne hb, upd_ne hba]
theorem pa_at {X : Cx} {es : List Expr} {ta : TA} {σ0 : L2.St} {H0 : Hp} {R : List V → Hp → Prop} (ha : PA X es ta) (h0 : ta σ0 H0 R) : PA X es (fun σ H Q => σ = σ0 ∧ H = H0 ∧ ∀ vs H1, R vs H1 → Q vs H1) := by
  refine ⟨fun pos pins s σ H Q I h => ?_⟩
  obtain ⟨e1, e2, hk⟩ := h
  subst e1 e2
  exact thn (ha.run pos pins s σ H _ I h0) fun us s1 ⟨vs, H1, I1, r, q⟩ => ⟨vs, H1, I1, r, hk vs H1 q⟩
section
variable {X : Cx} {C fI : Addr} {k : Nat} {fd : FuncData} {x f g : Str} {W : WX} {ta : TA} {e : Expr} {es : List Expr} {p pos pos2 : Pos}
/-- C(e, ..) where nothing is handled: the error that comes has no context -/
theorem pmkN {CX0' : CXT} {ps : List Str} {sp : Sp} (T : ExF X.K C fI) (F1 : FnOk X.prog X.w X.K X.mg X.base CX0' k fI fd ps sp) (hr : Room (k + 1) X.A) (hb : Binds X.K fd ps []) (hx : Passes CX0' X (fun _ _ _ => False)) (hg : Gl X x) (hm : X.mg x = some (.ref C)) (ha : PA X (e :: es) ta)
    (hdb : (x == ("__debug__" : Str)) = false) (he : starEach (e :: es) X.env = (false, eval e X.env) :: starEach es X.env) (hpl : (backTo pos (starEach es X.env)).any (·.1) = false) :
    L2N.PMk X (.Call (.Name x p) (e :: es) [] pos) (tMkO C sp [] ta) := by
  intro pn0 st sg Hh Qq J hh
  obtain ⟨_, _, _, _, lb, _, _, _, _, _, _, _, _, _, _, hCl, hRef⟩ := T.o.cls
  refine wpAny_Call_Name_kw (ld_glob J hg hm ?_ hdb)
  refine PySem.W.callWith_K (h₀ := X.base) J.ok.mod.kin T.o.kC (thn (ha.run pos pn0 st sg Hh _ J hh) fun us st1 hx1 => ?_) he hpl
  obtain ⟨vs, G1, J1, rl, hz, hq0⟩ := hx1
  refine ⟨J1.kIn, ?_⟩
  show wpAny _ _ (call (.ref C) us) _ _ _
  obtain ⟨hp, gs, dr, tks, osx⟩ := st1
  have two : ∀ b o, hp.get? b = some o → ((hp.push (PySem.W.kdv_tup us)).push (PySem.HandSPX.excO C hp.objs.size)).get? b = some o := fun b o q => Heap.get?_push_of_some _ (Heap.get?_push_of_some _ q)
  have here : ((hp.push (PySem.W.kdv_tup us)).push (PySem.HandSPX.excO C hp.objs.size)).get? (hp.objs.size + 1) = some (PySem.HandSPX.excO C hp.objs.size) := by heap_get
  generalize hN : hp.objs.size + 1 = n at here
  have big : hp.objs.size ≤ n := by omega
  have hq := hq0 n (J1.hok.fresh big)
  rw [List.append_nil] at hq
  have J2 := J1.laid (t' := tks) (a := n) (o := exo n C none) two big (exo_ok here)
  have rl2 : Vals (V.ref n :: vs) (Value.ref n :: us) := .cons rfl rl
  have len2 : (Value.ref n :: us ++ []).length = ps.length := by
    rw [List.append_nil, ← rl2.length]
    exact F1.len _ _ _ _ hq
  have few : us.length ≤ sizeLine := by
    have := Paired.length rl
    rw [sizeLine_eq]
    omega
  have bnd := hb _ (Value.ref n :: us) J2.kIn len2
  rw [List.append_nil] at bnd
  have run := F1.run _ X.stack _ _ ⟨Value.ref n :: us, []⟩ (Value.ref n :: us) _ _ (fun _ _ _ => False) (hr.make C us []) (J2.env0.make C us []) bnd rl2 hq
  subst hN
  refine wpAny_call (PySem.HandSPX.call_own F.excBase_ValueError (fun Y => PySem.HandSPX.refsVE_contains Y lb hRef) (J1.kIn _ _ hCl) (PySem.W.looks_findIn J1.kIn T.ic) (fun me => PySem.W.bind_fn J1.kIn me T.ti) few (codeAny_mono run fun res st2 hres => ?_))
  cases res with
  | error er => exact hx pn0 sg _ _ er st2 J2 hres
  | ok fl =>
    cases fl with
    | next => exact hres.elim
    | brk => exact hres.elim
    | cont => exact hres.elim
    | ret u =>
      obtain ⟨v, G2, o2, b2, u2, k2, rv, ev, d, fs, ea, ed, hd1, q2⟩ := hres
      subst ev
      obtain ⟨hp2, gs2, dr2, tk2, os2⟩ := st2
      obtain ⟨t0, G, J3, kG, ge, hoe, na⟩ := mk_end0 (d2 := dr2) (t2 := tk2) J1 big two u2 k2 o2 b2 ea ed hd1
      exact ⟨rv, _, _, _, ⟨G, gs2, dr2, tk2, os2⟩, _, .ref C, some d, rfl, J3, kG, ge, hoe, ⟨rfl, rfl, fun ws hw => by cases hw; rfl⟩, rfl, rfl, na, rfl, b2, raises_own T.o.exC T.o.tyC, q2⟩
theorem ps_rz1 {ps : List Str} (hc : X.calm = true) (T : ExF X.K C fI) (F : FnOk X.prog X.w X.K X.mg X.base CX0 k fI fd ps (sp_ex1 C f)) (hr : Room (k + 1) X.A) (hb : Binds X.K fd ps []) (tk : L2N.Takes X W) (hg : Gl X x) (hm : X.mg x = some (.ref C)) (ha : PA X (e :: es) ta)
    (hdb : (x == ("__debug__" : Str)) = false := by decide) (he : starEach (e :: es) X.env = (false, eval e X.env) :: starEach es X.env := by rfl) (hpl : (backTo pos (starEach es X.env)).any (·.1) = false := by rfl) :
    PS X (.Raise (some (.Call (.Name x p) (e :: es) [] pos)) none pos2) (tRz1 C f W ta) := by
  refine ⟨fun pins s σ H D I h => ?_⟩
  have key := L2N.ps_raise (pos := pos2) hc tk (pmkN (p := p) T F hr hb pass0 hg hm (pa_at ha h) hdb he hpl)
  refine key.run pins s σ H D I ⟨rfl, rfl, fun vs H1 hk => ?_⟩
  obtain ⟨v, rfl, hw⟩ := hk
  refine ⟨by show 1 ≤ 1000; decide, fun a ha2 => ⟨a, v, rfl, upd_same, fun dx hdx ne => ⟨rfl, dx, [(f, v)], upd_same, ?_, ?_, ?_⟩⟩⟩
  · rw [upd_ne ne, upd_same]
  · rw [upd_ne ne] at hdx
    exact hdx
  · rw [upd_ne ne] at hdx
    rw [del_upd_upd ha2 ne]
    exact hw dx hdx
theorem ps_rz2 {ps : List Str} (hc : X.calm = true) (T : ExF X.K C fI) (F : FnOk X.prog X.w X.K X.mg X.base CX0 k fI fd ps (sp_ex2 C f g)) (hr : Room (k + 1) X.A) (hb : Binds X.K fd ps []) (tk : L2N.Takes X W) (hg : Gl X x) (hm : X.mg x = some (.ref C)) (ha : PA X (e :: es) ta)
    (hdb : (x == ("__debug__" : Str)) = false := by decide) (he : starEach (e :: es) X.env = (false, eval e X.env) :: starEach es X.env := by rfl) (hpl : (backTo pos (starEach es X.env)).any (·.1) = false := by rfl) :
    PS X (.Raise (some (.Call (.Name x p) (e :: es) [] pos)) none pos2) (tRz2 C f g W ta) := by
  refine ⟨fun pins s σ H D I h => ?_⟩
  have key := L2N.ps_raise (pos := pos2) hc tk (pmkN (p := p) T F hr hb pass0 hg hm (pa_at ha h) hdb he hpl)
  refine key.run pins s σ H D I ⟨rfl, rfl, fun vs H1 hk => ?_⟩
  obtain ⟨v, w, rfl, hw⟩ := hk
  refine ⟨by show 2 ≤ 1000; decide, fun a ha2 => ⟨a, v, w, rfl, upd_same, fun dx hdx ne => ⟨rfl, dx, [(g, w), (f, v)], ?_, upd_same, ?_, ?_⟩⟩⟩
  · rw [upd_ne (Ne.symm ne), upd_same]
  · rw [upd_ne ne] at hdx
    exact hdx
  · rw [upd_ne ne] at hdx
    rw [del_upd_upd2 ha2 ne]
    exact hw dx hdx
end
/-! ### an error that an except suite holds: isinstance, fields -/
def rIsX (K : PySem.W.Frag) (a : Addr) (cls : Value) (d : Option Addr) : List V → Hp → VK → Prop := fun xs H Q => ∃ (c : V) (cv : Value) (C fI dd : Addr) (fs : List (Str × V)) (b : Bool),
  xs = [.ref a, c] ∧ ClsV c cv ∧ cls = .ref C ∧ d = some dd ∧ H dd = some (.xd fs) ∧ ExF K C fI ∧ PySem.W.kitOne K (.ref C) cv = some b ∧ Q (.bl b) H
theorem call_isX {X : Cx} {a : Addr} {oe : Obj} {cls : Value} {d : Option Addr} (hp : (a, oe) ∈ X.pn) (hz : Zc cls d oe) (hf : ∃ vs, oe.data = .fields vs) : CallR X (.builtin "isinstance") (rIsX X.K a cls d) := by
  intro pins s σ H xs us Q I r h
  obtain ⟨c, cv, C, fI, dd, fs, b, rfl, hcv, rfl, rfl, hdd, T, hk, q⟩ := h
  obtain ⟨u1, u2, rfl, r1, r2⟩ := vals2 r
  have e2 := hcv.eq r2
  subst e2
  cases (show u1 = Value.ref a from r1)
  obtain ⟨hget, _⟩ := I.pin (a, oe) (List.mem_append_left _ hp)
  obtain ⟨vs, hv⟩ := hf
  obtain ⟨mA, hns, _⟩ := (show ObjOk X.prog X.w H s.heap dd (.xd fs) from I.hok dd _ hdd)
  obtain ⟨od, ho, _⟩ := lookIn_ns hns
  have J : PySem.W.InstAt s.heap a oe C (some od) := ⟨hget, hz.1, by unfold PySem.W.notCls; rw [hv] <;> rfl, by rw [hz.2]; exact ho⟩
  have hcl : (PySem.W.clsIn X.K C).isSome = true := by
    obtain ⟨nm, q, N, bs, bm, sn, sub, ab, col, dD, k0, k1, k2, k3, k5, hC, _⟩ := T.o.cls
    unfold PySem.W.clsIn
    rw [hC] <;> rfl
  exact PySem.W.kia_one (PySem.W.kitx_exc hcl T.x.ga T.x.gg T.x.exC T.ha T.hn T.ht T.hm) I.kIn J hk (fun z => nomatch z) fun tk => ⟨.bl b, H, I.kept (t' := tk) fun _ _ z => z, rfl, q⟩
/-- e.f, e the error at a -/
def tFx (a : Addr) (cls : Value) (d : Option Addr) (f : Str) (K : PySem.W.Frag) (te : TE) : TE := fun σ H Q => te σ H fun x H1 => x = .ref a ∧ ∃ (C fI dd : Addr) (fs : List (Str × V)) (v : V), cls = .ref C ∧ ExF K C fI ∧ PySem.W.findIn K (.ref C) f = some none ∧ d = some dd ∧ H1 dd = some (.xd fs) ∧ fs.lookup f = some v ∧ Q v H1
theorem pe_fx {X : Cx} {a : Addr} {oe : Obj} {cls : Value} {d : Option Addr} {e : Expr} {te : TE} {pos : Pos} {n : Str} (hp : (a, oe) ∈ X.pn) (hz : Zc cls d oe) (hf : ∃ vs, oe.data = .fields vs) (he : PE X e te)
    (hb : attributeBase e n X.env (eval e X.env) = eval e X.env := by rfl) : PE X (.Attribute e n pos) (tFx a cls d n X.K te) := by
  refine ⟨fun pins s σ H Q I h => ?_⟩
  refine attr_of hb (thn (he.run pins s σ H _ I h) fun u s1 hh => ?_)
  obtain ⟨x, H1, I1, rx, ex, C, fI, dd, fs, v, rfl, T, hno, rfl, ea, l, q⟩ := hh
  subst ex
  obtain rfl : u = Value.ref a := rx
  obtain ⟨hget, _⟩ := I1.pin (a, oe) (List.mem_append_left _ hp)
  obtain ⟨vs, hv⟩ := hf
  obtain ⟨mA, hns, hr⟩ := (show ObjOk X.prog X.w H1 s1.heap dd (.xd fs) from I1.hok dd _ ea)
  obtain ⟨od, ho, hl⟩ := lookIn_ns hns
  obtain ⟨w1, hw1, rw1⟩ := RelO.some_of (v := v) (o := mA n) (by rw [← l]; exact hr n)
  have J : PySem.W.InstAt s1.heap a oe C (some od) := ⟨hget, hz.1, by unfold PySem.W.notCls; rw [hv] <;> rfl, by rw [hz.2]; exact ho⟩
  exact HandSPX.exc_get I1.kIn J T.x.ga T.x.gg T.x.exC (PySem.W.findObj_own T.x.hdC hno rfl (by rw [hl, hw1])) (handed_of rw1) ⟨v, H1, I1.tok _, rw1, q⟩
/-- o.m(e, ..) that may raise, within a try -/
def tMethE (C : Addr) (m : Str) (sp : Sp) (E : L2.St → XK) (ta : TE) (t : TA) : TE := fun σ H Q => ta σ H fun x H1 => ∃ a dx fs, x = .ref a ∧ H1 a = some (.ins C dx fs) ∧ fs.lookup m = none ∧ t σ H1 fun vs H2 => sp (x :: vs) H2 Q (E σ)
theorem pe_methE {X : Cx} {CX : CXT} {k : Nat} {C f : Addr} {fd : FuncData} {ps : List Str} {m : Str} {sp : Sp} {E : L2.St → XK} {o e : Expr} {es : List Expr} {ta : TE} {t : TA} {apos pos : Pos} {pl : Sem Bool} (he : PE X o ta) (c : Cls X.K C) (hm : Meth X.K C m f)
    (F : FnOk X.prog X.w X.K X.mg X.base CX k f fd ps sp) (hr : Room k X.A) (hb : Binds X.K fd ps []) (hx : ∀ σ, PassesAt CX X σ (E σ)) (ha : PA X (e :: es) t)
    (hst : starEach (e :: es) X.env = (false, eval e X.env) :: starEach es X.env := by rfl) (hpl : (backTo pos (starEach es X.env)).any (·.1) = false := by rfl)
    (ht : eval (.Call (.Attribute o m apos) (e :: es) [] pos) X.env = (do
      let ov ← eval o X.env
      standAt apos.atName
      let (f, first) ← holding [ov] (getMethod ov m pl)
      callWith pos f first (backTo pos (starEach (e :: es) X.env)) (backToKw pos (keywordEach [] X.env))) := by rfl) :
    PE X (.Call (.Attribute o m apos) (e :: es) [] pos) (tMethE C m sp E ta t) := by
  refine ⟨fun pins s σ H Q I h => ?_⟩
  refine PySem.W.methodCall_KW (pl := pl) (thn (he.run pins s σ H _ I h) fun u1 s1 hh => ?_) ht
  obtain ⟨x, H1, I1, rx, a, dx, fs, ex, ea, l, q⟩ := hh
  subst ex
  obtain rfl : u1 = Value.ref a := rx
  refine getmeth_ok I1 ea c hm l ?_
  refine PySem.W.callWith_K (first := [.ref a]) (h₀ := X.base) I.ok.mod.kin hm.kp (thn (ha.run pos pins s1 σ H1 _ I1 q) fun us s2 hh2 => ?_) hst hpl
  obtain ⟨vs, H2, I2, r, q2⟩ := hh2
  exact ⟨I2.kIn, run_fnS (us := .ref a :: us) (vs := .ref a :: vs) F hr hb (hx σ) I2 (.cons rfl r) q2⟩
/-- a def that may raise -/
theorem okN {P : Program} {w : World} {K : PySem.W.Frag} {mg : Str → Option Value} {base : Heap} {CXx : CXT} {x qual : Str} {st : Stmt} {f : Addr} {fd : FuncData} {N ps : List Str} {k : Nat} {sp : Sp} (F : Fun K x qual st f fd) (S : FnScope N ps (defScope st)) (len : ∀ vs H Q E, sp vs H Q E → vs.length = ps.length)
    (body : ∀ (cdv : Value) (A : Around) (outer : List Env) (s : Shared) (H : Hp) (vs : List V) (Q : VK) (E : XK), Room k (A.deeper (envOfC qual (defScope st) s.heap.objs.size f cdv)) → sp vs H Q E →
      ∃ t, PSs (cxOf CXx P w K mg base N qual (defScope st) f cdv A outer s H E) (defBody st) t ∧ t { nx := fun _ H' => Q .non H', rt := Q } (L2.start N vs) H) : FnOk P w K mg base CXx (k + 1) f fd ps sp := by
  obtain ⟨_, _, _, _, _, _, cdv, _, _, rfl, lk, hcd⟩ := F.ex
  exact fn_of lk hcd S len (body cdv)
/-- a def as it is called where an error is handled -/
theorem okH {P : Program} {w : World} {K : PySem.W.Frag} {mg : Str → Option Value} {base : Heap} {CXx : CXT} {x qual : Str} {st : Stmt} {f : Addr} {fd : FuncData} {N ps : List Str} {k : Nat} {sp : Sp} (F : Fun K x qual st f fd) (S : FnScope N ps (defScope st)) (len : ∀ vs H Q E, sp vs H Q E → vs.length = ps.length)
    (body : ∀ (cdv : Value) (A : Around) (outer : List Env) (s : Shared) (H : Hp) (vs : List V) (Q : VK) (E : XK) (p : Addr × Obj), L2H.Hot1 A p → L2H.RoomH k (A.deeper (envOfC qual (defScope st) s.heap.objs.size f cdv)) → sp vs H Q E →
      ∃ t, PSs (L2H.cxH CXx P w K mg base N qual (defScope st) f cdv A outer s H E p) (defBody st) t ∧ t { nx := fun _ H' => Q .non H', rt := Q } (L2.start N vs) H) : L2H.FnH P w K mg base CXx (k + 1) f fd ps sp := by
  obtain ⟨_, _, _, _, _, _, cdv, _, _, rfl, lk, hcd⟩ := F.ex
  exact L2H.fn_ofH lk hcd S len (body cdv)
theorem takesN {X : Cx} : L2N.Takes X (fun _ _ _ _ => False) := fun _ _ x => by
  obtain ⟨_, _, _, _, _, _, _, _, _, _, _, _, _, _, _, _, z⟩ := x
  exact z.elim
theorem passAt0 {X : Cx} {σ : L2.St} : PassesAt CX0 X σ E0 := fun _ _ _ _ _ _ h => h.elim
theorem hotC_suite {X : Cx} {a : Addr} {oe : Obj} {cls : Value} {d : Option Addr} {pn : List (Addr × Obj)} (hz : L2N.Zn cls d oe) (hf : ∃ vs, oe.data = .fields vs) : L2H.HotC (X.suite a ((a, oe) :: pn)) := by
  obtain ⟨vs, hv⟩ := hf
  exact ⟨(a, oe), ⟨rfl, vs, hv, hz.2.2 vs hv⟩, List.mem_cons_self ..⟩
theorem roomH_suite {k : Nat} {A : Around} {h : Option Value} (r : Room k A) : L2H.RoomH k (A.mark h) := ⟨r.dp, r.un⟩
theorem tt_true {a : Prop} (h : a) : (a = True) := propext ⟨fun _ => trivial, fun _ => h⟩
/-! ### x is True, of a plain value -/
def plainV : V → Bool
  | .bl _ => true
  | .int _ => true
  | .non => true
  | .str _ => true
  | _ => false
def rIsBM (neg : Bool) : R2 := fun x y H Q => ∃ b, y = .bl b ∧ plainV x = true ∧ Q (.bl (if neg then !decide (x = .bl b) else decide (x = .bl b))) H
theorem plainV_b {b : Bool} : plainV (.bl b) = true := rfl
theorem plainV_i {i : Int} : plainV (.int i) = true := rfl
theorem plainV_n : plainV .non = true := rfl
theorem plainV_s {x : Str} : plainV (.str x) = true := rfl
section
variable {X : Cx}
theorem op_isBM : OpR X (compareOp .Is) (rIsBM false) := by
  intro pins s σ H x y v u Q I rx ry h
  obtain ⟨b, rfl, hx, q⟩ := h
  cases (show u = Value.bool b from ry)
  by_cases e : x = .bl b
  · subst e
    cases (show v = Value.bool b from rx)
    exact wpAny_is_self rfl ⟨.bl true, H, I, rfl, by simpa using q⟩
  · have ne : v ≠ Value.bool b := fun z => by
      subst z
      cases x with
      | bl a => exact e (by rw [Value.bool.inj (show Value.bool b = Value.bool a from rx)])
      | int i =>
        obtain ⟨t, z⟩ := rx
        cases z
      | str i =>
        obtain ⟨t, z⟩ := rx
        cases z
      | non => cases (show Value.bool b = Value.none from rx)
      | byt k => cases hx
      | flt k => cases hx
      | ref k => cases hx
      | ty k => cases hx
    have pl : PySem.plainIs v (Value.bool b) = true := by
      cases x with
      | bl a =>
        cases (show v = Value.bool a from rx)
        rfl
      | int i =>
        obtain ⟨t, rfl⟩ := rx
        rfl
      | str i =>
        obtain ⟨t, rfl⟩ := rx
        rfl
      | non =>
        cases (show v = Value.none from rx)
        rfl
      | byt k => cases hx
      | flt k => cases hx
      | ref k => cases hx
      | ty k => cases hx
    exact wpAny_is_other pl ne ⟨.bl false, H, I, rfl, by simpa [e] using q⟩
end
/-! ### in, methods, slices of a tracked list -/
def rInM (neg : Bool) : R2 := fun x y H Q => ∃ p, y = .ref p ∧ lstAt H p fun xs => flatV x = true ∧ xs.all flatV = true ∧ Q (.bl (if neg then !inV x xs else inV x xs)) H
def tBMM (r : V → List V → Hp → VK → Prop) (to : TE) (t : TA) : TE := fun σ H Q => to σ H fun x H1 => ∃ p, x = .ref p ∧ lstAt H1 p fun _ => t σ H1 fun xs H2 => r x xs H2 Q
def tBM0M (r : V → List V → Hp → VK → Prop) (to : TE) : TE := fun σ H Q => to σ H fun x H1 => ∃ p, x = .ref p ∧ lstAt H1 p fun _ => r x [] H1 Q
def rSlM : V → Option Int → Option Int → Hp → VK → Prop := fun x lo hi H Q => ∃ p, x = .ref p ∧ lstAt H p fun xs => ∀ l, H l = none → Q (.ref l) (upd H l (.lst (cutV xs lo hi)))
theorem pe_at {X : Cx} {e : Expr} {te : TE} {σ0 : L2.St} {H0 : Hp} {R : V → Hp → Prop} (ha : PE X e te) (h0 : te σ0 H0 R) : PE X e (fun σ H Q => σ = σ0 ∧ H = H0 ∧ ∀ v H1, R v H1 → Q v H1) := by
  refine ⟨fun pins s σ H Q I h => ?_⟩
  obtain ⟨e1, e2, hk⟩ := h
  subst e1 e2
  exact thn (ha.run pins s σ H _ I h0) fun u s1 ⟨v, H1, I1, r, q⟩ => ⟨v, H1, I1, r, hk v H1 q⟩
section
variable {X : Cx}
theorem op_inM : OpR X (compareOp .In) (rInM false) := by
  intro pins s σ H x y v u Q I rx ry h
  obtain ⟨p, e, h⟩ := h
  obtain ⟨xs, hp, h1, h2, q⟩ := lstAt_get h
  exact op_in_seq pins s σ H x y v u Q I rx ry ⟨p, xs, e, .inl (.inl (.inl hp)), h1, h2, q⟩
theorem op_notInM : OpR X (compareOp .NotIn) (rInM true) := by
  intro pins s σ H x y v u Q I rx ry h
  obtain ⟨p, e, h⟩ := h
  obtain ⟨xs, hp, h1, h2, q⟩ := lstAt_get h
  exact op_notIn_seq pins s σ H x y v u Q I rx ry ⟨p, xs, e, .inl (.inl (.inl hp)), h1, h2, q⟩
theorem sl_listM : SlR X rSlM := by
  intro pins s σ H x v vl vu lo hi sl Q I rx hs pl pu h
  obtain ⟨p, e, h⟩ := h
  obtain ⟨xs, hp, q⟩ := lstAt_get h
  exact sl_list pins s σ H x v vl vu lo hi sl Q I rx hs pl pu ⟨p, xs, e, .inl (.inl hp), q⟩
theorem pe_bmM {name : Str} {id : String} {r : V → List V → Hp → VK → Prop} {o e : Expr} {es : List Expr} {to : TE} {t : TA} {apos cpos : Pos} (slot : Slot "list" name id) (hty : typeOf (.builtin id) = pure (.type "method_descriptor")) (hm : MtR X id r) (ho : PE X o to) (ha : PA X (e :: es) t)
    (hbase : attributeBase o name X.env (eval o X.env) = eval o X.env := by rfl)
    (hfew : ((backTo cpos (starEach (e :: es) X.env)).all (fun x => !x.1) && (backToKw cpos (keywordEach [] X.env)).all (fun x => x.1.isSome)
      && decide ((e :: es).length + ([] : List Keyword).length + (if ([] : List Keyword).isEmpty then 0 else 1) < 30)) = true := by rfl)
    (hline : (apos.endLine == cpos.line) = true := by rfl) (hs : starEach (e :: es) X.env = (false, eval e X.env) :: starEach es X.env := by rfl) (hplain : (backTo cpos (starEach es X.env)).any (·.1) = false := by rfl) :
    PE X (.Call (.Attribute o name apos) (e :: es) [] cpos) (tBMM r to t) := by
  refine ⟨fun pins s σ H Q I h => ?_⟩
  refine (pe_bm PySem.F.plainAttrs_list slot hty hm (pe_at ho h) ha hbase hfew hline hs hplain).run pins s σ H Q I ⟨rfl, rfl, fun v H1 hv => ?_⟩
  obtain ⟨p, rfl, hv⟩ := hv
  obtain ⟨xs, hp, q⟩ := lstAt_get hv
  exact ⟨.inl ⟨rfl, xs, .inl (.inl hp)⟩, q⟩
theorem pe_bm0M {name : Str} {id : String} {r : V → List V → Hp → VK → Prop} {o : Expr} {to : TE} {apos cpos : Pos} (slot : Slot "list" name id) (hty : typeOf (.builtin id) = pure (.type "method_descriptor")) (hm : MtR X id r) (ho : PE X o to)
    (hbase : attributeBase o name X.env (eval o X.env) = eval o X.env := by rfl) (hline : (apos.endLine == cpos.line) = true := by rfl) : PE X (.Call (.Attribute o name apos) [] [] cpos) (tBM0M r to) := by
  refine ⟨fun pins s σ H Q I h => ?_⟩
  refine (pe_bm0 PySem.F.plainAttrs_list slot hty hm (pe_at ho h) hbase hline).run pins s σ H Q I ⟨rfl, rfl, fun v H1 hv => ?_⟩
  obtain ⟨p, rfl, hv⟩ := hv
  obtain ⟨xs, hp, q⟩ := lstAt_get hv
  exact ⟨.inl ⟨rfl, xs, .inl (.inl hp)⟩, q⟩
end
theorem lkc {a k : Str} {b : V} {es : List (Str × V)} : List.lookup a ((k, b) :: es) = if a = k then some b else List.lookup a es := by
  by_cases h : a = k
  · subst h
    simp [List.lookup]
  · have e : (a == k) = false := by simpa using h
    rw [if_neg h]
    simp [List.lookup, e]
theorem lkn {a : Str} : List.lookup a ([] : List (Str × V)) = none := rfl
theorem pfn {f : Str} {v : V} : putF f v [] = [(f, v)] := rfl
theorem pfc {f g : Str} {v x : V} {r : List (Str × V)} : putF f v ((g, x) :: r) = if g = f then (g, v) :: r else (g, x) :: putF f v r := rfl
theorem cxH_K {CX : CXT} {P : Program} {w : World} {K : PySem.W.Frag} {mg : Str → Option Value} {base : Heap} {N : List Str} {qual : Str} {scope : Scope} {f : Addr} {cd : Value} {A : Around} {outer : List Env} {s : Shared} {H : Hp} {E : XK} {p : Addr × Obj} : (L2H.cxH CX P w K mg base N qual scope f cd A outer s H E p).K = K := rfl
theorem clsV_ref {C : Addr} {u : Value} : ClsV (.ref C) u = (Value.ref C = u) := by
  apply propext
  constructor
  · intro h
    cases h
    rfl
  · intro h
    subst h
    exact .own C
theorem clsV_ty {n : String} {u : Value} : ClsV (.ty n) u = (Value.type n = u) := by
  apply propext
  constructor
  · intro h
    cases h
    rfl
  · intro h
    subst h
    exact .ty n

/-! ### a def that is handed the error that is handled: its promise speaks of the pinned object -/
structure FnE (P : Program) (w : World) (K : PySem.W.Frag) (mg : Str → Option Value) (base : Heap) (CXx : CXT) (k : Nat) (f : Addr) (fd : FuncData) (ps : List Str) (sp : Addr × Obj → Sp) : Prop where
  len : ∀ p vs H Q E, sp p vs H Q E → vs.length = ps.length
  run : ∀ (p : Addr × Obj) (A : Around) (outer : List Env) (s : Shared) (H : Hp) (args : Args) (us : List Value) (vs : List V) (Q : VK) (E : XK), L2H.RoomH k A → L2H.Hot1 A p → L2H.PinOk outer H s p → Env0 P w K mg base A outer s H → BindsTo s fd args (ps.zip us) →
    Vals vs us → sp p vs H Q E → codeAny (model P w) A (.call (.ref f) args) (CR CXx outer P w H s Q E) s
theorem okE {P : Program} {w : World} {K : PySem.W.Frag} {mg : Str → Option Value} {base : Heap} {CXx : CXT} {x qual : Str} {st : Stmt} {f : Addr} {fd : FuncData} {N ps : List Str} {k : Nat} {sp : Addr × Obj → Sp} (F : Fun K x qual st f fd) (S : FnScope N ps (defScope st))
    (len : ∀ p vs H Q E, sp p vs H Q E → vs.length = ps.length)
    (body : ∀ (p : Addr × Obj) (cdv : Value) (A : Around) (outer : List Env) (s : Shared) (H : Hp) (vs : List V) (Q : VK) (E : XK), L2H.Hot1 A p → L2H.RoomH k (A.deeper (envOfC qual (defScope st) s.heap.objs.size f cdv)) → sp p vs H Q E →
      ∃ t, PSs (L2H.cxH CXx P w K mg base N qual (defScope st) f cdv A outer s H E p) (defBody st) t ∧ t { nx := fun _ H' => Q .non H', rt := Q } (L2.start N vs) H) : FnE P w K mg base CXx (k + 1) f fd ps sp := by
  obtain ⟨_, _, _, _, _, _, cdv, _, _, rfl, lk, hcd⟩ := F.ex
  refine ⟨len, fun p A outer s H args us vs Q E hr hot pin e0 bnd rv hsp => ?_⟩
  have kin : K.In s.heap := e0.mod.kin.keeps fun b o q => (e0.bs b o q).1
  have own : ∀ y ∈ ps.zip us, (defScope st).names.lookup y.1 = some .local ∨ ((defScope st).names.lookup y.1 = some .cell ∧ ((cellsFrom (s.heap.objs.size + 1) (defScope st).names []).lookup y.1).isSome = true) := by
    intro y hy
    rcases S.par y.1 (List.of_mem_zip (a := y.1) (b := y.2) hy).1 with h | h
    · exact .inl h
    · exact .inr ⟨h, PySem.W.cellsFrom_some _ _ _ (.inl h)⟩
  refine codeAny_call_function hr.depth (kin _ _ lk) rfl S.co S.gen rfl (PySem.W.codeRec_of kin hcd) (bnd _ _ _ _ (wpAny_newFunctionEnv_cells S.kind own fun env he s1 z => ?_))
  subst he
  refine ⟨(e0.mod.nolimit.keeps fun b o q => (e0.bs b o q).1).keeps z.toInCall.keep, codeAny_func ?_⟩
  obtain ⟨t, ht, hq⟩ := body p cdv A outer s H vs Q E hot (hr.deeper _) hsp
  have I := L2H.inv_startH (CX := CXx) (P := P) (w := w) (mg := mg) (base := base) (E := E) S pin e0 (len _ _ _ _ _ hsp) rv z
  refine wpAny_mono (ht.run [] s1 (L2.start N vs) H _ I hq) (fun fl s2 h2 => ?_) fun _ _ h2 => h2
  cases fl with
  | brk =>
    obtain ⟨_, _, _, h2⟩ := h2
    exact h2.elim
  | cont =>
    obtain ⟨_, _, _, h2⟩ := h2
    exact h2.elim
  | next =>
    obtain ⟨_, H2, J, q⟩ := h2
    exact ⟨V.non, H2, J.os, J.bare, J.base, J.hok, rfl, q⟩
  | ret u =>
    obtain ⟨v, _, H2, J, r, q⟩ := h2
    exact ⟨v, H2, J.os, J.bare, J.base, J.hok, r, q⟩
def tCallZ (sp : Addr × Obj → Sp) (a : Addr) (cls : Value) (d : Option Addr) (t : TA) : TE := fun σ H Q => t σ H fun vs H1 => ∀ oe, L2N.Zn cls d oe → (∃ ws, oe.data = .fields ws) → sp (a, oe) vs H1 Q E0
theorem pe_callE {X : Cx} {k : Nat} {f : Addr} {fd : FuncData} {ps : List Str} {sp : Addr × Obj → Sp} {x : Str} {q pos : Pos} {e : Expr} {es : List Expr} {t : TA} {a : Addr} {oe : Obj} {cls : Value} {d : Option Addr} (F : FnE X.prog X.w X.K X.mg X.base CX0 k f fd ps sp) (hr : L2H.RoomH k X.A) (hot : L2H.Hot1 X.A (a, oe)) (hp : (a, oe) ∈ X.pn) (hz : L2N.Zn cls d oe) (hf : ∃ ws, oe.data = .fields ws)
    (hg : Gl X x) (hm : X.mg x = some (.ref f)) (hk : PySem.W.keepIn X.K (.ref f) = true) (hb : Binds X.K fd ps []) (ha : PA X (e :: es) t) (hdb : (x == ("__debug__" : Str)) = false := by decide)
    (he : starEach (e :: es) X.env = (false, eval e X.env) :: starEach es X.env := by rfl) (hpl : (backTo pos (starEach es X.env)).any (·.1) = false := by rfl) : PE X (.Call (.Name x q) (e :: es) [] pos) (tCallZ sp a cls d t) := by
  refine ⟨fun pins s σ H Q I h => ?_⟩
  refine wpAny_Call_Name_kw (ld_glob I hg hm ?_ hdb)
  refine PySem.W.callWith_K (h₀ := X.base) I.ok.mod.kin hk (thn (ha.run pos pins s σ H _ I h) fun us s1 z => ?_) he hpl
  obtain ⟨vs, H1, I1, r, hsp0⟩ := z
  have hsp := hsp0 oe hz hf
  refine ⟨I1.kIn, ?_⟩
  have n : us.length = ps.length := r.length.symm.trans (F.len _ _ _ _ _ hsp)
  have b := hb s1 us I1.kIn (by rw [List.append_nil]; exact n)
  rw [List.append_nil] at b
  have at1 := I1.pin (a, oe) (List.mem_append_left _ hp)
  have pin : L2H.PinOk X.stack H1 s1 (a, oe) := ⟨at1.1, at1.2.1, fun hx => (List.mem_cons.mp (I1.stkSub a hx)).elim at1.2.2.1 at1.2.2.2.1, at1.2.2.2.2⟩
  refine wpAny_call (codeAny_mono (F.run (a, oe) X.A X.stack s1 H1 ⟨us, []⟩ us vs Q E0 hr hot pin I1.env0 b r hsp) fun res s2 hres => ?_)
  cases res with
  | error er => exact hres.elim
  | ok fl =>
    cases fl with
    | ret u => exact I1.after hres
    | next => exact hres.elim
    | brk => exact hres.elim
    | cont => exact hres.elim
theorem hot_suite {X : Cx} {a : Addr} {oe : Obj} {cls : Value} {d : Option Addr} {pn : List (Addr × Obj)} (hz : L2N.Zn cls d oe) (hf : ∃ vs, oe.data = .fields vs) : L2H.Hot1 (X.suite a ((a, oe) :: pn)).A (a, oe) := by
  obtain ⟨vs, hv⟩ := hf
  exact ⟨rfl, vs, hv, hz.2.2 vs hv⟩

/-! ### more small rules -/
theorem passN0 {P : Program} {w : World} {X : Cx} : Passes (L2N.CX P w) X E0 := fun _ _ _ _ _ _ _ ⟨_, _, _, _, _, _, _, _, _, _, _, _, h⟩ => h.elim
theorem isTy_si {x : Str} : isTy (.str x) "int" = some false := by
  show L2.kitB "str" "int" = some false
  decide +kernel
theorem isTy_is {i : Int} : isTy (.int i) "str" = some false := by
  show L2.kitB "int" "str" = some false
  decide +kernel
theorem isTy_sb {x : Str} : isTy (.str x) "bool" = some false := by
  show L2.kitB "str" "bool" = some false
  decide +kernel
/-- isinstance(x, list), x a tracked list -/
def rIsL : List V → Hp → VK → Prop := fun xs H Q => ∃ p, xs = [.ref p, .ty "list"] ∧ lstAt H p fun _ => Q (.bl true) H
theorem call_isL {X : Cx} : CallR X (.builtin "isinstance") rIsL := by
  intro pins s σ H xs us Q I r h
  obtain ⟨p, rfl, h⟩ := h
  obtain ⟨ys, hp, q⟩ := lstAt_get h
  exact call_isi pins s σ H _ us Q I r ⟨.ref p, .ty "list", .type "list", .type "list", true, rfl, .ty "list", .base (.lst hp), kit_ty rfl, q⟩
/-- a str times an int that is more than one -/
def rRepS : R2 := fun x y H Q => ∃ (i : Str) (n : Int), x = .str i ∧ y = .int n ∧ 1 < n ∧ n ≤ 100000 ∧ 0 < i.length ∧ i.length ≤ 10 ∧ ∀ z : Str, z.length = i.length * n.toNat → Q (.str z) H
theorem size_foldl_rep (b : Array Nat) : ∀ (n : Nat) (a : Array Nat), (List.foldl (fun x1 x2 => x1 ++ x2) a (List.replicate n b)).size = a.size + b.size * n
  | 0, a => by simp
  | n + 1, a => by
    rw [List.replicate_succ, List.foldl_cons, size_foldl_rep b n, Array.size_append, Nat.mul_succ]
    omega
theorem op_repS {X : Cx} : OpR X (binaryOp .Mult) rRepS := by
  intro pins s σ H x y v u Q I rx ry h
  obtain ⟨i, n, rfl, rfl, h1, h2, h3, h4, q⟩ := h
  obtain ⟨t, rfl⟩ := rx
  obtain ⟨t', rfl⟩ := ry
  have hl : i.length * n.toNat ≤ 1000000 := by
    have := Nat.mul_le_mul h4 (show n.toNat ≤ 100000 by omega)
    omega
  have c0 : ¬ n < 1 := by omega
  have c1 : (n == 1 || i.length == 0) = false := by
    have a1 : (n == 1) = false := by simp; omega
    have a2 : (i.length == 0) = false := by simp; omega
    rw [a1, a2] <;> rfl
  have hs : (⟨(List.replicate n.toNat i.cps).foldl (· ++ ·) #[]⟩ : Str).length = i.length * n.toNat := by
    show Array.size _ = _
    rw [size_foldl_rep]
    simp [Str.length]
  have hsl : i.length * n.toNat ≤ sizeLine := Nat.le_trans hl (by decide)
  have ns : PySem.Builtin.Str.tooLong (i.length * n.toNat) = false := decide_eq_false (by omega)
  refine PySem.P.mul_str ?_ (fun _ _ => ?_) (fun _ _ => ns) ?_
  · have a1 : ¬ n < -(2 ^ 63 : Int) := by omega
    have a2 : ¬ n ≥ 2 ^ 63 := by omega
    rw [decide_eq_false a1, decide_eq_false a2] <;> rfl
  · have a1 : (100 : Int) ≤ (2 ^ 63 - 1) / n := by
      refine Int.le_ediv_of_mul_le (by omega) ?_
      omega
    omega
  · rw [if_neg c0, if_neg (by rw [c1]; decide)]
    exact ⟨by rw [hs]; exact hsl, ⟨.str _, H, I.tok _, ⟨_, rfl⟩, q _ hs⟩⟩
/-- a loop over a list that is made for it -/
theorem for_lstN {K : PySem.W.Frag} {tl : TE} {g : TG} {tb : TS} {D : Ends} {σ : L2.St} {H : Hp} (xs : List V) (htl : ∀ R : V → Hp → Prop, (∀ p, H p = none → R (.ref p) (upd H p (.lst xs))) → tl σ H R) (Pv : Addr → Nat → L2.St → Hp → Prop)
    (hp : ∀ p, H p = none → Pv p 0 σ (upd H p (.lst xs))) (hl : ∀ p i σ' H', H p = none → Pv p i σ' H' → H' p = some (.lst xs))
    (hs : ∀ p i x σ' H', H p = none → xs[i]? = some x → Pv p i σ' H' → g x σ' H' fun σ2 H2 => tb { D with nx := Pv p (i + 1), ct := Pv p (i + 1), bk := D.nx } σ2 H2) (hd : ∀ p σ' H', H p = none → Pv p xs.length σ' H' → D.nx σ' H') : tFor (iList K tl) g tb D σ H :=
  htl _ fun p h0 => ⟨p, rfl, ⟨xs, .inl (.inl upd_same)⟩, L2.for_list (K := K) (a := p) (xs := xs) (Pv p) (hp p h0) (fun i σ' H' _ h => .inl (.inl (hl p i σ' H' h0 h))) (fun i x σ' H' hx h => hs p i x σ' H' h0 hx h) (fun σ' H' h => hd p σ' H' h0 h)⟩
theorem cutV_from {xs : List V} {c : Nat} : cutV xs (some (c : Int)) none = xs.drop c := by
  unfold cutV
  rw [HT.sIx_none, HT.sIx_nat]
  by_cases h : c ≤ xs.length
  · rw [Nat.min_eq_left h]
    exact List.take_of_length_le (by rw [List.length_drop]; exact Nat.le_refl _)
  · rw [Nat.min_eq_right (by omega), List.drop_length, List.take_nil, List.drop_eq_nil_of_le (by omega)]
theorem cutV_to {xs : List V} {c : Nat} : cutV xs none (some (c : Int)) = xs.take c := by
  unfold cutV
  rw [HT.sIx_none, HT.sIx_nat, List.drop_zero, Nat.sub_zero]
  by_cases h : c ≤ xs.length
  · rw [Nat.min_eq_left h]
  · rw [Nat.min_eq_right (by omega), List.take_length, List.take_of_length_le (by omega)]
theorem suite_mem {X : Cx} {a : Addr} {oe : Obj} {pn : List (Addr × Obj)} : (a, oe) ∈ (X.suite a ((a, oe) :: pn)).pn := List.mem_cons_self ..
theorem call_isXs {X : Cx} {a : Addr} {oe : Obj} {pn : List (Addr × Obj)} {cls : Value} {d : Option Addr} (hz : L2N.Zn cls d oe) (hf : ∃ vs, oe.data = .fields vs) : CallR (X.suite a ((a, oe) :: pn)) (.builtin "isinstance") (rIsX X.K a cls d) :=
  call_isX (X := X.suite a ((a, oe) :: pn)) suite_mem (L2N.Zn.zc hz) hf
theorem pe_fxs {X : Cx} {a : Addr} {oe : Obj} {pn : List (Addr × Obj)} {cls : Value} {d : Option Addr} {e : Expr} {te : TE} {pos : Pos} {n : Str} (hz : L2N.Zn cls d oe) (hf : ∃ vs, oe.data = .fields vs) (he : PE (X.suite a ((a, oe) :: pn)) e te)
    (hb : attributeBase e n (X.suite a ((a, oe) :: pn)).env (eval e (X.suite a ((a, oe) :: pn)).env) = eval e (X.suite a ((a, oe) :: pn)).env := by rfl) : PE (X.suite a ((a, oe) :: pn)) (.Attribute e n pos) (tFx a cls d n X.K te) :=
  pe_fx (X := X.suite a ((a, oe) :: pn)) suite_mem (L2N.Zn.zc hz) hf he hb
/-- for k in range(j), j maybe less than nothing -/
theorem for_rngT {ta : TA} {g : TG} {tb : TS} {D : Ends} {σ : L2.St} {H : Hp} (j : Int) (hta : ∀ R : List V → Hp → Prop, R [.int j] H → ta σ H R) (h0 : -(2 ^ 62) ≤ j) (h1 : j < 2 ^ 62) (Pv : Nat → L2.St → Hp → Prop) (hp : Pv 0 σ H)
    (hs : ∀ (i : Nat) σ H, (i : Int) < j → Pv i σ H → g (.int (i : Int)) σ H fun σ2 H2 => tb { D with nx := Pv (i + 1), ct := Pv (i + 1), bk := D.nx } σ2 H2) (hd : ∀ σ H, Pv j.toNat σ H → D.nx σ H) : tFor (iRng1 ta) g tb D σ H :=
  hta _ ⟨j, rfl, h0, h1, for_range (lo := 0) (n := j.toNat) Pv hp (fun i σ H hi pv => by
    rw [Int.zero_add]
    exact hs i σ H (by omega) pv) hd⟩

/-! ### heappush, heappop over lists of ints -/
section
open PySem.AutoSeq1 PySem.MeetsSeq
def vals (ps : Array (Int × Tok)) : Array Value := ps.map fun p => Value.int p.1 p.2
theorem vals_size {ps : Array (Int × Tok)} : (vals ps).size = ps.size := Array.size_map ..
theorem vals_get {ps : Array (Int × Tok)} {i : Nat} (h : i < ps.size) : (vals ps)[i]? = some (Value.int ps[i].1 ps[i].2) := by
  unfold vals
  rw [Array.getElem?_map, Array.getElem?_eq_getElem h]
  rfl
theorem plain_sift : plainId "_heapq.heapify.sift" = true := by decide +kernel
theorem entry_sift : entryFor table "_heapq.heapify.sift" = some Builtin.«_heapq.heapify.sift» := entryFor_of_fast (by kernel_rfl)
def upS (l : Addr) (r : Value) (ps qs : Array (Int × Tok)) (n : Nat) : PySem.Spec := fun _ R s => s.heap.get? l = some { cls := .type "list", dict := none, data := .seq (vals ps) n, slots := #[] } ∧
  ∀ h' n' t', h'.get? l = some { cls := .type "list", dict := none, data := .seq (vals qs) n', slots := #[] } → (∀ b u, b ≠ l → s.heap.get? b = some u → h'.get? b = some u) → h'.objs.size = s.heap.objs.size → R (.ok (.ret r)) { s with heap := h', toks := t' }
def up (ps : Array (Int × Tok)) (pos : Nat) : Array (Int × Tok) :=
  if h : 0 < pos ∧ pos < ps.size then
    if ps[pos].1 < (ps[(pos - 1) / 2]'(by omega)).1 then up ((ps.setIfInBounds ((pos - 1) / 2) ps[pos]).setIfInBounds pos (ps[(pos - 1) / 2]'(by omega))) ((pos - 1) / 2) else ps
  else ps
termination_by pos
decreasing_by omega
theorem rc_lt {prog : Program} {w : World} {A : Around} {Q : Value → Shared → Prop} {E : Value → Shared → Prop} {s : Shared} {a b : Int} {t u : Tok} (h : Q (.bool (decide (a < b))) s) : wpAny (model prog w) A (richCompare .Lt (.int a t) (.int b u)) Q E s := PySem.P.lt_int h
theorem sift_up (l : Addr) (r : Value) (pos : Nat) : ∀ (ps : Array (Int × Tok)) (n : Nat), pos < ps.size → ps.size ≤ 100001 → Meets (Builtin.«_heapq.heapify.sift» ⟨[.ref l, .bool false, .bool false, rawInt (pos : Nat), rawInt (0 : Nat), r, rawInt (-1)], []⟩) (upS l r ps (up ps pos) n) := by
  induction pos using Nat.strongRecOn with
  | ind pos ih =>
    intro ps n hps hz prog w A R s h
    obtain ⟨hp, g, d, tk, os⟩ := s
    obtain ⟨hl, h⟩ := h
    have hz2 : (vals ps).size ≤ sizeLine := by rw [vals_size, sizeLine_eq]; omega
    wp_walk using wpAny_loadPart' hl
    by_cases hpos : 0 < pos
    · rw [if_pos (show ((pos : Nat) : Int).toNat > ((0 : Nat) : Int).toNat by rw [Int.toNat_natCast, Int.toNat_natCast]; exact hpos)]
      have hpar : (pos - 1) / 2 < ps.size := by omega
      simp only [Int.toNat_natCast]
      wp_walk
      rw [vals_get hps]
      wp_walk
      rw [vals_get hpar]
      wp_walk using rc_lt, wpAny_loadPart' hl
      by_cases c : ps[pos].1 < (ps[(pos - 1) / 2]).1
      · rw [if_pos (decide_eq_true c)]
        have e : up ps pos = up ((ps.setIfInBounds ((pos - 1) / 2) ps[pos]).setIfInBounds pos ps[(pos - 1) / 2]) ((pos - 1) / 2) := by
          rw [up, dif_pos ⟨hpos, hps⟩, if_pos c]
        have hz3 : (((vals ps).setIfInBounds ((pos - 1) / 2) (Value.int ps[pos].1 ps[pos].2)).setIfInBounds pos (Value.int (ps[(pos - 1) / 2]).1 (ps[(pos - 1) / 2]).2)).size ≤ sizeLine + 1 := by
          rw [Array.size_setIfInBounds, Array.size_setIfInBounds]
          omega
        wp_walk using wpAny_loadPart' hl
        rw [vals_get hpar]
        wp_walk
        rw [vals_get hps]
        wp_walk using (wpAny_updateSeq hl rfl (hz := hz2) (_hz' := hz3))
        have ev : vals ((ps.setIfInBounds ((pos - 1) / 2) ps[pos]).setIfInBounds pos ps[(pos - 1) / 2]) = ((vals ps).setIfInBounds ((pos - 1) / 2) (Value.int ps[pos].1 ps[pos].2)).setIfInBounds pos (Value.int (ps[(pos - 1) / 2]).1 (ps[(pos - 1) / 2]).2) := by
          unfold vals
          rw [Array.map_setIfInBounds, Array.map_setIfInBounds]
        have g1 := PySem.IsL.update hl (fun xs => (xs.setIfInBounds ((pos - 1) / 2) (Value.int ps[pos].1 ps[pos].2)).setIfInBounds pos (Value.int (ps[(pos - 1) / 2]).1 (ps[(pos - 1) / 2]).2))
        rw [← ev] at g1
        rw [e] at h
        exact ⟨plainId_quiet plain_sift _, codeAny_builtin entry_sift (by
          rw [Around.under_plainId plain_sift _]
          exact ih ((pos - 1) / 2) (by omega) _ _ (by rw [Array.size_setIfInBounds, Array.size_setIfInBounds]; exact hpar) (by rw [Array.size_setIfInBounds, Array.size_setIfInBounds]; exact hz) prog w A R _
            ⟨g1, fun h' n' t' a1 a2 a3 => h h' n' t' a1 (fun b u hb hu => a2 b u hb ((Heap.get?_update_other hp _ (Ne.symm hb)).trans hu)) (a3.trans (by simp [Heap.update]))⟩)⟩
      · rw [if_neg (by rw [decide_eq_true_eq]; exact c)]
        have e : up ps pos = ps := by
          rw [up, dif_pos ⟨hpos, hps⟩, if_neg c]
        rw [e] at h
        wp_walk
        exact h hp n tk hl (fun _ _ _ z => z) rfl
    · rw [if_neg (show ¬ ((pos : Nat) : Int).toNat > ((0 : Nat) : Int).toNat by rw [Int.toNat_natCast, Int.toNat_natCast]; exact hpos)]
      have e : up ps pos = ps := by
        unfold up
        rw [dif_neg (by omega)]
      rw [e] at h
      wp_walk
      exact h hp n tk hl (fun _ _ _ z => z) rfl
/-- the key at a place -/
def key (ps : Array (Int × Tok)) (i : Nat) : Int := (ps.getD i (0, 0)).1
theorem key_get {ps : Array (Int × Tok)} {i : Nat} (h : i < ps.size) : ps[i].1 = key ps i := by
  unfold key
  rw [Array.getD_eq_getD_getElem?, Array.getElem?_eq_getElem h]
  rfl
theorem key_set {ps : Array (Int × Tok)} {j : Nat} {y : Int × Tok} (h : j < ps.size) (i : Nat) : key (ps.setIfInBounds j y) i = if i = j then y.1 else key ps i := by
  unfold key
  rw [Array.getD_eq_getD_getElem?, Array.getD_eq_getD_getElem?, Array.getElem?_setIfInBounds]
  by_cases e : i = j
  · subst e
    rw [if_pos rfl, if_pos rfl, if_pos h]
    rfl
  · rw [if_neg (Ne.symm e), if_neg e]
def HpBut (ps : Array (Int × Tok)) (pos : Nat) : Prop := ∀ i, 0 < i → i < ps.size → i ≠ pos → key ps ((i - 1) / 2) ≤ key ps i
def IsHp (ps : Array (Int × Tok)) : Prop := ∀ i, 0 < i → i < ps.size → key ps ((i - 1) / 2) ≤ key ps i
theorem up_heap (pos : Nat) : ∀ ps : Array (Int × Tok), pos < ps.size → HpBut ps pos → (0 < pos → ∀ i, i < ps.size → 0 < i → (i - 1) / 2 = pos → key ps ((pos - 1) / 2) ≤ key ps i) → IsHp (up ps pos) := by
  induction pos using Nat.strongRecOn with
  | ind pos ih =>
    intro ps hps h1 h2
    by_cases hpos : 0 < pos
    · have hpar : (pos - 1) / 2 < ps.size := by omega
      by_cases c : ps[pos].1 < (ps[(pos - 1) / 2]).1
      · rw [up, dif_pos ⟨hpos, hps⟩, if_pos c]
        rw [key_get, key_get] at c
        have k1 : ∀ i, key ((ps.setIfInBounds ((pos - 1) / 2) ps[pos]).setIfInBounds pos ps[(pos - 1) / 2]) i = if i = pos then key ps ((pos - 1) / 2) else if i = (pos - 1) / 2 then key ps pos else key ps i := fun i => by
          rw [key_set (by rw [Array.size_setIfInBounds]; exact hps), key_set hpar, key_get, key_get]
        have sz : ((ps.setIfInBounds ((pos - 1) / 2) ps[pos]).setIfInBounds pos ps[(pos - 1) / 2]).size = ps.size := by rw [Array.size_setIfInBounds, Array.size_setIfInBounds]
        refine ih ((pos - 1) / 2) (by omega) _ (by rw [sz]; exact hpar) (fun i i0 i1 i2 => ?_) (fun p0 i i1 i0 i2 => ?_)
        · rw [sz] at i1
          rw [k1, k1]
          by_cases e : i = pos
          · subst e
            rw [if_neg (by omega), if_pos rfl, if_pos rfl]
            exact Int.le_of_lt c
          · rw [if_neg e, if_neg i2]
            have g := h1 i i0 i1 e
            by_cases e2 : (i - 1) / 2 = pos
            · rw [if_pos e2]
              exact h2 hpos i i1 i0 e2
            · rw [if_neg e2]
              by_cases e3 : (i - 1) / 2 = (pos - 1) / 2
              · rw [if_pos e3]
                rw [e3] at g
                omega
              · rw [if_neg e3]
                exact g
        · rw [sz] at i1
          rw [k1, k1, if_neg (by omega), if_neg (by omega)]
          have g := h1 ((pos - 1) / 2) p0 hpar (by omega)
          by_cases e : i = pos
          · rw [if_pos e]
            exact g
          · rw [if_neg e, if_neg (by omega)]
            have g2 := h1 i i0 i1 e
            rw [i2] at g2
            omega
      · rw [up, dif_pos ⟨hpos, hps⟩, if_neg c]
        rw [key_get, key_get] at c
        intro i i0 i1
        by_cases e : i = pos
        · subst e
          omega
        · exact h1 i i0 i1 e
    · rw [up, dif_neg (by omega)]
      exact fun i i0 i1 => h1 i i0 i1 (by omega)
theorem up_perm (pos : Nat) : ∀ ps : Array (Int × Tok), (up ps pos).toList.Perm ps.toList := by
  induction pos using Nat.strongRecOn with
  | ind pos ih =>
    intro ps
    by_cases h : 0 < pos ∧ pos < ps.size
    · have hpar : (pos - 1) / 2 < ps.size := by omega
      by_cases c : ps[pos].1 < (ps[(pos - 1) / 2]).1
      · rw [up, dif_pos h, if_pos c]
        refine (ih ((pos - 1) / 2) (by omega) _).trans ?_
        have e : (ps.setIfInBounds ((pos - 1) / 2) ps[pos]).setIfInBounds pos ps[(pos - 1) / 2] = ps.swap ((pos - 1) / 2) pos hpar h.2 := by
          simp [Array.swap_def, Array.setIfInBounds, hpar, h.2]
        rw [e]
        exact (Array.swap_perm hpar h.2).toList
      · rw [up, dif_pos h, if_neg c]
    · rw [up, dif_neg h]
theorem sub_tt : isSubtype (.type "tuple") (.type "tuple") = pure true := PySem.AutoSeq1.sub_tuple_tuple
theorem push_meets (l : Addr) (x : Int) (t : Tok) (ps : Array (Int × Tok)) (n : Nat) (hz : ps.size ≤ 100000) : Meets (Builtin.«_heapq.heappush» ⟨[.ref l, .int x t], []⟩) (upS l .none ps (up (ps.push (x, t)) ps.size) n) := by
  intro prog w A R s h
  obtain ⟨hp, g, d, tk, os⟩ := s
  obtain ⟨hl, h⟩ := h
  have f1 := idx_int
  have f2 := sub_tt
  have f3 := PySem.AutoSeq1.sub_list_list
  have f4 := PySem.AutoSeq1.sub_tuple_list
  have f5 := PySem.AutoSeq1.sub_list_tuple
  have hz' : ((vals ps).push (.int x t)).size ≤ sizeLine + 1 := by rw [Array.size_push, sizeLine_eq, vals_size]; omega
  have hz2 : (vals ps).size ≤ sizeLine := by rw [sizeLine_eq, vals_size]; omega
  have ev : vals (ps.push (x, t)) = (vals ps).push (.int x t) := by
    unfold vals
    rw [Array.map_push]
  have g1 := PySem.IsL.update hl (fun xs => xs.push (.int x t))
  rw [← ev] at g1
  wp_walk using (wpAny_updateSeq hl rfl (hz := hz2) (_hz' := hz')), wpAny_loadPart' hl, wpAny_loadPart' g1
  refine ⟨plainId_quiet plain_sift _, codeAny_builtin entry_sift ?_⟩
  rw [Around.under_plainId plain_sift _]
  have e : (vals (ps.push (x, t))).size - 1 = ps.size := by rw [vals_size, Array.size_push]; rfl
  rw [e]
  exact sift_up l _ ps.size (ps.push (x, t)) _ (by rw [Array.size_push]; omega) (by rw [Array.size_push]; omega) prog w A R _
    ⟨g1, fun h' n' t' a1 a2 a3 => h h' n' t' a1 (fun b u hb hu => a2 b u hb ((Heap.get?_update_other hp _ (Ne.symm hb)).trans hu)) (a3.trans (by simp [Heap.update]))⟩
/-- two places change -/
def sw (ps : Array (Int × Tok)) (i j : Nat) : Array (Int × Tok) := (ps.setIfInBounds i (ps.getD j (0, 0))).setIfInBounds j (ps.getD i (0, 0))
theorem sw_size {ps : Array (Int × Tok)} {i j : Nat} : (sw ps i j).size = ps.size := by
  unfold sw
  rw [Array.size_setIfInBounds, Array.size_setIfInBounds]
theorem getD_get {ps : Array (Int × Tok)} {i : Nat} (h : i < ps.size) : ps.getD i (0, 0) = ps[i] := by
  rw [Array.getD_eq_getD_getElem?, Array.getElem?_eq_getElem h]
  rfl
theorem sw_key {ps : Array (Int × Tok)} {i j : Nat} (hi : i < ps.size) (hj : j < ps.size) (k : Nat) : key (sw ps i j) k = if k = j then key ps i else if k = i then key ps j else key ps k := by
  unfold sw
  rw [key_set (by rw [Array.size_setIfInBounds]; exact hj), key_set hi]
  rfl
theorem sw_perm {ps : Array (Int × Tok)} {i j : Nat} (hi : i < ps.size) (hj : j < ps.size) : (sw ps i j).toList.Perm ps.toList := by
  have e : sw ps i j = ps.swap i j hi hj := by
    unfold sw
    rw [getD_get hi, getD_get hj]
    simp [Array.swap_def, Array.setIfInBounds, hi, hj]
  rw [e]
  exact (Array.swap_perm hi hj).toList
theorem sw_vals {ps : Array (Int × Tok)} {i j : Nat} (hi : i < ps.size) (hj : j < ps.size) : vals (sw ps i j) = ((vals ps).setIfInBounds i (Value.int ps[j].1 ps[j].2)).setIfInBounds j (Value.int ps[i].1 ps[i].2) := by
  unfold sw vals
  rw [getD_get hi, getD_get hj, Array.map_setIfInBounds, Array.map_setIfInBounds]
def dnC (ps : Array (Int × Tok)) (pos : Nat) : Nat := if 2 * pos + 1 + 1 < ps.size ∧ ¬ key ps (2 * pos + 1) < key ps (2 * pos + 1 + 1) then 2 * pos + 1 + 1 else 2 * pos + 1
theorem dnC_lt {ps : Array (Int × Tok)} {pos : Nat} (h : pos < ps.size / 2) : dnC ps pos < ps.size ∧ pos < dnC ps pos := by
  unfold dnC
  split <;> omega
def dn (ps : Array (Int × Tok)) (pos : Nat) : Array (Int × Tok) := if h : pos < ps.size / 2 then dn (sw ps (dnC ps pos) pos) (dnC ps pos) else up ps pos
termination_by ps.size - pos
decreasing_by
  have := dnC_lt h
  rw [sw_size]
  omega
theorem dn_perm (k : Nat) : ∀ (ps : Array (Int × Tok)) (pos : Nat), ps.size - pos = k → (dn ps pos).toList.Perm ps.toList := by
  induction k using Nat.strongRecOn with
  | ind k ih =>
    intro ps pos hk
    by_cases h : pos < ps.size / 2
    · have hc := dnC_lt h
      rw [dn, dif_pos h]
      exact (ih (ps.size - dnC ps pos) (by omega) (sw ps (dnC ps pos) pos) (dnC ps pos) (by rw [sw_size])).trans (sw_perm hc.1 (by omega))
    · rw [dn, dif_neg h]
      exact up_perm pos ps
theorem dn_heap (k : Nat) : ∀ (ps : Array (Int × Tok)) (pos : Nat), ps.size - pos = k → pos < ps.size → (∀ i, 0 < i → i < ps.size → i ≠ pos → (i - 1) / 2 ≠ pos → key ps ((i - 1) / 2) ≤ key ps i) →
    (0 < pos → ∀ i, i < ps.size → 0 < i → (i - 1) / 2 = pos → key ps ((pos - 1) / 2) ≤ key ps i) → IsHp (dn ps pos) := by
  induction k using Nat.strongRecOn with
  | ind k ih =>
    intro ps pos hk hp h1 h2
    by_cases h : pos < ps.size / 2
    · have hc := dnC_lt h
      have sm : ∀ i, i < ps.size → 0 < i → (i - 1) / 2 = pos → key ps (dnC ps pos) ≤ key ps i := fun i i1 i0 e => by
        have e2 : i = 2 * pos + 1 ∨ i = 2 * pos + 1 + 1 := by omega
        unfold dnC
        rcases e2 with rfl | rfl
        · split <;> omega
        · split
          · exact Int.le_refl _
          · rename_i g
            have g2 : key ps (2 * pos + 1) < key ps (2 * pos + 1 + 1) := Classical.byContradiction fun z => g ⟨i1, z⟩
            omega
      have pc : (dnC ps pos - 1) / 2 = pos := by
        unfold dnC
        split <;> omega
      rw [dn, dif_pos h]
      refine ih (ps.size - dnC ps pos) (by omega) (sw ps (dnC ps pos) pos) (dnC ps pos) (by rw [sw_size]) (by rw [sw_size]; exact hc.1) (fun i i0 i1 i2 i3 => ?_) (fun p0 i i1 i0 i2 => ?_)
      · rw [sw_size] at i1
        rw [sw_key hc.1 hp, sw_key hc.1 hp, if_neg i3, if_neg i2]
        by_cases e : i = pos
        · subst e
          rw [if_neg (by omega), if_pos rfl]
          exact h2 i0 _ hc.1 (by omega) pc
        · rw [if_neg e]
          by_cases e2 : (i - 1) / 2 = pos
          · rw [if_pos e2]
            exact sm i i1 i0 e2
          · rw [if_neg e2]
            exact h1 i i0 i1 e e2
      · rw [sw_size] at i1
        rw [sw_key hc.1 hp, sw_key hc.1 hp, pc, if_pos rfl, if_neg (by omega), if_neg (by omega)]
        have g := h1 i i0 i1 (by omega) (by omega)
        rw [i2] at g
        exact g
    · rw [dn, dif_neg h]
      exact up_heap pos ps hp (fun i i0 i1 i2 => h1 i i0 i1 i2 (by omega)) (fun p0 i i1 i0 i2 => by omega)
theorem sift_dn (l : Addr) (r : Value) (k : Nat) : ∀ (ps : Array (Int × Tok)) (pos : Nat) (n : Nat), ps.size - pos = k → pos < ps.size → ps.size ≤ 100001 →
    Meets (Builtin.«_heapq.heapify.sift» ⟨[.ref l, .bool false, .bool true, rawInt (pos : Nat), rawInt (0 : Nat), r, rawInt (-1)], []⟩) (upS l r ps (dn ps pos) n) := by
  induction k using Nat.strongRecOn with
  | ind k ih =>
    intro ps pos n hk hps hz prog w A R s h
    obtain ⟨hp, g, d, tk, os⟩ := s
    obtain ⟨hl, h⟩ := h
    have hz2 : (vals ps).size ≤ sizeLine := by rw [vals_size, sizeLine_eq]; omega
    wp_walk using wpAny_loadPart' hl
    by_cases hpos : pos < ps.size / 2
    · rw [if_pos (show ((pos : Nat) : Int).toNat < (vals ps).size / 2 by rw [Int.toNat_natCast, vals_size]; exact hpos)]
      simp only [Int.toNat_natCast]
      have hl2 : 2 * pos + 1 < ps.size := by omega
      wp_walk
      by_cases c1 : 2 * pos + 1 + 1 < ps.size
      · rw [if_pos (show 2 * pos + 1 + 1 < (vals ps).size by rw [vals_size]; exact c1)]
        wp_walk
        rw [vals_get hl2]
        wp_walk
        rw [vals_get c1]
        wp_walk using rc_lt, wpAny_loadPart' hl
        by_cases c2 : ¬ key ps (2 * pos + 1) < key ps (2 * pos + 1 + 1)
        · have c3 : (!decide ((ps[2 * pos + 1]).1 < (ps[2 * pos + 1 + 1]).1)) = true := by
            rw [key_get, key_get, decide_eq_false c2] <;> rfl
          rw [if_pos c3]
          have ec : dnC ps pos = 2 * pos + 1 + 1 := by
            unfold dnC
            rw [if_pos ⟨c1, c2⟩]
          have hc1 : 2 * pos + 1 + 1 < ps.size := by omega
          have g1 := PySem.IsL.update hl (fun xs => (xs.setIfInBounds (2 * pos + 1 + 1) (Value.int ps[pos].1 ps[pos].2)).setIfInBounds pos (Value.int (ps[2 * pos + 1 + 1]).1 (ps[2 * pos + 1 + 1]).2))
          rw [← sw_vals hc1 hps] at g1
          rw [dn, dif_pos hpos] at h
          have hz3 : (((vals ps).setIfInBounds (2 * pos + 1 + 1) (Value.int ps[pos].1 ps[pos].2)).setIfInBounds pos (Value.int (ps[2 * pos + 1 + 1]).1 (ps[2 * pos + 1 + 1]).2)).size ≤ sizeLine + 1 := by
            rw [Array.size_setIfInBounds, Array.size_setIfInBounds]
            omega
          wp_walk using wpAny_loadPart' hl
          rw [vals_get hc1]
          wp_walk
          rw [vals_get hps]
          wp_walk using (wpAny_updateSeq hl rfl (hz := hz2) (_hz' := hz3))
          refine ⟨plainId_quiet plain_sift _, codeAny_builtin entry_sift ?_⟩
          rw [Around.under_plainId plain_sift _]
          have key2 := fun n2 => ih (ps.size - dnC ps pos) (by have := dnC_lt hpos; omega) (sw ps (dnC ps pos) pos) (dnC ps pos) n2 (by rw [sw_size]) (by rw [sw_size]; exact (dnC_lt hpos).1) (by rw [sw_size]; exact hz) prog w A R
          rw [ec] at key2 h
          exact key2 _ _ ⟨g1, fun h' n' t' a1 a2 a3 => h h' n' t' a1 (fun b u hb hu => a2 b u hb ((Heap.get?_update_other hp _ (Ne.symm hb)).trans hu)) (a3.trans (by simp [Heap.update]))⟩
        · have c3 : ¬ (!decide ((ps[2 * pos + 1]).1 < (ps[2 * pos + 1 + 1]).1)) = true := by
            rw [key_get, key_get, decide_eq_true (Classical.not_not.mp c2)]
            decide
          rw [if_neg c3]
          have ec : dnC ps pos = 2 * pos + 1 := by
            unfold dnC
            rw [if_neg (fun z => z.2 (Classical.not_not.mp c2))]
          have hc1 : 2 * pos + 1 < ps.size := by omega
          have g1 := PySem.IsL.update hl (fun xs => (xs.setIfInBounds (2 * pos + 1) (Value.int ps[pos].1 ps[pos].2)).setIfInBounds pos (Value.int (ps[2 * pos + 1]).1 (ps[2 * pos + 1]).2))
          rw [← sw_vals hc1 hps] at g1
          rw [dn, dif_pos hpos] at h
          have hz3 : (((vals ps).setIfInBounds (2 * pos + 1) (Value.int ps[pos].1 ps[pos].2)).setIfInBounds pos (Value.int (ps[2 * pos + 1]).1 (ps[2 * pos + 1]).2)).size ≤ sizeLine + 1 := by
            rw [Array.size_setIfInBounds, Array.size_setIfInBounds]
            omega
          wp_walk using wpAny_loadPart' hl
          rw [vals_get hc1]
          wp_walk
          rw [vals_get hps]
          wp_walk using (wpAny_updateSeq hl rfl (hz := hz2) (_hz' := hz3))
          refine ⟨plainId_quiet plain_sift _, codeAny_builtin entry_sift ?_⟩
          rw [Around.under_plainId plain_sift _]
          have key2 := fun n2 => ih (ps.size - dnC ps pos) (by have := dnC_lt hpos; omega) (sw ps (dnC ps pos) pos) (dnC ps pos) n2 (by rw [sw_size]) (by rw [sw_size]; exact (dnC_lt hpos).1) (by rw [sw_size]; exact hz) prog w A R
          rw [ec] at key2 h
          exact key2 _ _ ⟨g1, fun h' n' t' a1 a2 a3 => h h' n' t' a1 (fun b u hb hu => a2 b u hb ((Heap.get?_update_other hp _ (Ne.symm hb)).trans hu)) (a3.trans (by simp [Heap.update]))⟩
      · rw [if_neg (show ¬ 2 * pos + 1 + 1 < (vals ps).size by rw [vals_size]; exact c1)]
        have ec : dnC ps pos = 2 * pos + 1 := by
          unfold dnC
          rw [if_neg (fun z => c1 z.1)]
        have hc1 : 2 * pos + 1 < ps.size := by omega
        have g1 := PySem.IsL.update hl (fun xs => (xs.setIfInBounds (2 * pos + 1) (Value.int ps[pos].1 ps[pos].2)).setIfInBounds pos (Value.int (ps[2 * pos + 1]).1 (ps[2 * pos + 1]).2))
        rw [← sw_vals hc1 hps] at g1
        rw [dn, dif_pos hpos] at h
        have hz3 : (((vals ps).setIfInBounds (2 * pos + 1) (Value.int ps[pos].1 ps[pos].2)).setIfInBounds pos (Value.int (ps[2 * pos + 1]).1 (ps[2 * pos + 1]).2)).size ≤ sizeLine + 1 := by
          rw [Array.size_setIfInBounds, Array.size_setIfInBounds]
          omega
        wp_walk using wpAny_loadPart' hl
        rw [vals_get hc1]
        wp_walk
        rw [vals_get hps]
        wp_walk using (wpAny_updateSeq hl rfl (hz := hz2) (_hz' := hz3))
        refine ⟨plainId_quiet plain_sift _, codeAny_builtin entry_sift ?_⟩
        rw [Around.under_plainId plain_sift _]
        have key2 := fun n2 => ih (ps.size - dnC ps pos) (by have := dnC_lt hpos; omega) (sw ps (dnC ps pos) pos) (dnC ps pos) n2 (by rw [sw_size]) (by rw [sw_size]; exact (dnC_lt hpos).1) (by rw [sw_size]; exact hz) prog w A R
        rw [ec] at key2 h
        exact key2 _ _ ⟨g1, fun h' n' t' a1 a2 a3 => h h' n' t' a1 (fun b u hb hu => a2 b u hb ((Heap.get?_update_other hp _ (Ne.symm hb)).trans hu)) (a3.trans (by simp [Heap.update]))⟩
    · rw [if_neg (show ¬ ((pos : Nat) : Int).toNat < (vals ps).size / 2 by rw [Int.toNat_natCast, vals_size]; exact hpos)]
      rw [dn, dif_neg hpos] at h
      wp_walk
      refine ⟨plainId_quiet plain_sift _, codeAny_builtin entry_sift ?_⟩
      rw [Around.under_plainId plain_sift _]
      exact sift_up l r pos ps n hps hz prog w A R _ ⟨hl, h⟩
end
section
open PySem.AutoSeq1 PySem.MeetsSeq
theorem pop_meets1 (l : Addr) (x : Int) (t : Tok) (n : Nat) : Meets (Builtin.«_heapq.heappop» ⟨[.ref l], []⟩) (upS l (.int x t) #[(x, t)] #[] n) := by
  intro prog w A R s h
  obtain ⟨hp, g, d, tk, os⟩ := s
  obtain ⟨hl, h⟩ := h
  have f2 := sub_tt
  have f3 := PySem.AutoSeq1.sub_list_list
  have f4 := PySem.AutoSeq1.sub_tuple_list
  have f5 := PySem.AutoSeq1.sub_list_tuple
  have eb : (vals #[(x, t)]).back? = some (.int x t) := by
    unfold vals
    simp
  have g1 := PySem.IsL.update hl (fun xs => xs.pop)
  have hz2 : (vals #[(x, t)]).size ≤ sizeLine := by rw [vals_size, sizeLine_eq]; simp
  have hz3 : ((vals #[(x, t)]).pop).size ≤ sizeLine + 1 := by rw [Array.size_pop, vals_size, sizeLine_eq]; simp
  have ep : (vals #[(x, t)]).pop = vals #[] := by
    unfold vals
    simp
  rw [ep] at g1
  wp_walk using wpAny_loadPart' hl
  rw [eb]
  wp_walk using (wpAny_updateSeq hl rfl (hz := hz2) (_hz' := hz3)), wpAny_loadPart' hl
  rw [if_pos (show ((vals #[(x, t)]).size == 1) = true by rw [vals_size]; rfl)]
  wp_walk
  exact h _ _ _ g1 (fun b u hb hu => (Heap.get?_update_other hp _ (Ne.symm hb)).trans hu) (by simp [Heap.update])
theorem pop_meets (l : Addr) (x y : Int) (t u : Tok) (ps : Array (Int × Tok)) (n : Nat) (hz : ps.size ≤ 100000) :
    Meets (Builtin.«_heapq.heappop» ⟨[.ref l], []⟩) (upS l (.int x t) (#[(x, t)] ++ ps ++ #[(y, u)]) (dn (#[(y, u)] ++ ps) 0) n) := by
  intro prog w A R s h
  obtain ⟨hp, g, d, tk, os⟩ := s
  obtain ⟨hl, h⟩ := h
  have f2 := sub_tt
  have f3 := PySem.AutoSeq1.sub_list_list
  have f4 := PySem.AutoSeq1.sub_tuple_list
  have f5 := PySem.AutoSeq1.sub_list_tuple
  have eb : (vals (#[(x, t)] ++ ps ++ #[(y, u)])).back? = some (.int y u) := by
    unfold vals
    simp
  have e0 : (vals (#[(x, t)] ++ ps ++ #[(y, u)]))[0]? = some (.int x t) := by
    unfold vals
    rw [Array.map_append, Array.map_append, Array.append_assoc, Array.getElem?_append_left (by simp)]
    simp
  have ep : (vals (#[(x, t)] ++ ps ++ #[(y, u)])).pop = vals (#[(x, t)] ++ ps) := by
    unfold vals
    simp
  have es : (vals (#[(x, t)] ++ ps)).setIfInBounds 0 (.int y u) = vals (#[(y, u)] ++ ps) := by
    unfold vals
    apply Array.ext'
    simp [Array.toList_setIfInBounds]
  have sz : (vals (#[(x, t)] ++ ps ++ #[(y, u)])).size = ps.size + 2 := by
    rw [vals_size]
    simp
    omega
  have sz2 : (vals (#[(x, t)] ++ ps)).size = ps.size + 1 := by
    rw [vals_size]
    simp
    omega
  have sz3 : (vals (#[(y, u)] ++ ps)).size = ps.size + 1 := by
    rw [vals_size]
    simp
    omega
  have g1 := PySem.IsL.update hl (fun xs => xs.pop)
  rw [ep] at g1
  have g2 := PySem.IsL.update g1 (fun xs => xs.setIfInBounds 0 (.int y u))
  rw [es] at g2
  have hz2 : (vals (#[(x, t)] ++ ps ++ #[(y, u)])).size ≤ sizeLine := by rw [sz, sizeLine_eq]; omega
  have hz3 : ((vals (#[(x, t)] ++ ps ++ #[(y, u)])).pop).size ≤ sizeLine + 1 := by rw [ep, sz2, sizeLine_eq]; omega
  have hz4 : (vals (#[(x, t)] ++ ps)).size ≤ sizeLine := by rw [sz2, sizeLine_eq]; omega
  have hz5 : ((vals (#[(x, t)] ++ ps)).setIfInBounds 0 (.int y u)).size ≤ sizeLine + 1 := by rw [es, sz3, sizeLine_eq]; omega
  have ne1 : ((vals (#[(x, t)] ++ ps ++ #[(y, u)])).size == 1) = false := by
    rw [sz]
    simp
  wp_walk using wpAny_loadPart' hl
  rw [eb]
  wp_walk using (wpAny_updateSeq hl rfl (hz := hz2) (_hz' := hz3)), wpAny_loadPart' hl
  rw [ne1]
  rw [if_neg (by decide)]
  wp_walk
  rw [e0]
  wp_walk using (wpAny_updateSeq g1 rfl (hz := hz4) (_hz' := hz5)), wpAny_loadPart' hl
  refine ⟨plainId_quiet plain_sift _, codeAny_builtin entry_sift ?_⟩
  rw [Around.under_plainId plain_sift _]
  exact sift_dn l (.int x t) ((#[(y, u)] ++ ps).size - 0) (#[(y, u)] ++ ps) 0 _ rfl (by simp; omega) (by simp; omega) prog w A R _
    ⟨g2, fun h' n' t' a1 a2 a3 => h h' n' t' a1 (fun b v hb hv => a2 b v hb ((Heap.get?_update_other _ _ (Ne.symm hb)).trans ((Heap.get?_update_other hp _ (Ne.symm hb)).trans hv))) (a3.trans (by simp [Heap.update]))⟩
end
/-- a heap, as a list of ints -/
def HpL (xs : List Int) : Prop := ∀ i, 0 < i → i < xs.length → xs.getD ((i - 1) / 2) 0 ≤ xs.getD i 0
theorem HpL.nil : HpL [] := fun i _ h => absurd h (by simp)
theorem key_getD {ps : Array (Int × Tok)} {xs : List Int} (h : ps.toList.map (·.1) = xs) (i : Nat) : key ps i = xs.getD i 0 := by
  subst h
  unfold key
  by_cases e : i < ps.size
  · rw [getD_get e]
    simp [List.getD_eq_getElem?_getD, e]
  · simp [Array.getD_eq_getD_getElem?, List.getD_eq_getElem?_getD, e]
theorem hpL_iff {ps : Array (Int × Tok)} {xs : List Int} (h : ps.toList.map (·.1) = xs) : IsHp ps ↔ HpL xs := by
  have sz : xs.length = ps.size := by
    rw [← h]
    simp
  unfold IsHp HpL
  rw [sz]
  constructor
  · intro q i i0 i1
    have := q i i0 i1
    rwa [key_getD h, key_getD h] at this
  · intro q i i0 i1
    have := q i i0 i1
    rwa [key_getD h, key_getD h]
theorem HpL.least : ∀ {xs : List Int}, HpL xs → ∀ (i : Nat), i < xs.length → xs.getD 0 0 ≤ xs.getD i 0 := by
  intro xs h i
  induction i using Nat.strongRecOn with
  | ind i ih =>
    intro hi
    by_cases e : i = 0
    · rw [e]
      exact Int.le_refl _
    · have a := ih ((i - 1) / 2) (by omega) (by omega)
      have b := h i (by omega) hi
      omega
theorem HpL.head {x : Int} {xs : List Int} (h : HpL (x :: xs)) : ∀ y ∈ xs, x ≤ y := by
  intro y hy
  obtain ⟨i, hi⟩ := List.mem_iff_getElem?.mp hy
  have := h.least (i + 1) (by have := (List.getElem?_eq_some_iff.mp hi).1; simp; omega)
  simpa [List.getD_eq_getElem?_getD, hi] using this
/-- a list of ints as it stands on the heap -/
theorem ints_arr : ∀ {its : List Value} {ns : List Int}, Vals (ns.map V.int) its → ∃ ps : List (Int × Tok), its = (ps.map fun p => Value.int p.1 p.2) ∧ ps.map (·.1) = ns
  | [], [], _ => ⟨[], rfl, rfl⟩
  | u :: us, n :: ns, h => by
    cases h with
    | cons a b =>
      obtain ⟨t, rfl⟩ := a
      obtain ⟨ps, e1, e2⟩ := ints_arr b
      exact ⟨(n, t) :: ps, by rw [e1]; rfl, by simp [e2]⟩
  | [], n :: ns, h => by cases h
  | u :: us, [], h => by cases h
theorem arr_ints {ps : List (Int × Tok)} : Vals ((ps.map (·.1)).map V.int) (ps.map fun p => Value.int p.1 p.2) := by
  induction ps with
  | nil => exact .nil
  | cons p ps ih => exact .cons ⟨p.2, rfl⟩ ih
def rPush : List V → Hp → VK → Prop := fun vs H Q => ∃ (l : Addr) (x : Int) (xs : List Int), vs = [.ref l, .int x] ∧ H l = some (.lst (xs.map V.int)) ∧ xs.length ≤ 100000 ∧
  ∀ ys : List Int, ys.Perm (x :: xs) → (HpL xs → HpL ys) → Q .non (upd H l (.lst (ys.map V.int)))
def rPopH : List V → Hp → VK → Prop := fun vs H Q => ∃ (l : Addr) (x : Int) (xs : List Int), vs = [.ref l] ∧ H l = some (.lst ((x :: xs).map V.int)) ∧ xs.length ≤ 100000 ∧
  ∀ ys : List Int, ys.Perm xs → (HpL (x :: xs) → HpL ys) → Q (.int x) (upd H l (.lst (ys.map V.int)))
theorem kind_push : builtinKind "_heapq.heappush" = none := by decide +kernel
theorem plain_push : plainId "_heapq.heappush" = true := by decide +kernel
theorem entry_push : entryFor table "_heapq.heappush" = some Builtin.«_heapq.heappush» := entryFor_of_fast (by kernel_rfl)
theorem kind_popH : builtinKind "_heapq.heappop" = none := by decide +kernel
theorem plain_popH : plainId "_heapq.heappop" = true := by decide +kernel
theorem entry_popH : entryFor table "_heapq.heappop" = some Builtin.«_heapq.heappop» := entryFor_of_fast (by kernel_rfl)
theorem args_push (a b : Value) : argsOk "_heapq.heappush" ⟨[a, b], []⟩ := by
  unfold argsOk
  first | rfl | kernel_rfl
theorem args_popH (a : Value) : argsOk "_heapq.heappop" ⟨[a], []⟩ := by
  unfold argsOk
  first | rfl | kernel_rfl
section
variable {X : Cx}
theorem inv_frame {pins : List (Addr × Obj)} {σ : L2.St} {H : Hp} {s : Shared} {l : Addr} {xs : List V} {ys : List Int} {qs : Array (Int × Tok)} {h' : Heap} {n' t' : Nat} (I : Inv X pins σ H s) (hH : H l = some (.lst xs))
    (a1 : h'.get? l = some { cls := .type "list", dict := none, data := .seq (vals qs) n', slots := #[] }) (a2 : ∀ b u, b ≠ l → s.heap.get? b = some u → h'.get? b = some u) (e : qs.toList.map (·.1) = ys) (hz : ys.length ≤ sizeLine) :
    Inv X pins σ (upd H l (.lst (ys.map V.int))) { s with heap := h', toks := t' } := by
  refine I.write (x := l) (e := l) (by rw [hH]; exact trivial) (.inl rfl) a2 ⟨_, a1⟩ ?_
  refine ⟨by rw [List.length_map]; exact hz, qs.toList.map fun p => Value.int p.1 p.2, n', ?_, ?_⟩
  · subst e
    exact arr_ints
  · rw [a1]
    have : (qs.toList.map fun p => Value.int p.1 p.2).toArray = vals qs := by
      unfold vals
      apply Array.ext'
      simp
    rw [this]
theorem call_push : CallR X (.builtin "_heapq.heappush") rPush := by
  intro pins s σ H vs us Q I r h
  obtain ⟨l, x, xs, rfl, hH, hz, q⟩ := h
  obtain ⟨u1, u2, rfl, r1, r2⟩ := vals2 r
  cases r1
  obtain ⟨t, rfl⟩ := r2
  obtain ⟨z, its, n, rv, hl, e⟩ := I.lstM hH
  obtain ⟨ps, e1, e2⟩ := ints_arr rv
  subst e1
  have ev : (ps.map fun p => Value.int p.1 p.2).toArray = vals ps.toArray := by
    unfold vals
    simp
  rw [ev] at e
  have sz : ps.toArray.size = xs.length := by
    rw [← e2]
    simp
  refine call_function_meets kind_push plain_push entry_push (args_push _ _) (push_meets l x t ps.toArray n (by omega)) ⟨e, fun h' n' t' a1 a2 a3 => ?_⟩
  have hp := up_perm ps.toArray.size (ps.toArray.push (x, t))
  have hp2 : ((up (ps.toArray.push (x, t)) ps.toArray.size).toList.map (·.1)).Perm (x :: xs) := by
    refine (hp.map (·.1)).trans ?_
    rw [Array.toList_push, List.map_append, e2]
    exact List.perm_append_comm
  refine ⟨.non, _, inv_frame I hH a1 a2 rfl ?_, rfl, q _ hp2 fun h => ?_⟩
  · rw [hp2.length_eq, List.length_cons, sizeLine_eq]
    omega
  · refine (hpL_iff rfl).mp (up_heap _ _ (by rw [Array.size_push]; omega) (fun i i0 i1 i2 => ?_) (fun p0 i i1 i0 i2 => ?_))
    · rw [Array.size_push] at i1
      have ps2 : (ps.toArray.push (x, t)).toList.map (·.1) = xs ++ [x] := by
        rw [Array.toList_push, List.map_append, e2]
        rfl
      rw [key_getD ps2, key_getD ps2]
      have := h i i0 (by omega)
      have a1 : (xs ++ [x]).getD ((i - 1) / 2) 0 = xs.getD ((i - 1) / 2) 0 := by
        rw [List.getD_eq_getElem?_getD, List.getElem?_append_left (by omega), List.getD_eq_getElem?_getD]
      have a2 : (xs ++ [x]).getD i 0 = xs.getD i 0 := by
        rw [List.getD_eq_getElem?_getD, List.getElem?_append_left (by omega), List.getD_eq_getElem?_getD]
      rw [a1, a2]
      exact this
    · rw [Array.size_push] at i1
      omega
theorem call_popH : CallR X (.builtin "_heapq.heappop") rPopH := by
  intro pins s σ H vs us Q I r h
  obtain ⟨l, x, xs, rfl, hH, hz, q⟩ := h
  have er := Vals.ref1 r
  subst er
  obtain ⟨z, its, n, rv, hl, e⟩ := I.lstM hH
  obtain ⟨ps, e1, e2⟩ := ints_arr rv
  subst e1
  have ev : (ps.map fun p => Value.int p.1 p.2).toArray = vals ps.toArray := by
    unfold vals
    simp
  rw [ev] at e
  rcases List.eq_nil_or_concat xs with hx | ⟨zs, y, hx⟩
  · subst hx
    match ps, e2 with
    | [(x', t)], e2 =>
      have : x' = x := by simpa using e2
      subst this
      refine call_function_meets kind_popH plain_popH entry_popH (args_popH _) (pop_meets1 l x' t n) ⟨e, fun h' n' t' a1 a2 a3 => ?_⟩
      exact ⟨.int x', _, inv_frame I hH a1 a2 (ys := []) rfl (Nat.zero_le _), ⟨_, rfl⟩, q [] (List.Perm.refl _) fun _ => HpL.nil⟩
  · rw [List.concat_eq_append] at hx
    subst hx
    have : ∃ t qs u, ps = (x, t) :: qs ++ [(y, u)] ∧ qs.map (·.1) = zs := by
      match ps, e2 with
      | (x', t) :: ps', e2 =>
        rw [List.map_cons, List.cons.injEq] at e2
        obtain ⟨e3, e4⟩ := e2
        rcases List.eq_nil_or_concat ps' with h | ⟨qs, w, h⟩
        · subst h
          simp at e4
        · rw [List.concat_eq_append] at h
          subst h
          rw [List.map_append] at e4
          have h1 := List.append_inj' e4 (by simp)
          have h2 : w.1 = y := by simpa using h1.2
          subst e3
          subst h2
          exact ⟨t, qs, w.2, rfl, h1.1⟩
    obtain ⟨t, qs, u, rfl, eq⟩ := this
    have ea : ((x, t) :: qs ++ [(y, u)]).toArray = #[(x, t)] ++ qs.toArray ++ #[(y, u)] := by
      apply Array.ext'
      simp
    rw [ea] at e
    have sq : qs.toArray.size = zs.length := by
      rw [← eq]
      simp
    rw [List.length_append] at hz
    have hz1 : zs.length + 1 ≤ 100000 := hz
    refine call_function_meets kind_popH plain_popH entry_popH (args_popH _) (pop_meets l x y t u qs.toArray n (by omega)) ⟨e, fun h' n' t' a1 a2 a3 => ?_⟩
    have hp := dn_perm _ (#[(y, u)] ++ qs.toArray) 0 rfl
    have hp2 : ((dn (#[(y, u)] ++ qs.toArray) 0).toList.map (·.1)).Perm (zs ++ [y]) := by
      refine (hp.map (·.1)).trans ?_
      rw [Array.toList_append, List.map_append, List.toList_toArray, eq]
      exact List.perm_append_comm
    refine ⟨.int x, _, inv_frame I hH a1 a2 rfl ?_, ⟨_, rfl⟩, q _ hp2 fun h => ?_⟩
    · rw [hp2.length_eq, List.length_append, sizeLine_eq]
      show zs.length + 1 ≤ _
      omega
    · have ps2 : (#[(y, u)] ++ qs.toArray).toList.map (·.1) = y :: zs := by
        simp [eq]
      have sz2 : (#[(y, u)] ++ qs.toArray).size = zs.length + 1 := by
        simp
        rw [← eq]
        simp
      refine (hpL_iff rfl).mp (dn_heap _ _ 0 rfl (by omega) (fun i i0 i1 i2 i3 => ?_) (fun p0 => absurd p0 (by omega)))
      rw [key_getD ps2, key_getD ps2]
      rw [sz2] at i1
      have g : ∀ j, 0 < j → j < zs.length + 1 → (y :: zs).getD j 0 = (x :: (zs ++ [y])).getD j 0 := fun j j0 j1 => by
        obtain ⟨k, rfl⟩ : ∃ k, j = k + 1 := ⟨j - 1, by omega⟩
        rw [List.getD_cons_succ, List.getD_cons_succ, List.getD_eq_getElem?_getD, List.getD_eq_getElem?_getD, List.getElem?_append_left (by omega)]
      rw [g _ (by omega) (by omega), g _ i0 i1]
      exact h i i0 (by simp; omega)
end

/-! ### xs[:] = ys, sorted of a dict, d.get(k) -/
theorem PE.by {X : Cx} {e : Expr} {t t' : TE} (h : PE X e t) (w : ∀ σ H Q, t' σ H Q → t σ H Q) : PE X e t' := ⟨fun pins s σ H Q I q => h.run pins s σ H Q I (w σ H Q q)⟩
section
variable {pg : Program} {wd : World} {Ar : Around} {Er : Value → Shared → Prop} {sh : Shared}
/-- where a whole list is replaced: from its beginning to its end, by ones -/
theorem whole_bounds {k : Nat} : sliceBounds none none none k = ((0 : Int), (k : Int), 1) := by simp [sliceBounds]
theorem set_whole {p q c : Addr} {old fresh : Array Value} {e1 e2 : Nat} {u v : Value} {R : Unit → Shared → Prop}
    (hp : sh.heap.get? p = some { cls := .type "list", data := .seq old e1 }) (hq : sh.heap.get? q = some { cls := .type "list", data := .seq fresh e2 }) (pq : p ≠ q)
    (hc : sh.heap.IsSliceOf c u v .none) (hu : IsPart u none) (hv : IsPart v none) (fits : old.size + fresh.size ≤ sizeLine)
    (k : R () { sh with heap := sh.heap.update p (Obj.mapSeq fun xs => xs.extract 0 0 ++ fresh ++ xs.extract old.size xs.size) }) : wpAny (model pg wd) Ar (setItem (.ref p) (.ref c) (.ref q)) R Er sh := by
  have lp := PySem.IsL.isList hp
  have lq := PySem.IsL.isList hq
  obtain ⟨oc, gc, cc, dc⟩ := id hc
  have tc : sh.TypeIs (.ref c) "slice" := ⟨oc, gc, cc⟩
  have other : Builtin.List.listSameRef (.ref p) (.ref q) = false := by unfold Builtin.List.listSameRef; exact beq_eq_false_iff_ne.mpr pq
  have upTo : (max ((0 : Nat) : Int) (old.size : Int)).toNat = old.size := by omega
  have grows : ((fun xs : Array Value => xs.extract 0 0 ++ fresh ++ xs.extract old.size xs.size) old).size ≤ sizeLine + 1 := by simp only [Array.size_append, Array.size_extract]; omega
  unfold setItem
  with_reducible refine wpAny_holding (wpAny_bind (wpAny_sequenceKey lp.typeIs (by decide) (wpAny_bind (wpAny_callSpecial?_slot (name := Str.ofString "__setitem__") lp.typeIs slot_list_setitem (wpAny_call_entry slot_list_setitem lp.typeIs entry_list_setitem ?_ (args_list_setitem _ _ _))))))
  show wpAny _ _ (Builtin.List.listSubscript? (.ref c) >>= _) _ _ sh; refine wpAny_bind ?_
  unfold Builtin.List.listSubscript?; refine wpAny_bind (wpAny_specialOf tc slice_no_index ?_)
  simp only [Option.isNone_none, if_true]; refine wpAny_pure ?_
  show wpAny _ _ (typeOf (.ref c) >>= _) _ _ sh; refine wpAny_bind (wpAny_typeOf tc (PySem.W.KFB.if_not (by decide) ?_))
  rw [listSliceParts_eq]; refine wpAny_bind (wpAny_bind (wpAny_field gc dc (x := .none) rfl (wpAny_bind (wpAny_listPart .none ?_)))); rw [if_neg (show ¬ (rawPart none == rawInt 0) = true from Bool.false_ne_true)]
  refine wpAny_bind (wpAny_field gc dc (x := u) rfl (wpAny_bind (wpAny_listPart hu (wpAny_bind (wpAny_field gc dc (x := v) rfl (wpAny_bind (wpAny_listPart hv (wpAny_pure ?_))))))))
  refine PySem.W.KFB.if_not other (wpAny_bind (m := Builtin.List.listAllItems (.ref q) _) ?_)
  unfold Builtin.List.listAllItems; refine wpAny_bind (wpAny_typeOf lq.typeIs (PySem.W.KFB.if_so (by decide) ?_))
  unfold Builtin.List.listItems; refine wpAny_bind (wpAny_seqItems hq rfl (wpAny_pure (wpAny_bind (wpAny_bind (wpAny_seqItems hp rfl (wpAny_pure ?_))))))
  refine wpAny_bind (wpAny_of_eq ((sliceIndices_raw none none none old.size (by simp)).trans (congrArg (pure : Int × Int × Int → Sem (Int × Int × Int)) whole_bounds)) ?_)
  show wpAny _ _ (if ((1 : Int) == 1) = true then _ else _) _ _ sh; rw [if_pos (by decide)]
  refine wpAny_bind (wpAny_rule (PySem.W.KFB.if_not (notLongL fits) ?_))
  first | refine wpAny_bind (wpAny_pure ?_) | (skip; skip)
  show wpAny _ _ (updateSeq p (fun xs => xs.extract 0 (((0 : Nat) : Int)).toNat ++ fresh ++ xs.extract (max ((0 : Nat) : Int) (old.size : Int)).toNat xs.size) >>= _) _ _ sh; rw [upTo, Int.toNat_natCast]
  refine wpAny_bind (wpAny_updateSeq (hz := Nat.le_trans (Nat.le_add_right _ _) fits) (_hz' := grows) hp rfl (wpAny_bind (wpAny_letGo ?_)))
  first | exact wpAny_bind (wpAny_pure (wpAny_pure ⟨.none, rfl, wpAny_pure k⟩)) | exact wpAny_pure ⟨.none, rfl, wpAny_pure k⟩
end
def gAll (to : TE) : TG := fun v σ H Q => to σ H fun x H1 => ∃ l b, x = .ref l ∧ v = .ref b ∧ l ≠ b ∧ lstAt H1 l fun xs => lstAt H1 b fun ys => xs.length + ys.length ≤ sizeLine ∧ Q σ (upd H1 l (.lst ys))
section
variable {X : Cx}
theorem pg_all {o : Expr} {to : TE} {p2 pos : Pos} (ho : PE X o to)
    (shape : ∀ v, assign (.Subscript o (.Slice none none none p2) pos) X.env v = (do let ov ← holding [v] (eval o X.env); let iv ← holding [v, ov] (eval (.Slice none none none p2) X.env); standAt pos; holding [v, ov, iv] (setItem ov iv v); release [iv, v, ov] []) := by intro _; rfl) : PG X (.Subscript o (.Slice none none none p2) pos) (gAll to) := by
  refine ⟨fun pins sh σ H v u Q inv rel ask => ?_⟩
  rw [shape]; refine wpAny_bind (wpAny_holding (thn (ho.run pins sh σ H _ inv ask) fun ov s1 hh => ?_))
  obtain ⟨x, H1, I1, r1, l, b, rfl, rfl, hne, q1⟩ := hh
  obtain ⟨xs, hx, q1⟩ := lstAt_get q1
  obtain ⟨ys, hy, hz, q1⟩ := lstAt_get q1
  cases r1
  cases rel
  refine wpAny_bind (wpAny_holding (wpAny_Slice ?_)); rw [evalPart_none]
  refine wpAny_pure (wpAny_pure (wpAny_pure ?_))
  have I4 : Inv X pins σ H1 { s1 with heap := s1.heap.push { cls := .type "slice", data := .fields #[.none, .none, .none] } } := I1.kept (t' := s1.toks) fun b ob q => Heap.get?_push_of_some _ q
  obtain ⟨_, its, n, rv, hl, e⟩ := I4.lstM hx
  obtain ⟨z2, its2, n2, r2, hl2, e2⟩ := I4.lstM hy
  refine wpAny_bind (wpAny_standAt (wpAny_bind (wpAny_holding (set_whole e e2 hne (Heap.IsSliceOf.new ..) .none .none (by rw [List.size_toArray, List.size_toArray]; omega) ?_))))
  refine wpAny_release ⟨σ, _, I4.lset (its' := its2) (t' := s1.toks) hx e ?_ r2 z2, q1⟩
  apply Array.ext'; simp
/-- sorted(d), d a dict of int keys, of any length -/
def rSortD : List V → Hp → VK → Prop := fun xs H Q => ∃ (a : Addr), xs = [.ref a] ∧ dcAt H a fun kvs => ∃ (ks : List Int), kvs.map (·.1) = ks.map Sum.inl ∧
    ∀ (ys : List Int) (p : Addr), ys.Perm ks → ys.Pairwise (· ≤ ·) → H p = none → Q (.ref p) (upd H p (.lst (ys.map V.int)))
theorem keys_ints {acc : Array Value} {vs : List (Key × Value)} {ks : List Int} (hk : vs.map (·.1) = ks.map Sum.inl) (sz : acc.size = vs.length) (each : ∀ (j : Nat) (u : Value), acc[j]? = some u → ∃ (k : Key) (x : _), vs[j]? = some (k, x) ∧ keyIs k u = true) : IntsAre acc.toList ks := by
  have lens : vs.length = ks.length := by simpa using congrArg List.length hk
  refine ints_each (by rw [Array.length_toList, sz, lens]) fun j u hu => ?_
  obtain ⟨k, x, here, is⟩ := each j u (by rw [← Array.getElem?_toList]; exact hu)
  have at_j : (ks.map Sum.inl)[j]? = some k := by rw [← hk, List.getElem?_map, here]; rfl
  rw [List.getElem?_map] at at_j
  obtain ⟨y, hy, same⟩ := Option.map_eq_some_iff.mp at_j
  subst same
  rcases keyIs_shape is with ⟨i, t, c, d⟩ | ⟨z, t, c, d⟩ <;> cases c
  exact ⟨_, t, hy, d⟩
theorem call_sortD (calm : X.calm = true) : CallR X (.builtin "sorted") rSortD := by
  intro pins sh σ H xs us Q inv rel ask
  obtain ⟨a, rfl, ask⟩ := ask
  obtain ⟨kvs, here, ks, hks, ask⟩ := dcAt_get ask
  obtain ⟨u, rfl, ra⟩ := vals1 rel
  cases ra
  obtain ⟨small, lo, vs, kv, dd⟩ := dk_rd inv.hok (.inl here)
  obtain ⟨ep, hat⟩ := dd.dictAt
  have vk : vs.map (·.1) = ks.map Sum.inl := kv.keys.symm.trans hks
  have l1 : vs.length = ks.length := by simpa using congrArg List.length vk
  have l2 : kvs.length = ks.length := by simpa using congrArg List.length hks
  refine Calls.call_function_entry kind_sorted plain_sorted entry_sorted (args_sorted1 (.ref a)) ?_
  unfold Builtin.«sorted»; refine wpAny_bind (m := checkCount "sorted" 1 1 _) (wpAny_pure (wpAny_bind ?_))
  refine PySem.W.kdu_collect (A := X.A.in1) (PySem.W.kdl_dict (knd := mixKind X.prog X.w) (kvs := vs) (ep := ep) lo) (inv.ok.hd calm) hat (by omega) fun h' tk acc kept got => ?_
  have nums := keys_ints vk got.1 got.2
  have fits : acc.toList.length ≤ sizeLine := by rw [Array.length_toList, got.1]; omega
  have I1 : Inv X pins σ H { sh with heap := h', toks := tk } := inv.kept kept
  refine wpAny_bind (wpAny_newList (wpAny_bind (wpAny_holding ?_)) fits)
  have new : (h'.push (seqObj "list" acc.toList.toArray 0)).get? h'.objs.size = some (seqObj "list" acc.toList.toArray 0) := Heap.get?_push_size _ rfl
  refine wpAny_call_entry (s := { sh with heap := h'.push (seqObj "list" acc.toList.toArray 0), toks := tk }) slot_list_sort ⟨_, new, rfl⟩ entry_list_sort (SrtO.list_sort_ord SrtO.swo_int new fits (fun two => SrtO.ints_sortable nums two) fun out o1 o2 => ⟨_, rfl, ?_⟩) (args_list_sort _)
  obtain ⟨k1, k2, k3⟩ := SrtO.ints_out nums o1 o2
  obtain ⟨e', he'⟩ := sortedHeap_at (vs := acc.toList) (out := out.toArray) new
  refine wpAny_pure ⟨_, rfl, .ref h'.objs.size, upd H h'.objs.size (.lst ((out.map SrtO.iv).map V.int)), I1.laid (t' := tk) (fun b u e => ?_) (Nat.le_refl _) ⟨by rw [List.length_map, k2.length_eq, ← l2]; exact small, out, e', vals_of_ints k1, he'⟩, rfl, ask _ _ k2 k3 (I1.hok.fresh (Nat.le_refl _))⟩
  have lt : b < h'.objs.size := Heap.lt_size e
  rw [sortedHeap_old (Nat.ne_of_lt lt) (by rw [size_push']; exact Nat.lt_succ_of_lt lt)]; exact Heap.get?_push_of_some _ e
/-- d.get(k) -/
def tDGetM (td ty : TE) : TE := fun σ H Q => td σ H fun x H1 => ∃ a, x = .ref a ∧ (dcAt H1 a fun _ => True) ∧ ty σ H1 fun y H2 => ∃ k, keyOf y = some k ∧ dcAt H2 a fun kvs => Q ((valV kvs k).getD .non) H2
theorem pe_dgetM {o e : Expr} {apos cpos : Pos} {td ty : TE} (hu : X.A.units + 1 < cLine) (ho : PE X o td) (he : PE X e ty) (m : M1 X o "get" apos e cpos) : PE X (.Call (.Attribute o "get" apos) [e] [] cpos) (tDGetM td ty) := by
  refine ⟨fun pins sh σ H Q inv ask => wpAny_Call_method m.base m.few m.line PySem.F.plainAttrs_dict PySem.F.slot_dict_get PySem.F.type_dict_get (thn (ho.run pins sh σ H _ inv ask) fun u s1 hh => ?_)⟩
  obtain ⟨x, H1, I1, rx, a, rfl, d, q1⟩ := hh
  cases rx
  obtain ⟨kvs0, hd0, _⟩ := dcAt_get d
  obtain ⟨t1, t2, _⟩ := isD_at I1 (.inl ⟨kvs0, .inl hd0⟩)
  refine ⟨t1, t2, ?_⟩; rw [m.trees]
  refine Calls.callWith_builtin rfl (Calls.evalArgs_plain (Calls.spliced_cons (thn (he.run pins s1 σ H1 _ I1 q1) fun iv s2 hh => Calls.spliced_nil ?_)))
  obtain ⟨y, H2, I2, ry, k, hk, q2⟩ := hh
  obtain ⟨kvs, hd, q3⟩ := dcAt_get q2
  obtain rfl := keyOf_kV hk
  exact d_get1 hu I2 (.k hd) ry fun w' s3 I3 rw' => ⟨_, H2, I3, rw', q3⟩
end
/-- o.m() that may raise -/
def tMethE0 (C : Addr) (m : Str) (sp : Sp) (E : L2.St → XK) (ta : TE) : TE := fun σ H Q => ta σ H fun x H1 => ∃ a dx fs, x = .ref a ∧ H1 a = some (.ins C dx fs) ∧ fs.lookup m = none ∧ sp [x] H1 Q (E σ)
theorem pe_methE0 {X : Cx} {CX : CXT} {k : Nat} {C f : Addr} {fd : FuncData} {ps : List Str} {m : Str} {sp : Sp} {E : L2.St → XK} {o : Expr} {ta : TE} {apos pos : Pos} {pl : Sem Bool} (he : PE X o ta) (c : Cls X.K C) (hm : Meth X.K C m f)
    (F : FnOk X.prog X.w X.K X.mg X.base CX k f fd ps sp) (hr : Room k X.A) (hb : Binds X.K fd ps []) (hx : ∀ σ, PassesAt CX X σ (E σ))
    (ht : eval (.Call (.Attribute o m apos) [] [] pos) X.env = (do let ov ← eval o X.env; standAt apos.atName; let (f, first) ← holding [ov] (getMethod ov m pl); callWith pos f first (backTo pos (starEach [] X.env)) (backToKw pos (keywordEach [] X.env))) := by rfl) :
    PE X (.Call (.Attribute o m apos) [] [] pos) (tMethE0 C m sp E ta) := by
  refine ⟨fun pins sh σ H Q inv ask => PySem.W.methodCall_KW (pl := pl) (thn (he.run pins sh σ H _ inv ask) fun u1 s1 hh => ?_) ht⟩
  obtain ⟨x, H1, I1, rx, a, dx, fs, rfl, ea, l, q⟩ := hh
  cases rx
  exact getmeth_ok I1 ea c hm l (PySem.W.callWith_K0 (first := [.ref a]) I1.kIn hm.kp (run_fnS (us := [.ref a]) (vs := [.ref a]) F hr hb (hx σ) I1 (.cons rfl .nil) q))

/-! ### comprehensions and loops, whose parts leave the heap as it is -/
inductive LcR (b : Nat → Bool) (Y : Nat → V → Prop) : Nat → List V → Prop
  | nil : LcR b Y 0 []
  | yes {i ys y} : LcR b Y i ys → b i = true → Y i y → LcR b Y (i + 1) (ys ++ [y])
  | no {i ys} : LcR b Y i ys → b i = false → LcR b Y (i + 1) ys
theorem LcR.len {b Y n ys} (h : LcR b Y n ys) : ys.length ≤ n := by
  induction h with
  | nil => exact Nat.le_refl _
  | yes h _ _ ih =>
    rw [List.length_append]
    show _ + 1 ≤ _
    omega
  | no h _ ih => omega
theorem LcR.map {b : Nat → Bool} {f : Nat → V} {n ys} (h : LcR b (fun i y => y = f i) n ys) : ys = ((List.range n).filter b).map f := by
  induction h with
  | nil => rfl
  | yes h hb hy ih =>
    rw [List.range_succ, List.filter_append, List.map_append, ← ih, List.filter_cons, if_pos hb, hy]
    rfl
  | no h hb ih =>
    rw [List.range_succ, List.filter_append, List.map_append, ← ih, List.filter_cons, if_neg (by rw [hb]; decide)]
    simp
theorem LcR.all {Y : Nat → V → Prop} {n ys} (h : LcR (fun _ => true) Y n ys) : ys.length = n ∧ ∀ i y, ys[i]? = some y → Y i y := by
  generalize hb : (fun _ : Nat => true) = b at h
  induction h with
  | nil => exact ⟨rfl, fun i y h => by simp at h⟩
  | @yes i ys y h _ hy ih =>
    obtain ⟨e, g⟩ := ih
    refine ⟨by rw [List.length_append, e]; rfl, fun j z hz => ?_⟩
    by_cases c : j < ys.length
    · rw [List.getElem?_append_left c] at hz
      exact g j z hz
    · rw [List.getElem?_append_right (by omega)] at hz
      have : j - ys.length = 0 := by
        have := (List.getElem?_eq_some_iff.mp hz).1
        simp at this
        omega
      rw [this] at hz
      have e2 : y = z := by simpa using hz
      have e3 : j = i := by omega
      rw [e3, ← e2]
      exact hy
  | no h hb2 ih =>
    subst hb
    cases hb2
/-- all values are ints -/
theorem LcR.ints {P : Nat → Int → Prop} {b n ys} (h : LcR b (fun i y => ∃ z, y = .int z ∧ P i z) n ys) : ∃ zs : List Int, ys = zs.map V.int := by
  induction h with
  | nil => exact ⟨[], rfl⟩
  | yes h _ hy ih =>
    obtain ⟨zs, e⟩ := ih
    obtain ⟨z, e2, _⟩ := hy
    exact ⟨zs ++ [z], by rw [e, e2, List.map_append]; rfl⟩
  | no h _ ih => exact ih
theorem lc_rngI {ta : TA} {tt : TT} {te : TE} {c : Nat} {σ : L2.St} {H : Hp} {Q : VK} (n : Nat) (b : Nat → Bool) (Y : Nat → V → Prop) (hta : ∀ R : List V → Hp → Prop, R [.int (n : Int)] H → ta σ H R) (hn : n ≤ 100000)
    (hb : ∀ i H' (R : Bool → Hp → Prop), i < n → Same H H' → R (b i) H' → tt ((σ.set c none).set c (some (.int (i : Int)))) H' R) (he : ∀ i H' (R : VK), i < n → b i = true → Same H H' → (∀ y, Y i y → R y H') → te ((σ.set c none).set c (some (.int (i : Int)))) H' R)
    (k : ∀ D ys, H D = none → LcR b Y n ys → Q (.ref D) (upd H D (.lst ys))) : tLc (iRng1 ta) (gName c) tt te [c] σ H Q := by
  refine hta _ ⟨n, rfl, by omega, by omega, fun D hD => ?_⟩
  rw [Int.toNat_natCast]
  refine lc_range (fun i H' => ∃ ys, LcR b Y i ys ∧ H' = upd H D (.lst ys)) ⟨[], .nil, rfl⟩ ?_ ?_
  · rintro i H' hi ⟨ys, hr, rfl⟩
    rw [Int.zero_add]
    have sm : Same H (upd H D (.lst ys)) := same_new hD
    have szl : (100000 : Nat) < sizeLine := by decide
    have hl := hr.len
    refine ⟨?_, hb i _ _ hi sm ?_⟩
    · show List.set (List.set (List.set σ c none) c _) c none = List.set σ c none
      rw [List.set_set, List.set_set]
    · by_cases hc : b i = true
      · rw [if_pos hc]
        refine he i _ _ hi hc sm fun y hy => ⟨ys, upd_same, by omega, ys ++ [y], hr.yes hc hy, by rw [upd_upd]⟩
      · rw [if_neg hc]
        exact ⟨ys, hr.no (by simpa using hc), rfl⟩
  · rintro H' ⟨ys, hr, rfl⟩
    exact k D ys hD hr
theorem lc_lstI {K : PySem.W.Frag} {tl : TE} {tt : TT} {te : TE} {c : Nat} {σ : L2.St} {H : Hp} {Q : VK} {a : Addr} (xs : List V) (b : Nat → Bool) (Y : Nat → V → Prop) (htl : ∀ R : V → Hp → Prop, R (.ref a) H → tl σ H R) (ha : SqL K H a xs) (hn : xs.length ≤ 100000)
    (hb : ∀ i x H' (R : Bool → Hp → Prop), xs[i]? = some x → Same H H' → R (b i) H' → tt ((σ.set c none).set c (some x)) H' R) (he : ∀ i x H' (R : VK), xs[i]? = some x → b i = true → Same H H' → (∀ y, Y i y → R y H') → te ((σ.set c none).set c (some x)) H' R)
    (k : ∀ D ys, H D = none → LcR b Y xs.length ys → Q (.ref D) (upd H D (.lst ys))) : tLc (iList K tl) (gName c) tt te [c] σ H Q := by
  refine htl _ ⟨a, rfl, ⟨_, ha⟩, fun D hD => lc_list (K := K) (a := a) (xs := xs) (fun i H' => ∃ ys, LcR b Y i ys ∧ H' = upd H D (.lst ys)) ⟨[], .nil, rfl⟩ ?_ ?_ ?_⟩
  · rintro i H' _ ⟨ys, hr, rfl⟩
    exact (same_new hD).seq ha
  · rintro i x H' hx ⟨ys, hr, rfl⟩
    have sm : Same H (upd H D (.lst ys)) := same_new hD
    have szl : (100000 : Nat) < sizeLine := by decide
    have hl := hr.len
    have hi := (List.getElem?_eq_some_iff.mp hx).1
    refine ⟨?_, hb i x _ _ hx sm ?_⟩
    · show List.set (List.set (List.set σ c none) c _) c none = List.set σ c none
      rw [List.set_set, List.set_set]
    · by_cases hc : b i = true
      · rw [if_pos hc]
        refine he i x _ _ hx hc sm fun y hy => ⟨ys, upd_same, by omega, ys ++ [y], hr.yes hc hy, by rw [upd_upd]⟩
      · rw [if_neg hc]
        exact ⟨ys, hr.no (by simpa using hc), rfl⟩
  · rintro H' ⟨ys, hr, rfl⟩
    exact k D ys hD hr
/-- for x in reversed(xs) -/
theorem for_revL {K : PySem.W.Frag} {ta : TA} {g : TG} {tb : TS} {D : Ends} {σ : L2.St} {H H0 : Hp} {a : Addr} (xs : List V) (hta : ∀ R : List V → Hp → Prop, R [.ref a] H0 → ta σ H R) (Pv : Nat → L2.St → Hp → Prop) (hp : Pv 0 σ H0) (hl : ∀ i σ H, i ≤ xs.length → Pv i σ H → SqL K H a xs)
    (hs : ∀ i x σ H, i < xs.length → xs[xs.length - 1 - i]? = some x → Pv i σ H → g x σ H fun σ2 H2 => tb { D with nx := Pv (i + 1), ct := Pv (i + 1), bk := D.nx } σ2 H2) (hd : ∀ σ H, Pv xs.length σ H → D.nx σ H) : tFor (iRev K ta) g tb D σ H := by
  refine hta _ ⟨a, xs, rfl, hl 0 σ H0 (Nat.zero_le _) hp, fun i m σ H => m = xs.length - i ∧ i ≤ xs.length ∧ Pv i σ H, ⟨xs.length, by simp, Nat.zero_le _, hp⟩, ?_⟩
  rintro i m σ H ⟨rfl, hi, p⟩
  have q := hl i σ H hi p
  by_cases hlt : i < xs.length
  · have hx : xs[xs.length - 1 - i]? = some (xs[xs.length - 1 - i]'(by omega)) := List.getElem?_eq_getElem (by omega)
    refine .inr ⟨⟨hlt, xs, _, q, hx⟩, Pv (i + 1), fun σ' H' p' => ⟨xs.length - (i + 1), by omega, rfl, hlt, p'⟩, fun x H' y => ?_⟩
    obtain ⟨e, y⟩ := y
    subst e
    exact hs i x σ _ hlt (y xs q) p
  · have e : i = xs.length := by omega
    subst e
    exact .inl ⟨Nat.le_refl _, hd σ H p⟩
/-- list(xs), sorted(xs), sum(xs) of a tracked list -/
def rListM : List V → Hp → VK → Prop := fun vs H Q => ∃ p, vs = [.ref p] ∧ lstAt H p fun xs => ∀ l, H l = none → Q (.ref l) (upd H l (.lst xs))
def rSortM : List V → Hp → VK → Prop := fun vs H Q => ∃ p, vs = [.ref p] ∧ lstAt H p fun xs => ∃ ns : List Int, xs = ns.map V.int ∧ ∀ (ys : List Int) (q : Addr), ys.Perm ns → ys.Pairwise (· ≤ ·) → H q = none → Q (.ref q) (upd H q (.lst (ys.map V.int)))
section
variable {X : Cx}
theorem call_listM : CallR X (.type "list") rListM := by
  intro pins s σ H xs us Q I r h
  obtain ⟨p, e, h⟩ := h
  obtain ⟨ys, hp, q⟩ := lstAt_get h
  exact call_list_of pins s σ H xs us Q I r ⟨p, ys, e, .inl (.inl (.inl hp)), q⟩
theorem cr_sortM : CallR X (.builtin "sorted") rSortM := by
  intro pins s σ H xs us Q I r h
  obtain ⟨p, e, h⟩ := h
  obtain ⟨ys, hp, ns, e2, q⟩ := lstAt_get h
  subst e2
  exact cr_sortedI pins s σ H xs us Q I r ⟨p, ns, e, .inl (.inl hp), q⟩
end
/-- two ascending lists of the same ints are one -/
theorem sorted_eq : ∀ {xs ys : List Int}, xs.Perm ys → xs.Pairwise (· ≤ ·) → ys.Pairwise (· ≤ ·) → xs = ys
  | [], ys, h, _, _ => h.nil_eq
  | x :: xs, [], h, _, _ => by simpa using h.length_eq
  | x :: xs, y :: ys, h, hx, hy => by
    have e : x = y := by
      have h1 : x ∈ y :: ys := h.mem_iff.mp (List.mem_cons_self ..)
      have h2 : y ∈ x :: xs := h.mem_iff.mpr (List.mem_cons_self ..)
      have p1 := List.pairwise_cons.mp hx
      have p2 := List.pairwise_cons.mp hy
      rcases List.mem_cons.mp h1 with e | h1
      · exact e
      · rcases List.mem_cons.mp h2 with e | h2
        · exact e.symm
        · have a := p1.1 y h2
          have b := p2.1 x h1
          omega
    subst e
    rw [sorted_eq (List.Perm.cons_inv h) (List.pairwise_cons.mp hx).2 (List.pairwise_cons.mp hy).2]
theorem flat_ints (xs : List Int) : (xs.map V.int).all flatV = true := by
  rw [List.all_eq_true]
  intro x hx
  obtain ⟨n, _, rfl⟩ := List.mem_map.mp hx
  rfl
theorem inV_int {x : Int} {xs : List Int} : inV (.int x) (xs.map V.int) = decide (x ∈ xs) := by
  unfold inV
  induction xs with
  | nil => simp
  | cons y ys ih =>
    rw [List.map_cons, List.any_cons, ih]
    show (decide (y = x) || decide (x ∈ ys)) = _
    by_cases h : x = y
    · subst h
      simp
    · have h2 : ¬ y = x := fun e => h e.symm
      simp [h, h2]
def rSumM : List V → Hp → VK → Prop := fun vs H Q => ∃ p, vs = [.ref p] ∧ lstAt H p fun xs => ∃ ns : List Int, xs = ns.map V.int ∧ Q (.int ns.sum) H
theorem call_sumM {X : Cx} (hc : X.calm = true) : CallR X (.builtin "sum") rSumM := by
  intro pins sh σ H xs us Q inv rel ask
  obtain ⟨p, e, ask⟩ := ask
  obtain ⟨ys, hp, ns, e2, q⟩ := lstAt_get ask
  subst e2
  exact cr_sum hc pins sh σ H xs us Q inv rel ⟨p, ns, e, .inl (.inl hp), q⟩
/-- isinstance(x, dict), x a tracked dict -/
def rIsD : List V → Hp → VK → Prop := fun xs H Q => ∃ p, xs = [.ref p, .ty "dict"] ∧ dcAt H p fun _ => Q (.bl true) H
theorem call_isD {X : Cx} : CallR X (.builtin "isinstance") rIsD := by
  intro pins sh σ H xs us Q inv rel ask
  obtain ⟨p, rfl, ask⟩ := ask
  obtain ⟨kvs, hp, q⟩ := dcAt_get ask
  exact call_isi pins sh σ H _ us Q inv rel ⟨.ref p, .ty "dict", .type "dict", .type "dict", true, rfl, .ty "dict", .base (.dK hp), kit_ty rfl, q⟩
theorem lc_keysI {td : TE} {tt : TT} {te : TE} {c : Nat} {σ : L2.St} {H : Hp} {Q : VK} {d : Addr} {od : Obj} (kvs : List (Key × V)) (b : Nat → Bool) (Y : Nat → V → Prop) (htd : ∀ R : V → Hp → Prop, R (.ref d) H → td σ H R) (hd : H d = some (.frz od (.dK kvs))) (hn : kvs.length ≤ 100000)
    (hb : ∀ i k v H' (R : Bool → Hp → Prop), kvs[i]? = some (k, v) → Same H H' → R (b i) H' → tt ((σ.set c none).set c (some (kV k))) H' R) (he : ∀ i k v H' (R : VK), kvs[i]? = some (k, v) → b i = true → Same H H' → (∀ y, Y i y → R y H') → te ((σ.set c none).set c (some (kV k))) H' R)
    (k : ∀ D ys, H D = none → LcR b Y kvs.length ys → Q (.ref D) (upd H D (.lst ys))) : tLc (iKeys td) (gName c) tt te [c] σ H Q := by
  refine htd _ ⟨d, od, rfl, .inl ⟨kvs, hd, fun D hD => ?_⟩⟩
  have sm : ∀ ys, Same H (upd H D (.lst ys)) := fun ys => same_new hD
  refine ⟨fun i m H' => m = kvs.length - i ∧ i ≤ kvs.length ∧ ∃ ys, LcR b Y i ys ∧ H' = upd H D (.lst ys), ⟨_, rfl, Nat.zero_le _, [], .nil, rfl⟩, ?_⟩
  rintro i m H' ⟨rfl, hi, ys, hr, rfl⟩
  have hd' := sm ys _ _ hd
  by_cases hlt : i < kvs.length
  · refine .inr ⟨⟨hd', hlt⟩, fun H2 => ∃ ys, LcR b Y (i + 1) ys ∧ H2 = upd H D (.lst ys), fun H2 h2 => ⟨kvs.length - (i + 1), by omega, rfl, hlt, h2⟩, fun x H2 hy => ?_⟩
    obtain ⟨rfl, key, v, hkv, rfl⟩ := hy
    have szl : (100000 : Nat) < sizeLine := by decide
    have hl := hr.len
    refine ⟨?_, hb i key v _ _ hkv (sm ys) ?_⟩
    · show List.set (List.set (List.set σ c none) c _) c none = List.set σ c none
      rw [List.set_set, List.set_set]
    · by_cases hc : b i = true
      · rw [if_pos hc]
        refine he i key v _ _ hkv hc (sm ys) fun y hy => ⟨ys, upd_same, by omega, ys ++ [y], hr.yes hc hy, by rw [upd_upd]⟩
      · rw [if_neg hc]
        exact ⟨ys, hr.no (by simpa using hc), rfl⟩
  · have e : i = kvs.length := by omega
    subst e
    exact .inl ⟨⟨hd', Nat.le_refl _⟩, k D ys hD hr⟩
theorem lc_rng2I {ta : TA} {tt : TT} {te : TE} {c : Nat} {σ : L2.St} {H : Hp} {Q : VK} (lo hi : Int) (b : Nat → Bool) (Y : Nat → V → Prop) (hta : ∀ R : List V → Hp → Prop, R [.int lo, .int hi] H → ta σ H R) (h1 : -1000000 ≤ lo ∧ lo ≤ 1000000) (h2 : -1000000 ≤ hi ∧ hi ≤ 1000000) (hn : hi - lo ≤ 100000)
    (hb : ∀ (i : Nat) H' (R : Bool → Hp → Prop), lo + (i : Int) < hi → Same H H' → R (b i) H' → tt ((σ.set c none).set c (some (.int (lo + (i : Int))))) H' R) (he : ∀ (i : Nat) H' (R : VK), lo + (i : Int) < hi → b i = true → Same H H' → (∀ y, Y i y → R y H') → te ((σ.set c none).set c (some (.int (lo + (i : Int))))) H' R)
    (k : ∀ D ys, H D = none → LcR b Y (hi - lo).toNat ys → Q (.ref D) (upd H D (.lst ys))) : tLc (iRng2 ta) (gName c) tt te [c] σ H Q := by
  refine hta _ ⟨lo, hi, rfl, ⟨by omega, by omega, by omega, by omega⟩, fun D hD => ?_⟩
  refine lc_range (fun i H' => ∃ ys, LcR b Y i ys ∧ H' = upd H D (.lst ys)) ⟨[], .nil, rfl⟩ ?_ ?_
  · rintro i H' hi2 ⟨ys, hr, rfl⟩
    have sm : Same H (upd H D (.lst ys)) := same_new hD
    have szl : (100000 : Nat) < sizeLine := by decide
    have hl := hr.len
    refine ⟨?_, hb i _ _ (by omega) sm ?_⟩
    · show List.set (List.set (List.set σ c none) c _) c none = List.set σ c none
      rw [List.set_set, List.set_set]
    · by_cases hc : b i = true
      · rw [if_pos hc]
        refine he i _ _ (by omega) hc sm fun y hy => ⟨ys, upd_same, by omega, ys ++ [y], hr.yes hc hy, by rw [upd_upd]⟩
      · rw [if_neg hc]
        exact ⟨ys, hr.no (by simpa using hc), rfl⟩
  · rintro H' ⟨ys, hr, rfl⟩
    exact k D ys hD hr
theorem lc_lstN {K : PySem.W.Frag} {tl : TE} {tt : TT} {te : TE} {c : Nat} {σ : L2.St} {H : Hp} {Q : VK} (xs : List V) (b : Nat → Bool) (Y : Nat → V → Prop) (htl : ∀ R : V → Hp → Prop, (∀ p H0, Same H H0 → SqL K H0 p xs → R (.ref p) H0) → tl σ H R) (hn : xs.length ≤ 100000)
    (hb : ∀ i x H' (R : Bool → Hp → Prop), xs[i]? = some x → Same H H' → R (b i) H' → tt ((σ.set c none).set c (some x)) H' R) (he : ∀ i x H' (R : VK), xs[i]? = some x → b i = true → Same H H' → (∀ y, Y i y → R y H') → te ((σ.set c none).set c (some x)) H' R)
    (k : ∀ H0 D ys, Same H H0 → H0 D = none → LcR b Y xs.length ys → Q (.ref D) (upd H0 D (.lst ys))) : tLc (iList K tl) (gName c) tt te [c] σ H Q :=
  htl _ fun p H0 sm0 hq => lc_lstI (K := K) (tl := fun _ H Q => Q (.ref p) H) (a := p) xs b Y (fun R h => h) hq hn (fun i x H' R hx sm h => hb i x H' R hx (fun b u e => sm _ _ (sm0 _ _ e)) h) (fun i x H' R hx ht sm h => he i x H' R hx ht (fun b u e => sm _ _ (sm0 _ _ e)) h) (fun D ys hD hy => k H0 D ys sm0 hD hy)
theorem range_all {α : Type} (g : α → V) (bs : List α) : (List.range bs.length).map (fun i => (bs[i]?.map g).getD .non) = bs.map g := by
  apply List.ext_getElem
  · simp
  · intro i h1 h2
    simp at h1
    simp [h1]

/-! ### a dict copied by a comprehension over its items -/
theorem valV_take {kvs : List (Key × V)} (nd : (kvs.map (·.1)).Nodup) {i : Nat} {k : Key} {v : V} (h : kvs[i]? = some (k, v)) : valV (kvs.take i) k = none := by
  unfold valV
  rw [Option.map_eq_none_iff, List.find?_eq_none]
  intro p hp
  rw [decide_eq_true_eq]
  intro e
  obtain ⟨j, hj⟩ := List.mem_iff_getElem?.mp hp
  have jl := (List.getElem?_eq_some_iff.mp hj).1
  rw [List.length_take] at jl
  rw [List.getElem?_take, if_pos (by omega)] at hj
  have a1 : (kvs.map (·.1))[j]? = some k := by rw [List.getElem?_map, hj, ← e]; rfl
  have a2 : (kvs.map (·.1))[i]? = some k := by rw [List.getElem?_map, h]; rfl
  obtain ⟨l1, g1⟩ := List.getElem?_eq_some_iff.mp a1
  obtain ⟨l2, g2⟩ := List.getElem?_eq_some_iff.mp a2
  have := (List.getElem_inj nd).mp (g1.trans g2.symm)
  omega
theorem dc_items {K : PySem.W.Frag} {td : TE} {c1 c2 : Nat} {σ : L2.St} {H : Hp} {Q : VK} {d : Addr} (kvs : List (Key × V)) (htd : ∀ od (R : V → Hp → Prop), R (.ref d) (upd H d (.frz od (.dK kvs))) → td σ (upd H d (.frz od (.dK kvs))) R)
    (hd : H d = some (.dK kvs)) (nd : (kvs.map (·.1)).Nodup) (hn : kvs.length ≤ 100000) (h1 : c1 < σ.length) (h2 : c2 < σ.length) (ne : c1 ≠ c2)
    (k : ∀ D H', Same H H' → H D = none → H' D = some (.dK kvs) → Q (.ref D) H') :
    tLockE (tDc (iItems td) (gTup K 2 (gCons (gName c1) (gCons (gName c2) gNil))) tYes (tVar c1) (tVar c2) [c1, c2]) σ H Q := by
  refine ⟨d, .dK kvs, hd, trivial, fun od => ?_⟩
  refine htd od _ ⟨d, od, kvs, rfl, upd_same, fun D hD => ?_⟩
  have dD : D ≠ d := fun e => by
    rw [e, upd_same] at hD
    cases hD
  have hD0 : H D = none := by
    rw [upd_ne dD] at hD
    exact hD
  have szl : (100000 : Nat) < sizeLine := by decide
  refine ⟨fun i m H' => m = kvs.length - i ∧ i ≤ kvs.length ∧ H' d = some (.frz od (.dK kvs)) ∧ H' D = some (.dK (kvs.take i)) ∧ ∀ b u, H b = some u → b ≠ d → H' b = some u, ⟨_, rfl, Nat.zero_le _, by rw [upd_ne (Ne.symm dD), upd_same], by rw [upd_same]; rfl, fun b u hb hbd => ?_⟩, ?_⟩
  · have : b ≠ D := fun e => by
      rw [e, hD0] at hb
      cases hb
    rw [upd_ne this, upd_ne hbd]
    exact hb
  rintro i m H' ⟨rfl, hi, e1, e2, sm⟩
  by_cases hlt : i < kvs.length
  · refine .inr ⟨⟨e1, hlt⟩, fun H2 => H2 d = some (.frz od (.dK kvs)) ∧ H2 D = some (.dK (kvs.take (i + 1))) ∧ ∀ b u, H b = some u → b ≠ d → H2 b = some u, fun H2 h => ⟨kvs.length - (i + 1), by omega, rfl, hlt, h⟩, fun x H2 hy => ?_⟩
    obtain ⟨T, key, v, hkv, rfl, hT, rfl⟩ := hy
    have nT : ∀ b u, H' b = some u → b ≠ T := fun b u hb e => by
      rw [e, hT] at hb
      cases hb
    have w1 : c1 < (wipe σ [c1, c2]).length := by rw [wipe_length]; exact h1
    have w2 : c2 < (wipe σ [c1, c2]).length := by rw [wipe_length]; exact h2
    refine ⟨T, [kV key, v], rfl, .inl (.inl upd_same), rfl, _, _, rfl, ?_⟩
    refine ⟨_, _, rfl, rfl, ?_, ?_⟩
    · show (((((σ.set c2 none).set c1 none).set c1 (some (kV key))).set c2 (some v)).set c2 none).set c1 none = (σ.set c2 none).set c1 none
      apply List.ext_getElem?
      intro j
      simp only [List.getElem?_set, List.length_set]
      repeat' split
      all_goals first | rfl | simp_all
    · simp only [tYes, if_true]
      refine ⟨kV key, ?_, v, ?_, kvs.take i, key, rfl, ?_, ?_, ?_, ?_, ?_⟩
      · rw [List.getElem?_set_ne (Ne.symm ne), List.getElem?_set_self w1]
      · rw [List.getElem?_set_self (by rw [List.length_set]; exact w2)]
      · rw [upd_ne (nT _ _ e2)]
        exact e2
      · have := List.length_take_le i kvs
        rw [List.length_take]
        omega
      · rw [upd_ne (Ne.symm dD), upd_ne (nT _ _ e1)]
        exact e1
      · rw [upd_same, putK_new _ (valV_take nd hkv), List.take_add_one, hkv]
        rfl
      · intro b u hb hbd
        have : b ≠ D := fun e => by
          rw [e, hD0] at hb
          cases hb
        rw [upd_ne this, upd_ne (nT _ _ (sm b u hb hbd))]
        exact sm b u hb hbd
  · have e : i = kvs.length := by omega
    subst e
    refine .inl ⟨⟨e1, Nat.le_refl _⟩, e1, k D _ (fun b u hb => ?_) hD0 ?_⟩
    · by_cases c : b = d
      · subst c
        rw [upd_same, ← hd, hb]
      · rw [upd_ne c]
        exact sm b u hb c
    · rw [upd_ne dD, e2, List.take_length]

/-! ### name = {..} by a dict comprehension -/
section
variable {X : Cx}
theorem sw_trueD {kx vx : Expr} {gs : List Comprehension} {scope : Scope} {pos py : Pos} {y : Str} {l : Nat} {env : Env} (hk : env.scope.kind = .function) (hy : env.scope.names.lookup y = some .local) (hl : (py.line == pos.line) = true)
    (ha : (scope.names.any fun (n, k) => n == y && (k == .local || k == .cell)) = false) : swapsWith (.DictComp kx vx gs scope pos) (some (.Name y py)) l env = pure true := by
  have ky : env.kindOf y = some .local := hy
  have hb : env.blockKind = .function := by unfold Env.blockKind; rw [hk]; rfl
  unfold swapsWith
  simp only [hb, ky, ha, Expr.pos, hl]
  rfl
theorem ps_setDc {i : Nat} {y : Str} {py : Pos} {kx vx tg iter : Expr} {ifs : List Expr} {scope : Scope} {own : List (Str × Nat)} {pos spos : Pos} {wi : TI} {g : TG} {tt : TT} {tk tv : TE} (hc : X.calm = true) (hN : X.N.Nodup) (hy : X.N[i]? = some y) (hyl : X.env.scope.names.lookup y = some .local)
    (hsw : swapsWith (.DictComp kx vx [⟨tg, iter, ifs, 0⟩] scope pos) (some (.Name y py)) spos.line X.env = pure true) (hi : PI X tg iter wi) (ok : BlkOk X.N X.env.scope scope own)
    (hg : ∀ (s : Shared) (H : Hp) (C : Addr) (cl : List (Str × Addr)) (fp : List Addr), PG (X.blk s H scope (compEnvC scope cl C X.env) fp) tg g) (ht : ∀ (s : Shared) (H : Hp) (C : Addr) (cl : List (Str × Addr)) (fp : List Addr), PTs (X.blk s H scope (compEnvC scope cl C X.env) fp) ifs tt)
    (hk : ∀ (s : Shared) (H : Hp) (C : Addr) (cl : List (Str × Addr)) (fp : List Addr), PE (X.blk s H scope (compEnvC scope cl C X.env) fp) kx tk)
    (he : ∀ (s : Shared) (H : Hp) (C : Addr) (cl : List (Str × Addr)) (fp : List Addr), PE (X.blk s H scope (compEnvC scope cl C X.env) fp) vx tv) (hs : ∀ x, foldedSetIterable iter X.env x = pure x := by intro _; rfl) :
    PS X (.Assign [.Name y py] (.DictComp kx vx [⟨tg, iter, ifs, 0⟩] scope pos) spos) (tAsg (tDc wi g tt tk tv (own.map (·.2))) (gName i)) := by
  refine ⟨fun pins s σ H D I h => ?_⟩
  rw [exec_Assign_Name_used _ _ _ _ hsw]
  refine wpAny_bind (wpAny_standAt (wpAny_bind ?_))
  show wpAny _ X.A (do let _ ← comprehension (.DictComp kx vx [⟨tg, iter, ifs, 0⟩] scope pos) scope X.env (firstIterPos [⟨tg, iter, ifs, 0⟩] pos) newDict false (eval iter X.env) (some (assign (.Name y py) X.env))) _ _ s
  have h : tDc wi g tt tk tv (own.map (·.2)) σ H (fun x H1 => gName i x σ H1 D.nx) := h
  refine wpAny_bind (thn (dc_core (Qf := fun _ s' => SP X pins D .next s') hc hN I hi ok hg ht hk he hs h fun L C s' m H' I' q hn f => ?_) fun _ s' hq => wpAny_pure (wpAny_pure hq))
  show wpAny _ _ (assign (.Name y py) X.env (.ref L)) _ _ _
  refine wpAny_assign_Name (store_ok2 (v := V.ref L) I' hN hy (.inl hyl) rfl (fun s2 I2 ⟨a, sb, ha⟩ => ?_) (.inr hyl))
  obtain ⟨f0, f1, f2, f3, f4, f5⟩ := f
  have haC : C ≠ a := by
    rcases ha with z | z
    · rw [z]; exact f1
    · exact fun e => f4 y a z e.symm
  refine ⟨m, hn.sameBut sb haC, fun h3 sb3 => ?_⟩
  exact ⟨_, H', I2.turned (t' := s2.toks) (fun b o hb e => (sb3.2 b hb).trans e) f0 f1 f3 f4 f5, q⟩
end
/-- the whole statement, the dict that is walked being locked -/
theorem t_lock_set {te : TE} {i : Nat} {D : Ends} {σ : L2.St} {H : Hp} (h : tLockE te σ H fun x H1 => D.nx (σ.set i (some x)) H1) : tLock (tAsg te (gName i)) D σ H := h
/-- a loop over a list that is made for it, of which something is known -/
theorem for_lstP {K : PySem.W.Frag} {tl : TE} {g : TG} {tb : TS} {D : Ends} {σ : L2.St} {H : Hp} (P : List V → Prop) (htl : ∀ R : V → Hp → Prop, (∀ p xs, P xs → H p = none → R (.ref p) (upd H p (.lst xs))) → tl σ H R) (Pv : Addr → List V → Nat → L2.St → Hp → Prop)
    (hp : ∀ p xs, P xs → H p = none → Pv p xs 0 σ (upd H p (.lst xs))) (hl : ∀ p xs i σ' H', H p = none → Pv p xs i σ' H' → H' p = some (.lst xs))
    (hs : ∀ p xs i x σ' H', P xs → H p = none → xs[i]? = some x → Pv p xs i σ' H' → g x σ' H' fun σ2 H2 => tb { D with nx := Pv p xs (i + 1), ct := Pv p xs (i + 1), bk := D.nx } σ2 H2) (hd : ∀ p xs σ' H', P xs → H p = none → Pv p xs xs.length σ' H' → D.nx σ' H') : tFor (iList K tl) g tb D σ H :=
  htl _ fun p xs hx h0 => ⟨p, rfl, ⟨xs, .inl (.inl upd_same)⟩, L2.for_list (K := K) (a := p) (xs := xs) (Pv p xs) (hp p xs hx h0) (fun i σ' H' _ h => .inl (.inl (hl p xs i σ' H' h0 h))) (fun i x σ' H' hx2 h => hs p xs i x σ' H' hx h0 hx2 h) (fun σ' H' h => hd p xs σ' H' hx h0 h)⟩
/-- a dict that is walked, or handed on, is locked from then on, if it is not yet -/
def tFrz (td : TE) : TE := fun σ H Q => td σ H fun x H1 => ∃ d, x = .ref d ∧ ((∃ u, H1 d = some u ∧ Mut (some u) ∧ ∀ od, Q x (upd H1 d (.frz od u))) ∨ Q x H1)
theorem pe_frz {X : Cx} {e : Expr} {td : TE} (h : PE X e td) : PE X e (tFrz td) := by
  refine ⟨fun pins s σ H Q I hw => ?_⟩
  refine thn (h.run pins s σ H _ I hw) fun v s1 ⟨x, H1, I1, r, d, ex, hh⟩ => ?_
  rcases hh with ⟨u, hd, mu, q⟩ | q
  · obtain ⟨od, I2⟩ := I1.lock hd mu
    exact ⟨x, _, I2, r, q od⟩
  · exact ⟨x, _, I1, r, q⟩
/-- for k in d: d a dict with int keys, which stays locked -/
theorem for_keysF {td : TE} {c : Nat} {tb : TS} {D : Ends} {σ : L2.St} {H : Hp} {d : Addr} {od : Obj} (kvs : List (Key × V)) (hd : H d = some (.frz od (.dK kvs))) (htd : ∀ (R : V → Hp → Prop), R (.ref d) H → td σ H R) (Pv : Nat → L2.St → Hp → Prop)
    (hp : Pv 0 σ H) (hl : ∀ i σ' H', Pv i σ' H' → H' d = some (.frz od (.dK kvs)))
    (hs : ∀ i k v σ' H', kvs[i]? = some (k, v) → Pv i σ' H' → tb { D with nx := Pv (i + 1), ct := Pv (i + 1), bk := D.nx } (σ'.set c (some (kV k))) H')
    (hx : ∀ σ' H', Pv kvs.length σ' H' → D.nx σ' H') : tFor (iKeys td) (gName c) tb D σ H := by
  refine htd _ ⟨d, od, rfl, .inl ⟨kvs, hd, ?_⟩⟩
  refine ⟨fun i m σ' H' => m = kvs.length - i ∧ i ≤ kvs.length ∧ Pv i σ' H', ⟨_, rfl, Nat.zero_le _, hp⟩, ?_⟩
  rintro i m σ' H' ⟨rfl, hi, p⟩
  have hd' := hl i σ' H' p
  by_cases hlt : i < kvs.length
  · refine .inr ⟨⟨hd', hlt⟩, Pv (i + 1), fun σ2 H2 q => ⟨kvs.length - (i + 1), by omega, rfl, hlt, q⟩, fun x H2 hy => ?_⟩
    obtain ⟨rfl, key, v, hkv, rfl⟩ := hy
    exact hs i key v σ' _ hkv p
  · have e : i = kvs.length := by omega
    subst e
    exact .inl ⟨⟨hd', Nat.le_refl _⟩, hx σ' H' p⟩

structure Ad where
  C_SaggarError : Addr
  C_Oversized : Addr
  C_Unknown : Addr
  C_Twice : Addr
  C_Fixed : Addr
  C_Draft : Addr
  C_Scope : Addr
  C_Coder : Addr
  f_Oversized___init__ : Addr
  d_Oversized___init__ : FuncData
  f_Unknown___init__ : Addr
  d_Unknown___init__ : FuncData
  f_Twice___init__ : Addr
  d_Twice___init__ : FuncData
  f_Fixed___init__ : Addr
  d_Fixed___init__ : FuncData
  f_change_of : Addr
  d_change_of : FuncData
  f_places_behind : Addr
  d_places_behind : FuncData
  f_heights_from : Addr
  d_heights_from : FuncData
  f_greatest_heights : Addr
  d_greatest_heights : FuncData
  f_Draft___init__ : Addr
  d_Draft___init__ : FuncData
  f_compile_method : Addr
  d_compile_method : FuncData
  f_measured : Addr
  d_measured : FuncData
  f_declared : Addr
  d_declared : FuncData
  f_carried_out : Addr
  d_carried_out : FuncData
  f_returns : Addr
  d_returns : FuncData
  f_is_plain_block : Addr
  d_is_plain_block : FuncData
  f_Scope___init__ : Addr
  d_Scope___init__ : FuncData
  f_Coder___init__ : Addr
  d_Coder___init__ : FuncData
  f_Coder_emit : Addr
  d_Coder_emit : FuncData
  f_Coder_land : Addr
  d_Coder_land : FuncData
  f_Coder_literal : Addr
  d_Coder_literal : FuncData
  f_Coder_method : Addr
  d_Coder_method : FuncData
  f_Coder_body : Addr
  d_Coder_body : FuncData
  f_Coder_statement : Addr
  d_Coder_statement : FuncData
  f_Coder_expression : Addr
  d_Coder_expression : FuncData
  f_Coder_located : Addr
  d_Coder_located : FuncData
  f_Coder_is_param : Addr
  d_Coder_is_param : FuncData
  f_Coder_setting : Addr
  d_Coder_setting : FuncData
  f_Coder_send : Addr
  d_Coder_send : FuncData
  f_Coder_plain_send : Addr
  d_Coder_plain_send : FuncData
  f_Coder_sent : Addr
  d_Coder_sent : FuncData
  f_Coder_choice : Addr
  d_Coder_choice : FuncData
  f_Coder_repeat : Addr
  d_Coder_repeat : FuncData
  f_Coder_block : Addr
  d_Coder_block : FuncData
  f__law_cell : Addr
  d__law_cell : FuncData
  f__law_told : Addr
  d__law_told : FuncData
  f_law : Addr
  d_law : FuncData
  t_PUSHES : Addr
  t_SENDS : Addr
  t_POPS : Addr
  t_ENDS : Addr
  t_MOST_LOCALS : Tok
structure Txt (K : PySem.W.Frag) (mg : Str → Option Value) (A : Ad) : Prop where
  m_SaggarError : mg "SaggarError" = some (.ref A.C_SaggarError)
  m_Oversized : mg "Oversized" = some (.ref A.C_Oversized)
  x_Oversized : ExF K A.C_Oversized A.f_Oversized___init__
  no_Oversized_limit : PySem.W.findIn K (.ref A.C_Oversized) "limit" = some none
  ex_Oversized_Oversized : PySem.W.exmOne K (.ref A.C_Oversized) (.ref A.C_Oversized) = some true
  ex_Oversized_Twice : PySem.W.exmOne K (.ref A.C_Oversized) (.ref A.C_Twice) = some false
  m_Unknown : mg "Unknown" = some (.ref A.C_Unknown)
  x_Unknown : ExF K A.C_Unknown A.f_Unknown___init__
  no_Unknown_name : PySem.W.findIn K (.ref A.C_Unknown) "name" = some none
  no_Unknown_at : PySem.W.findIn K (.ref A.C_Unknown) "at" = some none
  ex_Unknown_Oversized : PySem.W.exmOne K (.ref A.C_Unknown) (.ref A.C_Oversized) = some false
  ex_Unknown_Twice : PySem.W.exmOne K (.ref A.C_Unknown) (.ref A.C_Twice) = some false
  m_Twice : mg "Twice" = some (.ref A.C_Twice)
  x_Twice : ExF K A.C_Twice A.f_Twice___init__
  no_Twice_name : PySem.W.findIn K (.ref A.C_Twice) "name" = some none
  no_Twice_at : PySem.W.findIn K (.ref A.C_Twice) "at" = some none
  ex_Twice_Oversized : PySem.W.exmOne K (.ref A.C_Twice) (.ref A.C_Oversized) = some false
  ex_Twice_Twice : PySem.W.exmOne K (.ref A.C_Twice) (.ref A.C_Twice) = some true
  m_Fixed : mg "Fixed" = some (.ref A.C_Fixed)
  x_Fixed : ExF K A.C_Fixed A.f_Fixed___init__
  no_Fixed_name : PySem.W.findIn K (.ref A.C_Fixed) "name" = some none
  no_Fixed_at : PySem.W.findIn K (.ref A.C_Fixed) "at" = some none
  ex_Fixed_Oversized : PySem.W.exmOne K (.ref A.C_Fixed) (.ref A.C_Oversized) = some false
  ex_Fixed_Twice : PySem.W.exmOne K (.ref A.C_Fixed) (.ref A.C_Twice) = some false
  m_Draft : mg "Draft" = some (.ref A.C_Draft)
  cl_Draft : Cls K A.C_Draft
  mk_Draft : Mk K A.C_Draft A.f_Draft___init__
  no_Draft_selector : NoAttr K A.C_Draft "selector"
  no_Draft_argc : NoAttr K A.C_Draft "argc"
  no_Draft_locals : NoAttr K A.C_Draft "locals"
  no_Draft_stack : NoAttr K A.C_Draft "stack"
  no_Draft_code : NoAttr K A.C_Draft "code"
  no_Draft_literals : NoAttr K A.C_Draft "literals"
  m_Scope : mg "Scope" = some (.ref A.C_Scope)
  cl_Scope : Cls K A.C_Scope
  mk_Scope : Mk K A.C_Scope A.f_Scope___init__
  no_Scope_indexes : NoAttr K A.C_Scope "indexes"
  no_Scope_argc : NoAttr K A.C_Scope "argc"
  m_Coder : mg "Coder" = some (.ref A.C_Coder)
  cl_Coder : Cls K A.C_Coder
  mk_Coder : Mk K A.C_Coder A.f_Coder___init__
  no_Coder_code : NoAttr K A.C_Coder "code"
  no_Coder_literals : NoAttr K A.C_Coder "literals"
  no_Coder_known : NoAttr K A.C_Coder "known"
  no_Coder_scopes : NoAttr K A.C_Coder "scopes"
  no_Coder_fields : NoAttr K A.C_Coder "fields"
  no_Coder_shared : NoAttr K A.C_Coder "shared"
  k_Oversized___init__ : PySem.W.keepIn K (.ref A.f_Oversized___init__) = true
  F_Oversized___init__ : Fun K "__init__" "Oversized.__init__" s_Oversized___init__ A.f_Oversized___init__ A.d_Oversized___init__
  b_Oversized___init__ : Binds K A.d_Oversized___init__ ["self", "limit"] []
  k_Unknown___init__ : PySem.W.keepIn K (.ref A.f_Unknown___init__) = true
  F_Unknown___init__ : Fun K "__init__" "Unknown.__init__" s_Unknown___init__ A.f_Unknown___init__ A.d_Unknown___init__
  b_Unknown___init__ : Binds K A.d_Unknown___init__ ["self", "name", "at"] []
  k_Twice___init__ : PySem.W.keepIn K (.ref A.f_Twice___init__) = true
  F_Twice___init__ : Fun K "__init__" "Twice.__init__" s_Twice___init__ A.f_Twice___init__ A.d_Twice___init__
  b_Twice___init__ : Binds K A.d_Twice___init__ ["self", "name", "at"] []
  k_Fixed___init__ : PySem.W.keepIn K (.ref A.f_Fixed___init__) = true
  F_Fixed___init__ : Fun K "__init__" "Fixed.__init__" s_Fixed___init__ A.f_Fixed___init__ A.d_Fixed___init__
  b_Fixed___init__ : Binds K A.d_Fixed___init__ ["self", "name", "at"] []
  g_change_of : mg "change_of" = some (.ref A.f_change_of)
  k_change_of : PySem.W.keepIn K (.ref A.f_change_of) = true
  F_change_of : Fun K "change_of" "change_of" s_change_of A.f_change_of A.d_change_of
  b_change_of : Binds K A.d_change_of ["op", "arg"] []
  g_places_behind : mg "places_behind" = some (.ref A.f_places_behind)
  k_places_behind : PySem.W.keepIn K (.ref A.f_places_behind) = true
  F_places_behind : Fun K "places_behind" "places_behind" s_places_behind A.f_places_behind A.d_places_behind
  b_places_behind : Binds K A.d_places_behind ["op", "arg", "place"] []
  g_heights_from : mg "heights_from" = some (.ref A.f_heights_from)
  k_heights_from : PySem.W.keepIn K (.ref A.f_heights_from) = true
  F_heights_from : Fun K "heights_from" "heights_from" s_heights_from A.f_heights_from A.d_heights_from
  b_heights_from : Binds K A.d_heights_from ["code", "start"] []
  g_greatest_heights : mg "greatest_heights" = some (.ref A.f_greatest_heights)
  k_greatest_heights : PySem.W.keepIn K (.ref A.f_greatest_heights) = true
  F_greatest_heights : Fun K "greatest_heights" "greatest_heights" s_greatest_heights A.f_greatest_heights A.d_greatest_heights
  b_greatest_heights : Binds K A.d_greatest_heights ["code", "literals"] []
  k_Draft___init__ : PySem.W.keepIn K (.ref A.f_Draft___init__) = true
  F_Draft___init__ : Fun K "__init__" "Draft.__init__" s_Draft___init__ A.f_Draft___init__ A.d_Draft___init__
  b_Draft___init__ : Binds K A.d_Draft___init__ ["self", "selector", "argc", "count", "stack", "code", "literals"] []
  g_compile_method : mg "compile_method" = some (.ref A.f_compile_method)
  k_compile_method : PySem.W.keepIn K (.ref A.f_compile_method) = true
  F_compile_method : Fun K "compile_method" "compile_method" s_compile_method A.f_compile_method A.d_compile_method
  b_compile_method : Binds K A.d_compile_method ["tree", "fields", "globals_known"] []
  g_measured : mg "measured" = some (.ref A.f_measured)
  k_measured : PySem.W.keepIn K (.ref A.f_measured) = true
  F_measured : Fun K "measured" "measured" s_measured A.f_measured A.d_measured
  b_measured : Binds K A.d_measured ["literal", "stacks"] []
  g_declared : mg "declared" = some (.ref A.f_declared)
  k_declared : PySem.W.keepIn K (.ref A.f_declared) = true
  F_declared : Fun K "declared" "declared" s_declared A.f_declared A.d_declared
  b_declared : Binds K A.d_declared ["params", "temps"] []
  g_carried_out : mg "carried_out" = some (.ref A.f_carried_out)
  k_carried_out : PySem.W.keepIn K (.ref A.f_carried_out) = true
  F_carried_out : Fun K "carried_out" "carried_out" s_carried_out A.f_carried_out A.d_carried_out
  b_carried_out : Binds K A.d_carried_out ["statements"] []
  g_returns : mg "returns" = some (.ref A.f_returns)
  k_returns : PySem.W.keepIn K (.ref A.f_returns) = true
  F_returns : Fun K "returns" "returns" s_returns A.f_returns A.d_returns
  b_returns : Binds K A.d_returns ["statements"] []
  g_is_plain_block : mg "is_plain_block" = some (.ref A.f_is_plain_block)
  k_is_plain_block : PySem.W.keepIn K (.ref A.f_is_plain_block) = true
  F_is_plain_block : Fun K "is_plain_block" "is_plain_block" s_is_plain_block A.f_is_plain_block A.d_is_plain_block
  b_is_plain_block : Binds K A.d_is_plain_block ["tree"] []
  k_Scope___init__ : PySem.W.keepIn K (.ref A.f_Scope___init__) = true
  F_Scope___init__ : Fun K "__init__" "Scope.__init__" s_Scope___init__ A.f_Scope___init__ A.d_Scope___init__
  b_Scope___init__ : Binds K A.d_Scope___init__ ["self", "params", "temps"] []
  k_Coder___init__ : PySem.W.keepIn K (.ref A.f_Coder___init__) = true
  F_Coder___init__ : Fun K "__init__" "Coder.__init__" s_Coder___init__ A.f_Coder___init__ A.d_Coder___init__
  b_Coder___init__ : Binds K A.d_Coder___init__ ["self", "fields", "globals_known"] []
  me_Coder_emit : Meth K A.C_Coder "emit" A.f_Coder_emit
  k_Coder_emit : PySem.W.keepIn K (.ref A.f_Coder_emit) = true
  F_Coder_emit : FunD K "emit" "Coder.emit" (defArgs s_Coder_emit) (defBody s_Coder_emit) (defScope s_Coder_emit) [.int (0)] [] A.f_Coder_emit A.d_Coder_emit
  b_Coder_emit : Binds K A.d_Coder_emit ["self", "op", "arg"] []
  bd_Coder_emit : ∃ ds, Vals [.int (0)] ds ∧ Binds K A.d_Coder_emit ["self", "op", "arg"] ds
  me_Coder_land : Meth K A.C_Coder "land" A.f_Coder_land
  k_Coder_land : PySem.W.keepIn K (.ref A.f_Coder_land) = true
  F_Coder_land : Fun K "land" "Coder.land" s_Coder_land A.f_Coder_land A.d_Coder_land
  b_Coder_land : Binds K A.d_Coder_land ["self", "jumps"] []
  me_Coder_literal : Meth K A.C_Coder "literal" A.f_Coder_literal
  k_Coder_literal : PySem.W.keepIn K (.ref A.f_Coder_literal) = true
  F_Coder_literal : Fun K "literal" "Coder.literal" s_Coder_literal A.f_Coder_literal A.d_Coder_literal
  b_Coder_literal : Binds K A.d_Coder_literal ["self", "literal"] []
  me_Coder_method : Meth K A.C_Coder "method" A.f_Coder_method
  k_Coder_method : PySem.W.keepIn K (.ref A.f_Coder_method) = true
  F_Coder_method : Fun K "method" "Coder.method" s_Coder_method A.f_Coder_method A.d_Coder_method
  b_Coder_method : Binds K A.d_Coder_method ["self", "tree"] []
  me_Coder_body : Meth K A.C_Coder "body" A.f_Coder_body
  k_Coder_body : PySem.W.keepIn K (.ref A.f_Coder_body) = true
  F_Coder_body : Fun K "body" "Coder.body" s_Coder_body A.f_Coder_body A.d_Coder_body
  b_Coder_body : Binds K A.d_Coder_body ["self", "statements"] []
  me_Coder_statement : Meth K A.C_Coder "statement" A.f_Coder_statement
  k_Coder_statement : PySem.W.keepIn K (.ref A.f_Coder_statement) = true
  F_Coder_statement : Fun K "statement" "Coder.statement" s_Coder_statement A.f_Coder_statement A.d_Coder_statement
  b_Coder_statement : Binds K A.d_Coder_statement ["self", "statement"] []
  me_Coder_expression : Meth K A.C_Coder "expression" A.f_Coder_expression
  k_Coder_expression : PySem.W.keepIn K (.ref A.f_Coder_expression) = true
  F_Coder_expression : Fun K "expression" "Coder.expression" s_Coder_expression A.f_Coder_expression A.d_Coder_expression
  b_Coder_expression : Binds K A.d_Coder_expression ["self", "tree"] []
  me_Coder_located : Meth K A.C_Coder "located" A.f_Coder_located
  k_Coder_located : PySem.W.keepIn K (.ref A.f_Coder_located) = true
  F_Coder_located : Fun K "located" "Coder.located" s_Coder_located A.f_Coder_located A.d_Coder_located
  b_Coder_located : Binds K A.d_Coder_located ["self", "name", "at"] []
  me_Coder_is_param : Meth K A.C_Coder "is_param" A.f_Coder_is_param
  k_Coder_is_param : PySem.W.keepIn K (.ref A.f_Coder_is_param) = true
  F_Coder_is_param : Fun K "is_param" "Coder.is_param" s_Coder_is_param A.f_Coder_is_param A.d_Coder_is_param
  b_Coder_is_param : Binds K A.d_Coder_is_param ["self", "name"] []
  me_Coder_setting : Meth K A.C_Coder "setting" A.f_Coder_setting
  k_Coder_setting : PySem.W.keepIn K (.ref A.f_Coder_setting) = true
  F_Coder_setting : Fun K "setting" "Coder.setting" s_Coder_setting A.f_Coder_setting A.d_Coder_setting
  b_Coder_setting : Binds K A.d_Coder_setting ["self", "tree"] []
  me_Coder_send : Meth K A.C_Coder "send" A.f_Coder_send
  k_Coder_send : PySem.W.keepIn K (.ref A.f_Coder_send) = true
  F_Coder_send : Fun K "send" "Coder.send" s_Coder_send A.f_Coder_send A.d_Coder_send
  b_Coder_send : Binds K A.d_Coder_send ["self", "tree"] []
  me_Coder_plain_send : Meth K A.C_Coder "plain_send" A.f_Coder_plain_send
  k_Coder_plain_send : PySem.W.keepIn K (.ref A.f_Coder_plain_send) = true
  F_Coder_plain_send : Fun K "plain_send" "Coder.plain_send" s_Coder_plain_send A.f_Coder_plain_send A.d_Coder_plain_send
  b_Coder_plain_send : Binds K A.d_Coder_plain_send ["self", "tree"] []
  me_Coder_sent : Meth K A.C_Coder "sent" A.f_Coder_sent
  k_Coder_sent : PySem.W.keepIn K (.ref A.f_Coder_sent) = true
  F_Coder_sent : Fun K "sent" "Coder.sent" s_Coder_sent A.f_Coder_sent A.d_Coder_sent
  b_Coder_sent : Binds K A.d_Coder_sent ["self", "op", "selector", "arguments"] []
  me_Coder_choice : Meth K A.C_Coder "choice" A.f_Coder_choice
  k_Coder_choice : PySem.W.keepIn K (.ref A.f_Coder_choice) = true
  F_Coder_choice : Fun K "choice" "Coder.choice" s_Coder_choice A.f_Coder_choice A.d_Coder_choice
  b_Coder_choice : Binds K A.d_Coder_choice ["self", "condition", "chosen", "other"] []
  me_Coder_repeat : Meth K A.C_Coder "repeat" A.f_Coder_repeat
  k_Coder_repeat : PySem.W.keepIn K (.ref A.f_Coder_repeat) = true
  F_Coder_repeat : Fun K "repeat" "Coder.repeat" s_Coder_repeat A.f_Coder_repeat A.d_Coder_repeat
  b_Coder_repeat : Binds K A.d_Coder_repeat ["self", "condition", "statements"] []
  me_Coder_block : Meth K A.C_Coder "block" A.f_Coder_block
  k_Coder_block : PySem.W.keepIn K (.ref A.f_Coder_block) = true
  F_Coder_block : Fun K "block" "Coder.block" s_Coder_block A.f_Coder_block A.d_Coder_block
  b_Coder_block : Binds K A.d_Coder_block ["self", "tree"] []
  g__law_cell : mg "_law_cell" = some (.ref A.f__law_cell)
  k__law_cell : PySem.W.keepIn K (.ref A.f__law_cell) = true
  F__law_cell : Fun K "_law_cell" "_law_cell" s__law_cell A.f__law_cell A.d__law_cell
  b__law_cell : Binds K A.d__law_cell ["script", "k"] []
  g__law_told : mg "_law_told" = some (.ref A.f__law_told)
  k__law_told : PySem.W.keepIn K (.ref A.f__law_told) = true
  F__law_told : Fun K "_law_told" "_law_told" s__law_told A.f__law_told A.d__law_told
  b__law_told : Binds K A.d__law_told ["tree"] []
  g_law : mg "law" = some (.ref A.f_law)
  k_law : PySem.W.keepIn K (.ref A.f_law) = true
  F_law : Fun K "law" "law" s_law A.f_law A.d_law
  b_law : Binds K A.d_law ["script"] []
  c_PUSHES : mg "PUSHES" = some (.ref A.t_PUSHES)
  q_PUSHES : ∀ H, SqT K H A.t_PUSHES [.str "local", .str "outer", .str "field", .str "literal", .str "global", .str "self", .str "nil", .str "true", .str "false", .str "dup", .str "block"]
  c_SENDS : mg "SENDS" = some (.ref A.t_SENDS)
  q_SENDS : ∀ H, SqT K H A.t_SENDS [.str "send", .str "super_send"]
  c_POPS : mg "POPS" = some (.ref A.t_POPS)
  q_POPS : ∀ H, SqT K H A.t_POPS [.str "pop", .str "jump_false"]
  c_ENDS : mg "ENDS" = some (.ref A.t_ENDS)
  q_ENDS : ∀ H, SqT K H A.t_ENDS [.str "return", .str "leave"]
  c_MOST_LOCALS : mg "MOST_LOCALS" = some (.int (255) A.t_MOST_LOCALS)
  z_ValueError : mg "ValueError" = none
  z_all : mg "all" = none
  z_any : mg "any" = none
  z_enumerate : mg "enumerate" = none
  z_int : mg "int" = none
  z_isinstance : mg "isinstance" = none
  z_len : mg "len" = none
  z_list : mg "list" = none
  z_max : mg "max" = none
  z_range : mg "range" = none
  z_str : mg "str" = none
  z_tuple : mg "tuple" = none

theorem exf_Oversized {K : PySem.W.Frag} {mg : Str → Option Value} {A : Ad} (T : Txt K mg A) : (∃ x, ExF K A.C_Oversized x) = True := tt_true ⟨_, T.x_Oversized⟩
theorem exf_Unknown {K : PySem.W.Frag} {mg : Str → Option Value} {A : Ad} (T : Txt K mg A) : (∃ x, ExF K A.C_Unknown x) = True := tt_true ⟨_, T.x_Unknown⟩
theorem exf_Twice {K : PySem.W.Frag} {mg : Str → Option Value} {A : Ad} (T : Txt K mg A) : (∃ x, ExF K A.C_Twice x) = True := tt_true ⟨_, T.x_Twice⟩
theorem exf_Fixed {K : PySem.W.Frag} {mg : Str → Option Value} {A : Ad} (T : Txt K mg A) : (∃ x, ExF K A.C_Fixed x) = True := tt_true ⟨_, T.x_Fixed⟩
theorem sne_Draft_selector_argc : ((Str.ofString "selector") = Str.ofString "argc") = False := eq_false (by decide)
theorem sne_Draft_selector_locals : ((Str.ofString "selector") = Str.ofString "locals") = False := eq_false (by decide)
theorem sne_Draft_argc_locals : ((Str.ofString "argc") = Str.ofString "locals") = False := eq_false (by decide)
theorem sne_Draft_selector_stack : ((Str.ofString "selector") = Str.ofString "stack") = False := eq_false (by decide)
theorem sne_Draft_argc_stack : ((Str.ofString "argc") = Str.ofString "stack") = False := eq_false (by decide)
theorem sne_Draft_locals_stack : ((Str.ofString "locals") = Str.ofString "stack") = False := eq_false (by decide)
theorem sne_Draft_selector_code : ((Str.ofString "selector") = Str.ofString "code") = False := eq_false (by decide)
theorem sne_Draft_argc_code : ((Str.ofString "argc") = Str.ofString "code") = False := eq_false (by decide)
theorem sne_Draft_locals_code : ((Str.ofString "locals") = Str.ofString "code") = False := eq_false (by decide)
theorem sne_Draft_stack_code : ((Str.ofString "stack") = Str.ofString "code") = False := eq_false (by decide)
theorem sne_Draft_selector_literals : ((Str.ofString "selector") = Str.ofString "literals") = False := eq_false (by decide)
theorem sne_Draft_argc_literals : ((Str.ofString "argc") = Str.ofString "literals") = False := eq_false (by decide)
theorem sne_Draft_locals_literals : ((Str.ofString "locals") = Str.ofString "literals") = False := eq_false (by decide)
theorem sne_Draft_stack_literals : ((Str.ofString "stack") = Str.ofString "literals") = False := eq_false (by decide)
theorem sne_Draft_code_literals : ((Str.ofString "code") = Str.ofString "literals") = False := eq_false (by decide)
theorem sne_Scope_indexes_argc : ((Str.ofString "indexes") = Str.ofString "argc") = False := eq_false (by decide)
theorem sne_Coder_code_literals : ((Str.ofString "code") = Str.ofString "literals") = False := eq_false (by decide)
theorem sne_Coder_code_known : ((Str.ofString "code") = Str.ofString "known") = False := eq_false (by decide)
theorem sne_Coder_literals_known : ((Str.ofString "literals") = Str.ofString "known") = False := eq_false (by decide)
theorem sne_Coder_code_scopes : ((Str.ofString "code") = Str.ofString "scopes") = False := eq_false (by decide)
theorem sne_Coder_literals_scopes : ((Str.ofString "literals") = Str.ofString "scopes") = False := eq_false (by decide)
theorem sne_Coder_known_scopes : ((Str.ofString "known") = Str.ofString "scopes") = False := eq_false (by decide)
theorem sne_Coder_code_fields : ((Str.ofString "code") = Str.ofString "fields") = False := eq_false (by decide)
theorem sne_Coder_literals_fields : ((Str.ofString "literals") = Str.ofString "fields") = False := eq_false (by decide)
theorem sne_Coder_known_fields : ((Str.ofString "known") = Str.ofString "fields") = False := eq_false (by decide)
theorem sne_Coder_scopes_fields : ((Str.ofString "scopes") = Str.ofString "fields") = False := eq_false (by decide)
theorem sne_Coder_code_shared : ((Str.ofString "code") = Str.ofString "shared") = False := eq_false (by decide)
theorem sne_Coder_literals_shared : ((Str.ofString "literals") = Str.ofString "shared") = False := eq_false (by decide)
theorem sne_Coder_known_shared : ((Str.ofString "known") = Str.ofString "shared") = False := eq_false (by decide)
theorem sne_Coder_scopes_shared : ((Str.ofString "scopes") = Str.ofString "shared") = False := eq_false (by decide)
theorem sne_Coder_fields_shared : ((Str.ofString "fields") = Str.ofString "shared") = False := eq_false (by decide)
section
variable {P : Program} {w : World} {K : PySem.W.Frag} {mg : Str → Option Value} {base : Heap} {A : Ad}
theorem ok_Oversized___init__ (T : Txt K mg A) : FnOk P w K mg base CX0 1 A.f_Oversized___init__ A.d_Oversized___init__ ["self", "limit"] (sp_ex1 A.C_Oversized "limit") := by
  refine Fun.ok T.F_Oversized___init__ sc_Oversized___init__ (fun vs H Q E h => ?_) (fun cdv Ar outer s H vs Q E hr h => ?_)
  · obtain ⟨_, _, rfl, _⟩ := h
    rfl
  · obtain ⟨a, v, rfl, ha, k⟩ := h
    refine ⟨_, pss_one (ps_ost (pv 0) (pv 1)), ?_⟩
    exact ⟨v, rfl, .ref a, rfl, a, A.C_Oversized, rfl, T.x_Oversized.o, T.no_Oversized_limit, .inl ⟨ha, fun dx hdx ne => k dx hdx ne⟩⟩
theorem ok_Unknown___init__ (T : Txt K mg A) : FnOk P w K mg base CX0 1 A.f_Unknown___init__ A.d_Unknown___init__ ["self", "name", "at"] (sp_ex2 A.C_Unknown "name" "at") := by
  refine Fun.ok T.F_Unknown___init__ sc_Unknown___init__ (fun vs H Q E h => ?_) (fun cdv Ar outer s H vs Q E hr h => ?_)
  · obtain ⟨_, _, _, rfl, _⟩ := h
    rfl
  · obtain ⟨a, v, w1, rfl, ha, k⟩ := h
    refine ⟨_, pss_cons (ps_ost (pv 0) (pv 1)) (pss_one (ps_ost (pv 0) (pv 2))), ?_⟩
    refine ⟨v, rfl, .ref a, rfl, a, A.C_Unknown, rfl, T.x_Unknown.o, T.no_Unknown_name, .inl ⟨ha, fun dx hdx ne => ?_⟩⟩
    exact ⟨w1, rfl, .ref a, rfl, a, A.C_Unknown, rfl, T.x_Unknown.o, T.no_Unknown_at, .inr ⟨dx, _, upd_same, by rw [upd_ne ne, upd_same], (by first | decide | exact Nat.le_of_ble_eq_true rfl), k dx hdx ne⟩⟩
theorem ok_Twice___init__ (T : Txt K mg A) : FnOk P w K mg base CX0 1 A.f_Twice___init__ A.d_Twice___init__ ["self", "name", "at"] (sp_ex2 A.C_Twice "name" "at") := by
  refine Fun.ok T.F_Twice___init__ sc_Twice___init__ (fun vs H Q E h => ?_) (fun cdv Ar outer s H vs Q E hr h => ?_)
  · obtain ⟨_, _, _, rfl, _⟩ := h
    rfl
  · obtain ⟨a, v, w1, rfl, ha, k⟩ := h
    refine ⟨_, pss_cons (ps_ost (pv 0) (pv 1)) (pss_one (ps_ost (pv 0) (pv 2))), ?_⟩
    refine ⟨v, rfl, .ref a, rfl, a, A.C_Twice, rfl, T.x_Twice.o, T.no_Twice_name, .inl ⟨ha, fun dx hdx ne => ?_⟩⟩
    exact ⟨w1, rfl, .ref a, rfl, a, A.C_Twice, rfl, T.x_Twice.o, T.no_Twice_at, .inr ⟨dx, _, upd_same, by rw [upd_ne ne, upd_same], (by first | decide | exact Nat.le_of_ble_eq_true rfl), k dx hdx ne⟩⟩
theorem ok_Fixed___init__ (T : Txt K mg A) : FnOk P w K mg base CX0 1 A.f_Fixed___init__ A.d_Fixed___init__ ["self", "name", "at"] (sp_ex2 A.C_Fixed "name" "at") := by
  refine Fun.ok T.F_Fixed___init__ sc_Fixed___init__ (fun vs H Q E h => ?_) (fun cdv Ar outer s H vs Q E hr h => ?_)
  · obtain ⟨_, _, _, rfl, _⟩ := h
    rfl
  · obtain ⟨a, v, w1, rfl, ha, k⟩ := h
    refine ⟨_, pss_cons (ps_ost (pv 0) (pv 1)) (pss_one (ps_ost (pv 0) (pv 2))), ?_⟩
    refine ⟨v, rfl, .ref a, rfl, a, A.C_Fixed, rfl, T.x_Fixed.o, T.no_Fixed_name, .inl ⟨ha, fun dx hdx ne => ?_⟩⟩
    exact ⟨w1, rfl, .ref a, rfl, a, A.C_Fixed, rfl, T.x_Fixed.o, T.no_Fixed_at, .inr ⟨dx, _, upd_same, by rw [upd_ne ne, upd_same], (by first | decide | exact Nat.le_of_ble_eq_true rfl), k dx hdx ne⟩⟩
end

set_option hygiene false in
local macro_rules
  | `(tactic| simp! only [$xs,*]) => `(tactic| simp (config := { maxSteps := 4000000 }) only [tSeq, tNext, tDrop, tRet, tRetN, tIfS, tAsg, tTest, tAnd, tOr, tNot, tAndV, tOrV, tNotV, tIf, tOp, tUn, tVar, tC, tCB, tCons, tNil, tCall, tPart, tNoPart, tM0, tM1, tTup, tLst, tB, tIsN, tNotN, rI0, rI, rU, rEq, rNe, rAdd, gName, gTup, gCons, gNil, gSub, rSetL, rIxL, rIxT, rIxS, L2.start,
      List.map_cons, List.map_nil, List.cons_append, List.nil_append, List.append_nil, List.length_cons, List.length_nil, List.replicate, List.getElem?_cons_zero, List.getElem?_cons_succ, List.set_cons_zero, List.set_cons_succ, Nat.reduceAdd, Nat.reduceSub, Nat.sub_self, Nat.zero_add,
      Option.some.injEq, V.int.injEq, V.str.injEq, V.bl.injEq, V.ref.injEq, V.ty.injEq, List.cons.injEq, and_true, true_and, exists_eq_left, exists_eq_left', exists_eq_right, exists_and_left, exists_and_right, exists_const, decide_eq_true_eq, decide_eq_false_iff_not, if_true, if_false, reduceIte, Bool.false_eq_true, Bool.not_eq_true', sc_ii, sc_ss, sc_bb, str1, cx_K, lstAt, rIxM, rSetM, rLenM, atI_0, atI_1, atI_2, atI_3, setI_0, setI_1, setI_2, setI_3, upd_same, upd_upd, ite_true, ite_false, exists_eq', eq_self, and_assoc, rIsS, isTy_bb, isTy_bi, isTy_ib, isTy_ii, isTy_ss, isTy_nb, isTy_ni, Bool.not_true, Bool.not_false, not_true_eq_false, not_false_eq_true, tChain, tRz1, tRz2, rIsX, tFx, tMethE, tCallS, tCallZ, tMeth, tMake, tFld, sFld, HO.ins.injEq, HO.lst.injEq, HO.dK.injEq, HO.tup.injEq, dcAt, dcRd, rDInM, rDGetM, rDSetM, rDLenM, keyOf_int, keyOf_str, rIsBM, plainV_b, plainV_i, plainV_n, plainV_s, rInM, rListM, rSortM, rSumM, rIsD, tBMM, tBM0M, tSl, rSlM, rAppend, rPop, rClear, wAs, reduceCtorEq, false_implies, true_implies, implies_true, forall_const, cxH_K, clsV_ref, clsV_ty, HO.xd.injEq, Value.ref.injEq, lkc, lkn, pfn, pfc, List.map_nil, rExtend, rCat, rRep, tMethE0, rSortD, rPush, rPopH, tDGetM, gAll, iRev, tCB, sDDel, exf_Oversized T, exf_Unknown T, exf_Twice T, exf_Fixed T, sne_Draft_selector_argc, sne_Draft_selector_locals, sne_Draft_argc_locals, sne_Draft_selector_stack, sne_Draft_argc_stack, sne_Draft_locals_stack, sne_Draft_selector_code, sne_Draft_argc_code, sne_Draft_locals_code, sne_Draft_stack_code, sne_Draft_selector_literals, sne_Draft_argc_literals, sne_Draft_locals_literals, sne_Draft_stack_literals, sne_Draft_code_literals, sne_Scope_indexes_argc, sne_Coder_code_literals, sne_Coder_code_known, sne_Coder_literals_known, sne_Coder_code_scopes, sne_Coder_literals_scopes, sne_Coder_known_scopes, sne_Coder_code_fields, sne_Coder_literals_fields, sne_Coder_known_fields, sne_Coder_scopes_fields, sne_Coder_code_shared, sne_Coder_literals_shared, sne_Coder_known_shared, sne_Coder_scopes_shared, sne_Coder_fields_shared, T.no_Oversized_limit, T.ex_Oversized_Oversized, T.ex_Oversized_Twice, T.no_Unknown_name, T.no_Unknown_at, T.ex_Unknown_Oversized, T.ex_Unknown_Twice, T.no_Twice_name, T.no_Twice_at, T.ex_Twice_Oversized, T.ex_Twice_Twice, T.no_Fixed_name, T.no_Fixed_at, T.ex_Fixed_Oversized, T.ex_Fixed_Twice, $xs,*])
set_option hygiene false in
local macro_rules
  | `(tactic| dsimp! only [$xs,*]) => `(tactic| simp (config := { maxSteps := 4000000 }) only [tSeq, tNext, tDrop, tRet, tRetN, tIfS, tAsg, tTest, tAnd, tOr, tNot, tAndV, tOrV, tNotV, tIf, tOp, tUn, tVar, tC, tCB, tCons, tNil, tCall, tPart, tNoPart, tM0, tM1, tTup, tLst, tB, tIsN, tNotN, rI0, rI, rU, rEq, rNe, rAdd, gName, gTup, gCons, gNil, gSub, rSetL, rIxL, rIxT, rIxS, L2.start,
      List.map_cons, List.map_nil, List.cons_append, List.nil_append, List.append_nil, List.length_cons, List.length_nil, List.replicate, List.getElem?_cons_zero, List.getElem?_cons_succ, List.set_cons_zero, List.set_cons_succ, Nat.reduceAdd, Nat.reduceSub, Nat.sub_self, Nat.zero_add,
      Option.some.injEq, V.int.injEq, V.str.injEq, V.bl.injEq, V.ref.injEq, V.ty.injEq, List.cons.injEq, and_true, true_and, exists_eq_left, exists_eq_left', exists_eq_right, exists_and_left, exists_and_right, exists_const, decide_eq_true_eq, decide_eq_false_iff_not, if_true, if_false, reduceIte, Bool.false_eq_true, Bool.not_eq_true', sc_ii, sc_ss, sc_bb, str1, cx_K, lstAt, rIxM, rSetM, rLenM, atI_0, atI_1, atI_2, atI_3, setI_0, setI_1, setI_2, setI_3, upd_same, upd_upd, ite_true, ite_false, exists_eq', eq_self, and_assoc, rIsS, isTy_bb, isTy_bi, isTy_ib, isTy_ii, isTy_ss, isTy_nb, isTy_ni, Bool.not_true, Bool.not_false, not_true_eq_false, not_false_eq_true, tChain, tRz1, tRz2, rIsX, tFx, tMethE, tCallS, tCallZ, tMeth, tMake, tFld, sFld, HO.ins.injEq, HO.lst.injEq, HO.dK.injEq, HO.tup.injEq, dcAt, dcRd, rDInM, rDGetM, rDSetM, rDLenM, keyOf_int, keyOf_str, rIsBM, plainV_b, plainV_i, plainV_n, plainV_s, rInM, rListM, rSortM, rSumM, rIsD, tBMM, tBM0M, tSl, rSlM, rAppend, rPop, rClear, wAs, reduceCtorEq, false_implies, true_implies, implies_true, forall_const, cxH_K, clsV_ref, clsV_ty, HO.xd.injEq, Value.ref.injEq, lkc, lkn, pfn, pfc, List.map_nil, rExtend, rCat, rRep, tMethE0, rSortD, rPush, rPopH, tDGetM, gAll, iRev, tCB, sDDel, exf_Oversized T, exf_Unknown T, exf_Twice T, exf_Fixed T, sne_Draft_selector_argc, sne_Draft_selector_locals, sne_Draft_argc_locals, sne_Draft_selector_stack, sne_Draft_argc_stack, sne_Draft_locals_stack, sne_Draft_selector_code, sne_Draft_argc_code, sne_Draft_locals_code, sne_Draft_stack_code, sne_Draft_selector_literals, sne_Draft_argc_literals, sne_Draft_locals_literals, sne_Draft_stack_literals, sne_Draft_code_literals, sne_Scope_indexes_argc, sne_Coder_code_literals, sne_Coder_code_known, sne_Coder_literals_known, sne_Coder_code_scopes, sne_Coder_literals_scopes, sne_Coder_known_scopes, sne_Coder_code_fields, sne_Coder_literals_fields, sne_Coder_known_fields, sne_Coder_scopes_fields, sne_Coder_code_shared, sne_Coder_literals_shared, sne_Coder_known_shared, sne_Coder_scopes_shared, sne_Coder_fields_shared, T.no_Oversized_limit, T.ex_Oversized_Oversized, T.ex_Oversized_Twice, T.no_Unknown_name, T.no_Unknown_at, T.ex_Unknown_Oversized, T.ex_Unknown_Twice, T.no_Twice_name, T.no_Twice_at, T.ex_Twice_Oversized, T.ex_Twice_Twice, T.no_Fixed_name, T.no_Fixed_at, T.ex_Fixed_Oversized, T.ex_Fixed_Twice, T.cl_Scope, $xs,*])
set_option hygiene false in
local macro_rules
  | `(tactic| simp_all! only [$xs,*]) => `(tactic| simp (config := { maxSteps := 4000000 }) only [tSeq, tNext, tDrop, tRet, tRetN, tIfS, tAsg, tTest, tAnd, tOr, tNot, tAndV, tOrV, tNotV, tIf, tOp, tUn, tVar, tC, tCB, tCons, tNil, tCall, tPart, tNoPart, tM0, tM1, tTup, tLst, tB, tIsN, tNotN, rI0, rI, rU, rEq, rNe, rAdd, gName, gTup, gCons, gNil, gSub, rSetL, rIxL, rIxT, rIxS, L2.start,
      List.map_cons, List.map_nil, List.cons_append, List.nil_append, List.append_nil, List.length_cons, List.length_nil, List.replicate, List.getElem?_cons_zero, List.getElem?_cons_succ, List.set_cons_zero, List.set_cons_succ, Nat.reduceAdd, Nat.reduceSub, Nat.sub_self, Nat.zero_add,
      Option.some.injEq, V.int.injEq, V.str.injEq, V.bl.injEq, V.ref.injEq, V.ty.injEq, List.cons.injEq, and_true, true_and, exists_eq_left, exists_eq_left', exists_eq_right, exists_and_left, exists_and_right, exists_const, decide_eq_true_eq, decide_eq_false_iff_not, if_true, if_false, reduceIte, Bool.false_eq_true, Bool.not_eq_true', sc_ii, sc_ss, sc_bb, str1, cx_K, lstAt, rIxM, rSetM, rLenM, atI_0, atI_1, atI_2, atI_3, setI_0, setI_1, setI_2, setI_3, upd_same, upd_upd, ite_true, ite_false, exists_eq', eq_self, and_assoc, rIsS, isTy_bb, isTy_bi, isTy_ib, isTy_ii, isTy_ss, isTy_nb, isTy_ni, Bool.not_true, Bool.not_false, not_true_eq_false, not_false_eq_true, tChain, tRz1, tRz2, rIsX, tFx, tMethE, tCallS, tCallZ, tMeth, tMake, tFld, sFld, HO.ins.injEq, HO.lst.injEq, HO.dK.injEq, HO.tup.injEq, dcAt, dcRd, rDInM, rDGetM, rDSetM, rDLenM, keyOf_int, keyOf_str, rIsBM, plainV_b, plainV_i, plainV_n, plainV_s, rInM, rListM, rSortM, rSumM, rIsD, tBMM, tBM0M, tSl, rSlM, rAppend, rPop, rClear, wAs, reduceCtorEq, false_implies, true_implies, implies_true, forall_const, cxH_K, clsV_ref, clsV_ty, HO.xd.injEq, Value.ref.injEq, lkc, lkn, pfn, pfc, List.map_nil, rExtend, rCat, rRep, tMethE0, rSortD, rPush, rPopH, tDGetM, gAll, iRev, tCB, sDDel, exf_Oversized T, exf_Unknown T, exf_Twice T, exf_Fixed T, sne_Draft_selector_argc, sne_Draft_selector_locals, sne_Draft_argc_locals, sne_Draft_selector_stack, sne_Draft_argc_stack, sne_Draft_locals_stack, sne_Draft_selector_code, sne_Draft_argc_code, sne_Draft_locals_code, sne_Draft_stack_code, sne_Draft_selector_literals, sne_Draft_argc_literals, sne_Draft_locals_literals, sne_Draft_stack_literals, sne_Draft_code_literals, sne_Scope_indexes_argc, sne_Coder_code_literals, sne_Coder_code_known, sne_Coder_literals_known, sne_Coder_code_scopes, sne_Coder_literals_scopes, sne_Coder_known_scopes, sne_Coder_code_fields, sne_Coder_literals_fields, sne_Coder_known_fields, sne_Coder_scopes_fields, sne_Coder_code_shared, sne_Coder_literals_shared, sne_Coder_known_shared, sne_Coder_scopes_shared, sne_Coder_fields_shared, T.no_Oversized_limit, T.ex_Oversized_Oversized, T.ex_Oversized_Twice, T.no_Unknown_name, T.no_Unknown_at, T.ex_Unknown_Oversized, T.ex_Unknown_Twice, T.no_Twice_name, T.no_Twice_at, T.ex_Twice_Oversized, T.ex_Twice_Twice, T.no_Fixed_name, T.no_Fixed_at, T.ex_Fixed_Oversized, T.ex_Fixed_Twice, T.cl_Coder, T.cl_Scope, T.cl_Draft, $xs,*])

/-! ### enumerate over a tuple; a loop over enumerate -/
theorem meets_enumerate_newB1 {v : Value} {o : Obj} {H : Heap → Prop} (B : Begins v o H) :
    Meets (Builtin.«enumerate.__new__» ⟨[.type "enumerate", v], []⟩) (fun _ R s => H s.heap ∧
      R (.ok (.ret (.ref (s.heap.push o).objs.size))) { s with heap := (s.heap.push o).push { cls := .type "enumerate", data := .fields #[.none, .bool false, .ref s.heap.objs.size, rawInt 0, .none, .none] } }) :=
  .of_wp fun prog w A R s h => by
    obtain ⟨hp, g, d, tk, os⟩ := s; obtain ⟨h1, h⟩ := h
    have hsub := sub_enumerate
    have q1 : ∀ {A' : Around} {E : Value → Shared → Prop} {Q : Value → Shared → Prop}, Q (.ref hp.objs.size) ⟨hp.push o, g, d, tk, os⟩ → wpAny (model prog w) A' (pyIter v) Q E ⟨hp, g, d, tk, os⟩ :=
      fun q => B.iter prog w _ _ ⟨hp, g, d, tk, os⟩ _ h1 q
    wp_walk using q1
    refine wpAny_stack_any fun st => wpAny_pure ?_
    split
    · rename_i c _ _ _ _ _
      cases (c == Value.type "enumerate")
      · wp_walk using q1
        exact ⟨_, rfl, h⟩
      · wp_walk using q1
        exact ⟨_, rfl, h⟩
    · wp_walk using q1
      exact ⟨_, rfl, h⟩
theorem call_enumerate_tuple {prog : Program} {w : World} {A : Around} {E : Value → Shared → Prop} {s : Shared} {l : Addr} {items : Array Value} {Q : Value → Shared → Prop} (hL : s.heap.IsTuple l items)
    (h : ∀ h', IsEnum h' (s.heap.objs.size + 1) s.heap.objs.size 0 .none → h'.IsTupleIter s.heap.objs.size l 0 → h'.objs.size = s.heap.objs.size + 2 →
      (∀ b o, s.heap.get? b = some o → h'.get? b = some o) → Q (.ref (s.heap.objs.size + 1)) { s with heap := h' }) :
    wpAny (model prog w) A (call (.type "enumerate") [.ref l]) Q E s := by
  refine callType_new F.called_enumerate (by decide) (F.typeCall_enumerate_1 _) (F.newCall_enumerate_1 _) (fun obj => F.args_object_init_2 obj _) F.entry_enumerate_new
    (meets_enumerate_newB1 (begins_tuple l items)) ⟨hL, ?_⟩
  have hz : (s.heap.push { cls := .type "tuple_iterator", data := .fields #[.ref l, .int 0 0] }).objs.size = s.heap.objs.size + 1 := Heap.size_push ..
  show _ ∧ _
  rw [hz]
  have he : IsEnum ((s.heap.push { cls := .type "tuple_iterator", data := .fields #[.ref l, .int 0 0] }).push
      { cls := .type "enumerate", data := .fields #[.none, .bool false, .ref s.heap.objs.size, rawInt 0, .none, .none] }) (s.heap.objs.size + 1) s.heap.objs.size 0 .none := by
    have := Heap.get?_push_size (s.heap.push { cls := .type "tuple_iterator", data := .fields #[.ref l, .int 0 0] })
      (o := { cls := .type "enumerate", data := .fields #[.none, .bool false, .ref s.heap.objs.size, rawInt 0, .none, .none] }) rfl
    rw [hz] at this; exact this
  refine ⟨⟨_, he, rfl⟩, h _ he ⟨_, Heap.get?_push_of_some _ (Heap.get?_push_size _ rfl), rfl, rfl⟩ (by rw [Heap.size_push, hz]) fun b o x => Heap.get?_push_of_some _ (Heap.get?_push_of_some _ x)⟩
/-- the tuple at a as it stands at each turn, each item in a new pair -/
def Itet (K : PySem.W.Frag) (a : Addr) : It :=
  ⟨fun i H => ∃ (xs : List V) (x : V), SqT K H a xs ∧ xs[i]? = some x, fun i H v H' => ∃ T x, v = .ref T ∧ H T = none ∧ H' = upd H T (.tup [.int (i : Nat), x]) ∧ ∀ xs, SqT K H a xs → xs[i]? = some x, fun i H => ∃ xs : List V, SqT K H a xs ∧ xs.length ≤ i⟩
theorem enumT_end {prog : Program} {w : World} {A : Around} {E : Value → Shared → Prop} {s : Shared} {e it t : Addr} {i : Nat} {k : Int} {items : Array Value} {old : Value} {Q : Option Value → Shared → Prop} (hh : A.in1.handled = none)
    (he : IsEnum s.heap e it k old) (hit : s.heap.IsTupleIter it t i) (ht : s.heap.IsTuple t items) (hx : items[i]? = none) (hQ : ∀ h', Heap.ExtBut it s.heap h' → Q none { s with heap := h' }) : wpAny (model prog w) A (pyNext (.ref e)) Q E s := by
  have hT : s.TypeIs (.ref e) "enumerate" := ⟨_, he, rfl⟩
  unfold pyNext
  refine wpAny_bind (wpAny_attempt (wpAny_callSpecial?_slot (name := Str.ofString "__next__") hT F.slot_enumerate_next
    (wpAny_call_entry F.slot_enumerate_next hT F.entry_enumerate_next ?_ (F.args_enumerate_next_1 _))))
  show wpAny _ _ (field (.ref e) 2 >>= _) _ _ _
  refine wpAny_bind (wpAny_field he rfl (x := .ref it) rfl ?_)
  refine wpAny_bind (wpAny_nextOf_tuple_end hh hit ht hx fun h' x he' hx' => ?_)
  obtain ⟨o, ho, hc⟩ := hx'
  refine wpAny_bind (wpAny_isInstance (T := "StopIteration") (b := true) ⟨o, ho, hc⟩ isSubtype_stop ?_)
  exact wpAny_pure (hQ _ he')
theorem turn_enumT {P : Program} {w : World} {K : PySem.W.Frag} {elts : List Expr} {kk : Nat} {tpos : Pos} (a e it : Addr) :
    Turn P w K (.Tuple elts kk tpos) (Itet K a) [e, it] e (fun i h => (∃ old, IsEnum h e it ((i : Nat) : Int) old) ∧ h.IsTupleIter it a i ∧ e ≠ it ∧ a ≠ it ∧ e ≠ a) where
  mem := by simp
  obj := fun i h st b hb => by
    obtain ⟨⟨old, he⟩, ⟨o, ho, hc, hd⟩, _⟩ := st
    have e' : b = e ∨ b = it := by simpa using hb
    rcases e' with z | z
    · rw [z]; exact ⟨_, he, fun v q => nomatch q⟩
    · rw [z]; exact ⟨o, ho, fun v q => by rw [hd] at q; cases q⟩
  keep := fun i h h' st k => let ⟨⟨old, he⟩, hi, hne⟩ := st; ⟨⟨old, k e (by simp) _ he⟩, hi.at fun o q => k it (by simp) o q, hne⟩
  item := by
    intro X hP hw hK hc i pins s σ H E I hf st hg
    subst hP hw hK
    obtain ⟨⟨old, he⟩, hit, hne, hai, hea⟩ := st
    obtain ⟨xs, x, hq, hx⟩ := hg
    obtain ⟨its, rv, p, hz⟩ := I.tuple hq
    obtain ⟨u, hu, ru⟩ := rv.get hx
    have hel : e < s.heap.objs.size := Heap.lt_size he
    have hil : it < s.heap.objs.size := by obtain ⟨_, q, _⟩ := hit; exact Heap.lt_size q
    have hisz : i < its.toArray.size := by
      have := (List.getElem?_eq_some_iff.mp hu).1
      simpa using this
    have D : Draws X.prog X.w X.A.in1 it [it, a] its.toArray.size (fun i v => its.toArray[i]? = some v) (fun i h => h.IsTupleIter it a i ∧ h.IsTuple a its.toArray) := Draws.tuple (A := X.A.in1) (show X.A.in1.handled = none from I.ok.hd hc) it a hai its.toArray
    refine wpAny_pyNext_enum_itemD D he ⟨hit, p⟩ hisz hne (by simp [hne, hea]) fun x' h' tk hx' ho hit' hT hsz hk => ?_
    have exu : x' = u := by
      have : its.toArray[i]? = some x' := hx'
      have h2 : its[i]? = some x' := by simpa using this
      rw [hu] at h2
      exact (Option.some.inj h2).symm
    subst exu
    refine ⟨_, rfl, wpAny_letOwnedTupleGo_enum (s := { s with heap := h', toks := tk + 1 }) ho fun h'' he' sb => ?_⟩
    have hT2 : h''.get? s.heap.objs.size = some { cls := .type "tuple", data := .seq #[.int i tk, x'] } := (sb.2 _ (Nat.ne_of_gt hel)).trans hT
    have new : ObjOk X.prog X.w (upd H s.heap.objs.size (.tup [.int (i : Nat), x])) h'' s.heap.objs.size (.tup [.int (i : Nat), x]) :=
      ⟨by show 2 ≤ sizeLine; decide, [.int i tk, x'], .cons ⟨_, rfl⟩ (.cons ru .nil), ⟨_, hT2, rfl, _, rfl⟩⟩
    have I1 : Inv X pins σ (upd H s.heap.objs.size (.tup [.int (i : Nat), x])) { s with heap := h'', toks := tk + 1 } :=
      I.turnedNew (ch := [e, it]) (fun b ob hb q => (sb.2 b (fun z => hb (by simp [z]))).trans (hk b ob (fun z => hb (by simp [z])) (fun z => hb (by simp [z])) q)) hf (Nat.le_refl _) new
    refine ⟨.ref s.heap.objs.size, _, I1, rfl, ⟨_, x, rfl, I.hok.fresh (Nat.le_refl _), rfl, fun ys hy => by rw [I.tuple_inj hy hq]; exact hx⟩, ⟨⟨x', ?_⟩, hit'.1.at fun o q => (sb.2 it (Ne.symm hne)).trans q, hne, hai, hea⟩, fun b hb => ?_⟩
    · have e1 : ((i + 1 : Nat) : Int) = (i : Int) + 1 := by omega
      rw [e1]; exact he'
    · have hb' : b < s.heap.objs.size := by
        have e' : b = e ∨ b = it := by simpa using hb
        rcases e' with z | z
        · rw [z]; exact hel
        · rw [z]; exact hil
      rw [upd_ne (Nat.ne_of_lt hb')]
      exact (hf b hb).1
  done := by
    intro X hP hw hK hc i pins s σ H E I hf st hg
    subst hP hw hK
    obtain ⟨⟨old, he⟩, hit, hne, hai, hea⟩ := st
    obtain ⟨xs, hq, hx⟩ := hg
    obtain ⟨its, rv, p, hz⟩ := I.tuple hq
    obtain ⟨f0, f1, f2, f3, f4, f5⟩ := hf it (by simp)
    have hl := rv.length
    exact enumT_end (I.ok.hd hc) he hit p (by simp; omega) fun h' eb => ⟨rfl, I.turned (t' := s.toks) (fun b o hb e => eb b o hb e) f0 f1 f3 f4 f5⟩
  self := fun A i s Q E st h => let ⟨⟨_, he⟩, _⟩ := st; wpAny_pyIter_enum he h
def iEnumT (K : PySem.W.Frag) (ta : TA) : TI := fun σ H R => ta σ H fun vs H1 => ∃ a xs, vs = [.ref a] ∧ SqT K H1 a xs ∧ R (Itet K a) H1
theorem pi_enumT {X : Cx} {e : Expr} {ta : TA} {p pos tpos : Pos} {elts : List Expr} {kk : Nat} (hg : Gl X "enumerate") (hm : X.mg "enumerate" = none) (ha : PA X [e] ta) (hs : starEach [e] X.env = [(false, eval e X.env)] := by rfl) :
    PI X (.Tuple elts kk tpos) (.Call (.Name "enumerate" p) [e] [] pos) (iEnumT X.K ta) := by
  refine ⟨fun pins s σ H R I h => ?_⟩
  refine Call_ (ld_blt I hg hm boot_enumerate (PyProof.Rows.callWith_type1 (thn (ha.run pos pins s σ H _ I h) fun us s1 ⟨vs, H1, I1, r1, q1⟩ => ?_) hs rfl))
  obtain ⟨a, xs, ex, hq, q⟩ := q1
  subst ex
  cases r1 with
  | cons r rr =>
    cases rr
    cases r
    obtain ⟨its, rv, p', hz⟩ := I1.tuple hq
    have hal : a < s1.heap.objs.size := by
      obtain ⟨o, ho, _⟩ := id p'
      exact Heap.lt_size ho
    refine call_enumerate_tuple p' fun h' he hit hsz hk => wpAny_pyIter_enum he ?_
    have I2 : Inv X pins σ H1 { s1 with heap := h' } := I1.kept (t' := s1.toks) hk
    refine ⟨s1.heap.objs.size + 1, [s1.heap.objs.size + 1, s1.heap.objs.size], _, _, H1, rfl, I2, turn_enumT a (s1.heap.objs.size + 1) s1.heap.objs.size, ⟨⟨.none, he⟩, hit, Nat.succ_ne_self _, Nat.ne_of_lt hal, Nat.ne_of_gt (Nat.lt_succ_of_lt hal)⟩, fun b hb => ?_, q⟩
    have e' : b = s1.heap.objs.size + 1 ∨ b = s1.heap.objs.size := by simpa using hb
    have hle : s1.heap.objs.size ≤ b := by
      rcases e' with z | z
      · rw [z]; exact Nat.le_add_right _ _
      · rw [z]; exact Nat.le_refl _
    exact I1.fpOk hle (I1.hok.fresh hle)
/-- for k, x in enumerate(l) -/
theorem for_enum {K : PySem.W.Frag} {ta : TA} {c1 c2 : Nat} {tb : TS} {D : Ends} {σ : L2.St} {H H0 : Hp} {a : Addr} (xs : List V) (hta : ∀ R : List V → Hp → Prop, R [.ref a] H0 → ta σ H R) (Pv : Nat → L2.St → Hp → Prop)
    (hp : Pv 0 σ H0) (hl : ∀ i σ' H', i ≤ xs.length → Pv i σ' H' → SqL K H' a xs)
    (hs : ∀ i x σ' H' T, xs[i]? = some x → Pv i σ' H' → H' T = none → tb { D with nx := Pv (i + 1), ct := Pv (i + 1), bk := D.nx } ((σ'.set c1 (some (.int (i : Nat)))).set c2 (some x)) (upd H' T (.tup [.int (i : Nat), x])))
    (hd : ∀ σ' H', Pv xs.length σ' H' → D.nx σ' H') : tFor (iEnum K ta) (gTup K 2 (gCons (gName c1) (gCons (gName c2) gNil))) tb D σ H := by
  refine hta _ ⟨a, xs, rfl, hl 0 σ H0 (Nat.zero_le _) hp, ?_⟩
  refine ⟨fun i m σ' H' => m = xs.length - i ∧ i ≤ xs.length ∧ Pv i σ' H', ⟨_, rfl, Nat.zero_le _, hp⟩, ?_⟩
  rintro i m σ' H' ⟨rfl, hi, p⟩
  have q := hl i σ' H' hi p
  by_cases hlt : i < xs.length
  · refine .inr ⟨⟨xs, xs[i], q, by simp [hlt]⟩, Pv (i + 1), fun σ2 H2 p' => ⟨xs.length - (i + 1), by omega, rfl, hlt, p'⟩, fun x H2 y => ?_⟩
    obtain ⟨T, x', rfl, hT, rfl, hx⟩ := y
    have hx' := hx xs q
    refine ⟨T, [.int (i : Nat), x'], rfl, .inl (.inl upd_same), rfl, ?_⟩
    exact ⟨_, _, rfl, _, _, rfl, rfl, hs i x' σ' H' T hx' p hT⟩
  · have e : i = xs.length := by omega
    subst e
    exact .inl ⟨⟨xs, q, Nat.le_refl _⟩, hd σ' H' p⟩
theorem for_enumT {K : PySem.W.Frag} {ta : TA} {c1 c2 : Nat} {tb : TS} {D : Ends} {σ : L2.St} {H H0 : Hp} {a : Addr} (xs : List V) (hta : ∀ R : List V → Hp → Prop, R [.ref a] H0 → ta σ H R) (Pv : Nat → L2.St → Hp → Prop)
    (hp : Pv 0 σ H0) (hl : ∀ i σ' H', i ≤ xs.length → Pv i σ' H' → SqT K H' a xs)
    (hs : ∀ i x σ' H' T, xs[i]? = some x → Pv i σ' H' → H' T = none → tb { D with nx := Pv (i + 1), ct := Pv (i + 1), bk := D.nx } ((σ'.set c1 (some (.int (i : Nat)))).set c2 (some x)) (upd H' T (.tup [.int (i : Nat), x])))
    (hd : ∀ σ' H', Pv xs.length σ' H' → D.nx σ' H') : tFor (iEnumT K ta) (gTup K 2 (gCons (gName c1) (gCons (gName c2) gNil))) tb D σ H := by
  refine hta _ ⟨a, xs, rfl, hl 0 σ H0 (Nat.zero_le _) hp, ?_⟩
  refine ⟨fun i m σ' H' => m = xs.length - i ∧ i ≤ xs.length ∧ Pv i σ' H', ⟨_, rfl, Nat.zero_le _, hp⟩, ?_⟩
  rintro i m σ' H' ⟨rfl, hi, p⟩
  have q := hl i σ' H' hi p
  by_cases hlt : i < xs.length
  · refine .inr ⟨⟨xs, xs[i], q, by simp [hlt]⟩, Pv (i + 1), fun σ2 H2 p' => ⟨xs.length - (i + 1), by omega, rfl, hlt, p'⟩, fun x H2 y => ?_⟩
    obtain ⟨T, x', rfl, hT, rfl, hx⟩ := y
    have hx' := hx xs q
    refine ⟨T, [.int (i : Nat), x'], rfl, .inl (.inl upd_same), rfl, ?_⟩
    exact ⟨_, _, rfl, _, _, rfl, rfl, hs i x' σ' H' T hx' p hT⟩
  · have e : i = xs.length := by omega
    subst e
    exact .inl ⟨⟨xs, q, Nat.le_refl _⟩, hd σ' H' p⟩

/-! ### several except clauses that name what they catch -/
def wManyAs (K : PySem.W.Frag) (Wout : WX) (D : Ends) : List (Value × Nat × (Addr → Value → Option Addr → TS)) → WX
  | [] => Wout
  | (c, i, ts) :: r => wAs K c i ts (wManyAs K Wout D r) D
inductive HdsAs (X : Cx) : List ExceptHandler → List (Value × Nat × (Addr → Value → Option Addr → TS)) → Prop
  | nil : HdsAs X [] []
  | cons {x n : Str} {c : Value} {i : Nat} {ts : Addr → Value → Option Addr → TS} {b₀ : Stmt} {suite : List Stmt} {np pos' : Pos} {hds : List ExceptHandler} {l : List (Value × Nat × (Addr → Value → Option Addr → TS))}
      (hi : X.N[i]? = some n) (hln : X.env.kindOf n = some .local) (hc : Names X x c)
      (hsu : ∀ (a : Addr) (oe : Obj) (cls : Value) (d : Option Addr) (pn : List (Addr × Obj)), L2N.Zn cls d oe → (∃ vs, oe.data = .fields vs) → PSs (X.suite a ((a, oe) :: pn)) (b₀ :: suite) (ts a cls d)) (r : HdsAs X hds l) :
      HdsAs X (.ExceptHandler (some (.Name x np)) (some n) (b₀ :: suite) pos' :: hds) ((c, i, ts) :: l)
section
variable {X : Cx} {body : List Stmt} {h₀ : ExceptHandler} {hds : List ExceptHandler} {l : List (Value × Nat × (Addr → Value → Option Addr → TS))} {pos : Pos} {tb : WX → TS} {Wout : WX}
theorem ps_try_manyAs (hs : X.stack = X.env :: X.outer) (hf : X.env.frame = some X.env.locals) (hN : X.N.Nodup) (tk : L2N.Takes X Wout)
    (hb : ∀ (W : WX) (pn : List (Addr × Obj)) (xe : Value → Shared → Prop), L2N.Takes (X.tr pn xe) W → PassesOwn (model X.prog X.w) X.A X.env xe → PSs (X.tr pn xe) body (tb W))
    (hh : HdsAs X (h₀ :: hds) l) : PS X (.Try body (h₀ :: hds) [] [] pos) (fun D σ H => tb (wManyAs X.K Wout D l) D σ H) := by
  refine ⟨fun pins s σ H D I h => ?_⟩
  have ok := I.ok
  have hfr : X.A.frames = some (X.env :: X.outer) := by rw [ok.frames, hs]
  refine wpAny_Try_except ?_
  refine wpAny_mono ((hb (wManyAs X.K Wout D l) (X.pn ++ pins) (fun e s₁ => wpAny (model X.prog X.w) X.A (noteFrame e X.env) (fun _ s₂ => wpAny (model X.prog X.w) X.A (setFlight e none) (fun _ s₃ =>
    wpAny (model X.prog X.w) X.A (handleBy e X.env (h₀ :: hds)) (SP X pins D) X.xe s₃) X.xe s₂) X.xe s₁) (fun u s' xx => ?_) PassesOwn.looking).run [] s σ H D (I.toTry _) h) (fun f s1 hsp => ?_) (fun e s1 he => he)
  · obtain ⟨a, B, sI, pins', σ', H', cls, d, rfl, J', nb, up, sky, na, os, ag, w⟩ := xx
    have J : Inv X pins σ' H' sI := J'.ofTry ok
    have sky' : L2.Sky B (X.env :: X.outer) a (L2N.Zn cls d) X.env.locals s'.heap := by rw [← hs]; exact sky
    show wpAny (model X.prog X.w) X.A (noteFrame (.ref a) X.env) _ _ _
    refine L2N.Sky.land L2N.Zn.steady hfr hf sky' fun h3 fl3 up3 => ?_
    have J3 : Inv X pins σ' H' { s' with heap := h3 } := J.landed nb fl3.1 (up.trans up3) os ag
    obtain ⟨oe3, vs3, he3, hz3, hd3⟩ := fl3.there
    have notFr : ∀ {h : Heap} {o : Obj} {vs : Array Value}, h.FunFrames B (X.env :: X.outer) → h.get? a = some o → o.data = .fields vs → a ∉ frs (X.env :: X.outer) := fun {h o vs} ff e dd hm => by
      obtain ⟨_, o', e', hnf⟩ := ff.mem hm
      rw [e] at e'; cases e'
      exact hnf _ dd
    have nfr := notFr fl3.2.2.1 he3 hd3
    have nL : a ≠ X.env.locals := fun z => nfr (List.mem_filterMap.mpr ⟨X.env, List.mem_cons_self, by rw [hf, z]⟩)
    have nF : a ∉ X.fs := fun hm => by
      obtain ⟨e, he, q⟩ := List.mem_filterMap.mp hm
      exact nfr (List.mem_filterMap.mpr ⟨e, List.mem_cons_of_mem _ he, q⟩)
    have S3 := J3.suite he3 hd3 na nL nF
    have LT : PySem.W.Looks (model X.prog X.w) h3 (typeOf (.ref a)) cls := fun A Q E s k q => wpAny_typeOf_ref (k _ _ he3) (by rw [hz3.1]; exact q)
    have go : ∀ {hds' : List ExceptHandler} {l' : List (Value × Nat × (Addr → Value → Option Addr → TS))}, HdsAs X hds' l' → wManyAs X.K Wout D l' cls d σ' H' →
        wpAny (model X.prog X.w) X.A (handleBy (.ref a) X.env hds') (SP X pins D) X.xe { s' with heap := h3 } := by
      intro hds' l' hk
      induction hk with
      | nil =>
        intro w
        refine wpAny_handleBy_nil ?_
        obtain ⟨k1, k2, k3, oe, vs, T, oT, ts', he, hz, hd, h1, hr⟩ := id fl3
        unfold PySem.passOn
        refine wpAny_bind (wpAny_field he hd h1 ?_)
        rw [if_neg (show ¬ ((Value.ref T == Value.none) = true) from by simp)]
        have fin : wpAny (model X.prog X.w) X.A (setFlight (.ref a) X.env.frame) (fun _ s4 => wpAny (model X.prog X.w) X.A (throw (.ref a) : Sem Flow) (SP X pins D) X.xe s4) X.xe { s' with heap := h3 } := by
          rw [hf]
          refine HandSPX.setFlight_upZ fl3 fun h4 hh4 up4 => wpAny_throw (tk _ _ ?_)
          exact ⟨a, B, sI, pins, σ', H', cls, d, rfl, J, nb, (up.trans up3).trans up4, .inr (.inr (by rw [hs]; exact hh4)), na, os, ag, w⟩
        first
          | exact wpAny_bind (wpAny_pure (wpAny_bind fin))
          | exact wpAny_bind fin
      | @cons x n c i ts b₀ suite np pos' hds2 l2 hi hln hc hsu r ih =>
        intro w
        obtain ⟨b, hb1, hyes, hno⟩ := w
        have hloc : Loc X.env.scope n := .inl hln
        refine wpAny_handleBy_cons (codeAny_handlers_test ?_) (by intro q; cases q)
        have LM := PySem.W.exm_one (M := model X.prog X.w) (J3.kIn) LT hb1
        have test : ∀ {Q : Value → Shared → Prop} {E : Value → Shared → Prop}, Q c { s' with heap := h3 } → wpAny (model X.prog X.w) (X.A.mark (some (.ref a))) (eval (.Name x np) X.env) Q E { s' with heap := h3 } := fun {Q E} q => by
          obtain ⟨hg, hdbg, hm | ⟨hm, hv, hnn⟩⟩ := hc
          · exact ld_glob (X := X.suite a ((a, oe3) :: (X.pn ++ pins))) S3 hg hm q hdbg
          · exact ld_blt (X := X.suite a ((a, oe3) :: (X.pn ++ pins))) S3 hg hm hv q hnn hdbg
        refine test (LM.here ?_)
        cases b with
        | true =>
          refine codeAny_handlers_suite_as ?_
          refine HandSPX.lands_againZ fl3 fun h4 fl4 up4 => ?_
          have J4 : Inv X pins σ' H' { s' with heap := h4 } := J.landed nb fl4.1 ((up.trans up3).trans up4) os ag
          obtain ⟨oe4, vs4, he4, hz4, hd4⟩ := fl4.there
          have S4 := J4.suite he4 hd4 na nL nF
          refine store_ok (X := X.suite a ((a, oe4) :: (X.pn ++ pins))) (v := .ref a) S4 hN hi hloc rfl (fun s5 S5 => ?_) (.inr hln)
          refine wpAny_mono ((hsu a oe4 cls d (X.pn ++ pins) hz4 ⟨_, hd4⟩).run [] s5 _ H' _ S5 (hyes rfl a na)) (fun f s6 hsp => ?_) (fun _ _ z => False.elim z)
          have end_ : ∀ {σ6 : L2.St} {H6 : Hp} {Q : Shared → Prop}, Inv (X.suite a ((a, oe4) :: (X.pn ++ pins))) [] σ6 H6 s6 → (∀ s7, Inv X pins (σ6.set i none) H6 s7 → Q s7) →
              wpAny (model X.prog X.w) X.A (do bindName X.env n .none; unbindBehindTheSuite X.env n pos') (fun _ s7 => Q s7) X.xe s6 := fun {σ6 H6 Q} S6 hq => gone_ok (S6.unsuite ok) hN hi hln hq
          cases f with
          | next =>
            obtain ⟨σ6, H6, S6, q6⟩ := hsp
            exact end_ S6 fun s7 J7 => ⟨_, _, J7, q6⟩
          | brk =>
            obtain ⟨σ6, H6, S6, q6⟩ := hsp
            exact end_ S6 fun s7 J7 => ⟨_, _, J7, q6⟩
          | cont =>
            obtain ⟨σ6, H6, S6, q6⟩ := hsp
            exact end_ S6 fun s7 J7 => ⟨_, _, J7, q6⟩
          | ret u =>
            obtain ⟨v6, σ6, H6, S6, r6, q6⟩ := hsp
            exact end_ S6 fun s7 J7 => ⟨_, _, _, J7, r6, q6⟩
        | false =>
          show wpAny _ X.A (handleBy (.ref a) X.env hds2) _ _ _
          exact ih (hno rfl)
    exact go hh w
  · cases f with
    | next =>
      obtain ⟨σ', H', J', q⟩ := hsp
      exact wpAny_execs_nil ⟨σ', H', J'.ofTry ok, q⟩
    | brk =>
      obtain ⟨σ', H', J', q⟩ := hsp
      exact ⟨σ', H', J'.ofTry ok, q⟩
    | cont =>
      obtain ⟨σ', H', J', q⟩ := hsp
      exact ⟨σ', H', J'.ofTry ok, q⟩
    | ret u =>
      obtain ⟨v, σ', H', J', r, q⟩ := hsp
      exact ⟨v, σ', H', J'.ofTry ok, r, q⟩
end

/-- never called where the law leads -/
def spVoid : Sp := fun _ _ _ _ => False
theorem okV {P : Program} {w : World} {K : PySem.W.Frag} {mg : Str → Option Value} {base : Heap} {f : Addr} {fd : FuncData} {ps : List Str} : FnOk P w K mg base CX0 1 f fd ps spVoid :=
  ⟨fun _ _ _ _ h => h.elim, fun _ _ _ _ _ _ _ _ _ _ _ _ _ h => h.elim⟩
section
variable {X : Cx} {CX : CXT} {k : Nat} {f C : Addr} {fd : FuncData} {ps : List Str} {sp : Sp} {dvs : List V} {ds : List Value} {E : L2.St → XK} {x : Str} {p pos : Pos} {e : Expr} {es : List Expr} {t : TA}
/-- C(e, ..) whose __init__ may raise, told at the slots of the caller -/
def tMakeS (C : Addr) (sp : Sp) (E : L2.St → XK) (t : TA) : TE := fun σ H Q => t σ H fun vs H1 => ∀ x dx, H1 x = none → H1 dx = none → dx ≠ x → sp (.ref x :: vs) (upd (upd H1 dx (.own x)) x (.ins C dx [])) (fun v H2 => v = .non ∧ Q (.ref x) H2) (E σ)
theorem pe_makeS (M : Mk X.K C f) (F : FnOk X.prog X.w X.K X.mg X.base CX k f fd ps sp) (hr : Room (k + 1) X.A) (hg : Gl X x) (hm : X.mg x = some (.ref C)) (hb : Binds X.K fd ps []) (hx : ∀ σ, PassesAt CX X σ (E σ))
    (ha : PA X (e :: es) t) (hdb : (x == ("__debug__" : Str)) = false := by decide) (he : starEach (e :: es) X.env = (false, eval e X.env) :: starEach es X.env := by rfl) (hpl : (backTo pos (starEach es X.env)).any (·.1) = false := by rfl) :
    PE X (.Call (.Name x p) (e :: es) [] pos) (tMakeS C sp E t) := by
  refine ⟨fun pins s σ H Q I h => wpAny_Call_Name_kw (ld_glob I hg hm ?_ hdb)⟩
  refine PySem.W.callWith_K (h₀ := X.base) I.ok.mod.kin M.kp (thn (ha.run pos pins s σ H _ I h) fun us s1 ⟨vs, H1, I1, r, q⟩ => ⟨I1.kIn, ?_⟩) he hpl
  have n0 : H1 s1.heap.objs.size = none := I1.hok.fresh (Nat.le_refl _)
  have n1 : H1 (s1.heap.objs.size + 1) = none := I1.hok.fresh (Nat.le_succ _)
  have hq := q _ _ n1 n0 (Nat.ne_of_lt (Nat.lt_succ_self _))
  have I2 := Inv.made (C := C) I1
  have r2 : Vals (V.ref (s1.heap.objs.size + 1) :: vs) (Value.ref (s1.heap.objs.size + 1) :: us) := .cons rfl r
  have b := hb _ (Value.ref (s1.heap.objs.size + 1) :: us) I2.kIn (by rw [List.append_nil, ← r2.length]; exact F.len _ _ _ _ hq)
  rw [List.append_nil] at b
  show wpAny (model X.prog X.w) X.A (call (.ref C) us) (EP X pins σ Q) X.xe s1
  refine wpAny_call (make_map (f := f) I1.kIn M.makes M.init (beq_iff_eq.mp M.fn) (codeAny_mono (F.run _ X.stack _ _ ⟨Value.ref (s1.heap.objs.size + 1) :: us, []⟩ _ _ _ (E σ) (hr.make C us []) (I2.env0.make C us []) b r2 hq) fun r s' hq' => ?_))
  cases r with
  | error e => exact hx σ pins _ _ e s' I2 hq'
  | ok fl =>
    cases fl with
    | ret u =>
      obtain ⟨v, H', I3, rv, ev, q3⟩ := I2.after hq'
      subst ev
      exact ⟨rv, ⟨V.ref (s1.heap.objs.size + 1), H', I3, rfl, q3⟩⟩
    | next => exact hq'.elim
    | brk => exact hq'.elim
    | cont => exact hq'.elim
end
section
variable {X : Cx} {o : Expr} {p pos apos mpos : Pos} {td : TE}
/-- max(d.values()): whole numbers, one at least -/
def tMaxVals (td : TE) : TE := fun σ H Q => td σ H fun x H1 => ∃ a kvs is, x = V.ref a ∧ H1 a = some (.dK kvs) ∧ kvs.map (·.2) = is.map V.int ∧ is ≠ [] ∧ ∀ m, m ∈ is → (∀ j ∈ is, j ≤ m) → Q (.int m) H1
theorem pe_maxVals (hc : X.calm = true) (hg : Gl X "max") (hm : X.mg "max" = none) (hd : PE X o td) (hbase : attributeBase o "values" X.env (eval o X.env) = eval o X.env := by rfl) (hline : (apos.endLine == mpos.line) = true := by rfl)
    (hse : starEach [Expr.Call (.Attribute o "values" apos) [] [] mpos] X.env = [(false, eval (Expr.Call (.Attribute o "values" apos) [] [] mpos) X.env)] := by rfl) :
    PE X (.Call (.Name "max" p) [.Call (.Attribute o "values" apos) [] [] mpos] [] pos) (tMaxVals td) := by
  refine ⟨fun pins s σ H Q I h => wpAny_Call_Name_kw (ld_blt I hg hm (u := .builtin "max") (by first | rfl | decide +kernel) ?_ (by first | decide +kernel | decide) (by first | decide +kernel | decide))⟩
  rw [hse]
  refine PySem.callWith_builtin1 (wpAny_Call_method0_late hbase hline (thn (hd.run pins s σ H _ I h) fun v s1 ⟨x, H1, I1, r1, a, kvs, is, ex, ha, hv, hne, q⟩ => ?_))
  subst ex
  cases r1
  obtain ⟨_, hsys, vs, rel, dof⟩ := dk_of I1.hok ha
  obtain ⟨ep, dat⟩ := dof.dictAt
  obtain ⟨ob, es, ho, ex, hrest⟩ := id dat
  refine ⟨"dict", "dict.values", F.plainAttrs_dict, F.slot_dict_values, F.type_dict_values, ⟨ob, ho, ex.1⟩, fun b e => by cases e; exact ⟨ob, ho, ex.2.1⟩, Calls.callWith_builtin rfl (PySem.evalArgs_none ?_)⟩
  refine call_meetsIn F.slot_dict_values ⟨ob, ho, ex.1⟩ F.entry_dict_values (F.args_dict_values_1 _) (meets_dict_values (mixKind X.prog X.w) a hsys) ⟨⟨vs, dof⟩, ?_⟩
  have old : ∀ b u, s1.heap.get? b = some u → (s1.heap.push { cls := .type "dict_values", data := .fields #[.ref a] }).get? b = some u := fun b u e => Heap.get?_push_of_some _ e
  have hsz : (s1.heap.push { cls := .type "dict_values", data := .fields #[.ref a] }).objs.size = s1.heap.objs.size + 1 := Heap.size_push _ _
  have hlt : a < s1.heap.objs.size := Heap.lt_size ho
  have hlv : vs.length = is.length := by
    have e1 := congrArg List.length hv
    rw [List.length_map, List.length_map] at e1
    rw [← e1]
    exact (KV.length rel).symm
  have hlen : 0 < vs.length := by
    rw [hlv]
    exact List.length_pos_iff.mpr hne
  have hval : ∀ (i : Nat) (v : Value), (∃ k, vs[i]? = some (k, v)) → ∃ t, v = Value.int (is.getD i 0) t := fun i v ⟨k, hk⟩ => by
    obtain ⟨x, h1, h2⟩ := KV.at' rel hk
    have e1 : (kvs.map (·.2))[i]? = some x := by rw [List.getElem?_map, h1]; rfl
    rw [hv, List.getElem?_map] at e1
    obtain ⟨j, hj, rfl⟩ := Option.map_eq_some_iff.mp e1
    obtain ⟨t, e3⟩ := h2
    exact ⟨t, by rw [e3, List.getD_eq_getElem?_getD, hj]; rfl⟩
  refine call_max_walk (wpAny_pyIter_values (v := s1.heap.objs.size) (d := a) ⟨_, Heap.get?_push_size _ rfl, rfl, rfl⟩ (dat.keep old) ?_)
  refine ⟨_, _, _, _, _, _, _, rfl, Walks.dictValues (knd := mixKind X.prog X.w) (A := X.A.in1) (I.ok.hd hc) (s1.heap.push { cls := .type "dict_values", data := .fields #[.ref a] }).objs.size a (by rw [hsz]; exact Nat.ne_of_lt (Nat.lt_succ_of_lt hlt)) vs ep,
    ⟨⟨_, Heap.get?_push_size _ rfl, rfl, rfl⟩, (dat.keep old).keep fun b u e => Heap.get?_push_of_some _ e⟩, fun b hb => ?_, hlen, CmpOf.ints_gt (fun i => is.getD i 0) hval, fun v h' tk hP hk => ?_⟩
  · show b < ((s1.heap.push _).push _).objs.size
    rw [Heap.size_push, Heap.size_push]
    rw [hsz] at hb
    rcases List.mem_cons.mp hb with e | hb
    · rw [e]
      exact Nat.lt_succ_self _
    · have e : b = a := List.mem_singleton.mp hb
      rw [e]
      exact Nat.lt_succ_of_lt (Nat.lt_succ_of_lt hlt)
  · obtain ⟨t, rfl⟩ := hval _ v hP
    obtain ⟨b1, b2⟩ := argBest_gt (fun i => is.getD i 0) (vs.length - 1)
    refine ⟨.int _, H1, I1.kept (t' := tk) fun b u e => hk b u (fun hmem => ?_) (Heap.get?_push_of_some _ (old b u e)), ⟨t, rfl⟩, q _ ?_ fun j hj => ?_⟩
    · have e1 := List.mem_singleton.mp hmem
      have e2 := Heap.lt_size e
      rw [hsz] at e1
      rw [e1] at e2
      exact absurd e2 (Nat.not_lt.mpr (Nat.le_succ _))
    · have hb : argBest (fun i j => decide (is.getD i 0 > is.getD j 0)) (vs.length - 1) < is.length := by
        rw [← hlv]
        exact Nat.lt_of_le_of_lt b1 (Nat.sub_lt hlen Nat.one_pos)
      rw [List.getD_eq_getElem?_getD, List.getElem?_eq_getElem hb]
      exact List.getElem_mem hb
    · obtain ⟨i, hi, e⟩ := List.mem_iff_getElem.mp hj
      have e2 : is.getD i 0 = j := by rw [List.getD_eq_getElem?_getD, List.getElem?_eq_getElem hi, ← e]; rfl
      rw [← e2]
      exact b2 i (Nat.le_sub_one_of_lt (by rw [hlv]; exact hi))
end
theorem sm_refl {H : Hp} : Same H H := fun _ _ h => h
theorem sm_trans {H1 H2 H3 : Hp} (a : Same H1 H2) (b : Same H2 H3) : Same H1 H3 := fun _ _ h => b _ _ (a _ _ h)
theorem sm_upd {H H' : Hp} {p : Addr} {o : HO} (s : Same H H') (h : H p = none) : Same H (upd H' p o) := fun b x e => by
  by_cases hb : p = b
  · subst hb
    rw [h] at e
    cases e
  · rw [upd_ne (fun z => hb z.symm)]
    exact s b x e
theorem no_of {H H' : Hp} (s : Same H H') {p : Addr} (h : H' p = none) : H p = none := by
  cases q : H p with
  | none => rfl
  | some o =>
    rw [s _ _ q] at h
    cases h
theorem nodup_inl : ∀ {xs : List Int}, xs.Nodup → (xs.map (Sum.inl : Int → Key)).Nodup
  | [], _ => List.Pairwise.nil
  | x :: xs, h => by
    obtain ⟨h1, h2⟩ := List.nodup_cons.mp h
    exact List.nodup_cons.mpr ⟨fun m => by
      obtain ⟨y, hy, e⟩ := List.mem_map.mp m
      cases e
      exact h1 hy, nodup_inl h2⟩
theorem for_frzC {i : Nat} {g : TG} {tb : TS} {D : Ends} {σ : L2.St} {H : Hp} {d : Addr} {u : HO} (hv : σ[i]? = some (some (.ref d))) (hd : H d = some u) (mu : Mut (some u)) (h : ∀ od, tFor (iKeys fun _ H Q => Q (.ref d) H) g tb D σ (upd H d (.frz od u))) : tFor (iKeys (tFrz (tVar i))) g tb D σ H :=
  ⟨_, hv, d, rfl, .inl ⟨u, hd, mu, fun od => h od⟩⟩
theorem _root_.L2.SqT.same {K : PySem.W.Frag} {H H' : Hp} {a : Addr} {xs : List V} (h : SqT K H a xs) (s : Same H H') : SqT K H' a xs := by
  rcases h with h | h
  · refine .inl ?_
    unfold Rd at h ⊢
    rcases h with h | ⟨o, h⟩
    · exact .inl (s _ _ h)
    · exact .inr ⟨o, s _ _ h⟩
  · exact .inr h
theorem for_tupT {K : PySem.W.Frag} {a : Addr} {tl : TE} {g : TG} {tb : TS} {D : Ends} {σ : L2.St} {H : Hp} (xs : List V) (htl : ∀ R : V → Hp → Prop, (∀ H1, Same H H1 → R (.ref a) H1) → tl σ H R) (Pv : Nat → L2.St → Hp → Prop) (h0 : ∀ H1, Same H H1 → Pv 0 σ H1) (hl : ∀ i σ H, Pv i σ H → SqT K H a xs)
    (hs : ∀ i x σ H, xs[i]? = some x → Pv i σ H → g x σ H fun σ2 H2 => tb { D with nx := Pv (i + 1), ct := Pv (i + 1), bk := D.nx } σ2 H2) (hd : ∀ σ H, Pv xs.length σ H → D.nx σ H) : tFor (iTup K tl) g tb D σ H :=
  htl _ fun H1 s1 => ⟨a, rfl, ⟨xs, hl 0 _ _ (h0 H1 s1)⟩, for_tup (xs := xs) Pv (h0 H1 s1) (fun i σ H _ => hl i σ H) hs hd⟩
theorem ix_tupK {X : Cx} {K : PySem.W.Frag} (e : X.K = K) : IxR X (rIxT K) := by
  subst e
  exact ix_tup
theorem lc_lstA {K : PySem.W.Frag} {tl : TE} {te : TE} {c : Nat} {σ : L2.St} {H : Hp} {Q : VK} {a : Addr} (xs : List V) (htl : ∀ R : V → Hp → Prop, R (.ref a) H → tl σ H R) (ha : SqL K H a xs) (Pv : Addr → Nat → Hp → Prop) (h0 : ∀ D, H D = none → Pv D 0 (upd H D (.lst []))) (hl : ∀ D i H', H D = none → Pv D i H' → SqL K H' a xs)
    (hs : ∀ D i x H', H D = none → xs[i]? = some x → Pv D i H' → te ((σ.set c none).set c (some x)) H' fun y H4 => ∃ acc, H4 D = some (.lst acc) ∧ acc.length < sizeLine ∧ Pv D (i + 1) (upd H4 D (.lst (acc ++ [y]))))
    (hd : ∀ D H', H D = none → Pv D xs.length H' → Q (.ref D) H') : tLc (iList K tl) (gName c) tYes te [c] σ H Q := by
  refine htl _ ⟨a, rfl, ⟨_, ha⟩, fun D hD => lc_list (K := K) (a := a) (xs := xs) (Pv D) (h0 D hD) (fun i H' _ p => hl D i H' hD p) ?_ (fun H' p => hd D H' hD p)⟩
  rintro i x H' hx p
  refine ⟨?_, ?_⟩
  · show List.set (List.set (List.set σ c none) c _) c none = List.set σ c none
    rw [List.set_set, List.set_set]
  · show (fun (b : Bool) (H3 : Hp) => if b = true then te ((σ.set c none).set c (some x)) H3 _ else Pv D (i + 1) H3) true H'
    dsimp only
    rw [if_pos rfl]
    exact hs D i x H' hD hx p
theorem lc_tupA {K : PySem.W.Frag} {tl : TE} {te : TE} {c : Nat} {σ : L2.St} {H : Hp} {Q : VK} {a : Addr} (xs : List V) (htl : ∀ R : V → Hp → Prop, R (.ref a) H → tl σ H R) (ha : SqT K H a xs) (Pv : Addr → Nat → Hp → Prop) (h0 : ∀ D, H D = none → Pv D 0 (upd H D (.lst []))) (hl : ∀ D i H', H D = none → Pv D i H' → SqT K H' a xs)
    (hs : ∀ D i x H', H D = none → xs[i]? = some x → Pv D i H' → te ((σ.set c none).set c (some x)) H' fun y H4 => ∃ acc, H4 D = some (.lst acc) ∧ acc.length < sizeLine ∧ Pv D (i + 1) (upd H4 D (.lst (acc ++ [y]))))
    (hd : ∀ D H', H D = none → Pv D xs.length H' → Q (.ref D) H') : tLc (iTup K tl) (gName c) tYes te [c] σ H Q := by
  refine htl _ ⟨a, rfl, ⟨_, ha⟩, fun D hD => lc_tup (K := K) (a := a) (xs := xs) (Pv D) (h0 D hD) (fun i H' _ p => hl D i H' hD p) ?_ (fun H' p => hd D H' hD p)⟩
  rintro i x H' hx p
  refine ⟨?_, ?_⟩
  · show List.set (List.set (List.set σ c none) c _) c none = List.set σ c none
    rw [List.set_set, List.set_set]
  · show (fun (b : Bool) (H3 : Hp) => if b = true then te ((σ.set c none).set c (some x)) H3 _ else Pv D (i + 1) H3) true H'
    dsimp only
    rw [if_pos rfl]
    exact hs D i x H' hD hx p
theorem for_tupX {K : PySem.W.Frag} {tl : TE} {g : TG} {tb : TS} {D : Ends} {σ : L2.St} {H : Hp} (xs : List V) (htl : ∀ R : V → Hp → Prop, (∀ a H1, Same H H1 → SqT K H1 a xs → R (.ref a) H1) → tl σ H R) (Pv : Addr → Nat → L2.St → Hp → Prop) (h0 : ∀ a H1, Same H H1 → SqT K H1 a xs → Pv a 0 σ H1) (hl : ∀ a i σ H, Pv a i σ H → SqT K H a xs)
    (hs : ∀ a i x σ H, xs[i]? = some x → Pv a i σ H → g x σ H fun σ2 H2 => tb { D with nx := Pv a (i + 1), ct := Pv a (i + 1), bk := D.nx } σ2 H2) (hd : ∀ a σ H, Pv a xs.length σ H → D.nx σ H) : tFor (iTup K tl) g tb D σ H :=
  htl _ fun a H1 s1 h1 => ⟨a, rfl, ⟨xs, h1⟩, for_tup (xs := xs) (Pv a) (h0 a H1 s1 h1) (fun i σ H _ => hl a i σ H) (hs a) (hd a)⟩
theorem _root_.L2.SqT.upds {K : PySem.W.Frag} {H : Hp} {a d : Addr} {xs : List V} {u o : HO} (h : SqT K H a xs) (g : H d = some u) (h1 : ∀ zs, u ≠ .tup zs) (h2 : ∀ od zs, u ≠ .frz od (.tup zs)) : SqT K (upd H d o) a xs := by
  rcases h with h | h
  · refine .inl ?_
    have ne : a ≠ d := fun z => by
      subst z
      unfold Rd at h
      rw [g] at h
      rcases h with h | ⟨od, h⟩
      · exact h1 _ (Option.some.inj h)
      · exact h2 _ _ (Option.some.inj h)
    unfold Rd at h ⊢
    rw [upd_ne ne]
    exact h
  · exact .inr h
theorem _root_.L2.SqT.put {K : PySem.W.Frag} {H : Hp} {a d : Addr} {xs : List V} {kvs : List (Key × V)} {o : HO} (h : SqT K H a xs) (g : H d = some (.dK kvs)) : SqT K (upd H d o) a xs := h.upds g (fun _ z => by cases z) (fun _ _ z => by cases z)
theorem _root_.L2.SqT.puti {K : PySem.W.Frag} {H : Hp} {a d C dx : Addr} {xs : List V} {fs : List (Str × V)} {o : HO} (h : SqT K H a xs) (g : H d = some (.ins C dx fs)) : SqT K (upd H d o) a xs := h.upds g (fun _ z => by cases z) (fun _ _ z => by cases z)
theorem valV_mem {kvs : List (Key × V)} {k : Key} : (valV kvs k).isSome = true ↔ k ∈ kvs.map (fun p : Key × V => p.1) := by
  rw [← valV_any]
  induction kvs with
  | nil => exact ⟨fun h => (by cases h), fun h => (by cases h)⟩
  | cons p r ih =>
    rw [List.any_cons, List.map_cons, List.mem_cons, Bool.or_eq_true, ih, decide_eq_true_eq]
    exact ⟨fun h => h.imp Eq.symm id, fun h => h.imp Eq.symm id⟩
/-- a dict comprehension over nothing -/
theorem dc_listE {K : PySem.W.Frag} {tl : TE} {g : TG} {tt : TT} {tk tv : TE} {vs : List Nat} {σ : L2.St} {H : Hp} {Q : VK} {a : Addr} (htl : ∀ R : V → Hp → Prop, R (.ref a) H → tl σ H R) (ha : H a = some (.lst []))
    (k : ∀ D, H D = none → Q (.ref D) (upd H D (.dK []))) : tDc (iList K tl) g tt tk tv vs σ H Q := by
  refine htl _ ⟨a, rfl, ⟨[], .inl (.inl ha)⟩, fun D hD => ⟨fun i m H' => i = 0 ∧ H' = upd H D (.dK []), ⟨0, rfl, rfl⟩, ?_⟩⟩
  rintro i m H' ⟨rfl, rfl⟩
  exact .inl ⟨⟨[], .inl (.inl (same_new hD _ _ ha)), Nat.le_refl _⟩, k D hD⟩
theorem dc_enumE {K : PySem.W.Frag} {ta : TA} {g : TG} {tt : TT} {tk tv : TE} {vs : List Nat} {σ : L2.St} {H : Hp} {Q : VK} {a : Addr} (hta : ∀ R : List V → Hp → Prop, R [.ref a] H → ta σ H R) (ha : H a = some (.lst []))
    (k : ∀ D, H D = none → Q (.ref D) (upd H D (.dK []))) : tDc (iEnum K ta) g tt tk tv vs σ H Q := by
  refine hta _ ⟨a, [], rfl, .inl (.inl ha), fun D hD => ⟨fun i m H' => i = 0 ∧ H' = upd H D (.dK []), ⟨0, rfl, rfl⟩, ?_⟩⟩
  rintro i m H' ⟨rfl, rfl⟩
  exact .inl ⟨⟨[], .inl (.inl (same_new hD _ _ ha)), Nat.le_refl _⟩, k D hD⟩

def Op6 (op : Str) : Prop := op = "self" ∨ op = "nil" ∨ op = "block" ∨ op = "return" ∨ op = "leave" ∨ op = "jump"
def hg (op : Str) : Int := if op = "self" ∨ op = "nil" ∨ op = "block" then 1 else 0
def nx (op : Str) (arg place : Int) : List Int := if op = "return" ∨ op = "leave" then [] else if op = "jump" then [arg] else [place + 1]
def sp_change : Sp := fun vs H Q _ => ∃ (op : Str) (arg : Int), vs = [.str op, .int arg] ∧ Op6 op ∧ Q (.int (hg op)) H
theorem sp_change_len {vs H Q E} (h : sp_change vs H Q E) : vs.length = (["op", "arg"] : List Str).length := by
  obtain ⟨_, _, rfl, _⟩ := h
  rfl
section
variable {P : Program} {w : World} {K : PySem.W.Frag} {mg : Str → Option Value} {base : Heap} {A : Ad}
theorem ok_change_of (T : Txt K mg A) : FnOk P w K mg base CX0 1 A.f_change_of A.d_change_of ["op", "arg"] (sp_change) := by
  refine Fun.ok T.F_change_of sc_change_of (fun vs H Q E h => ?_) (fun cdv Ar outer s H vs Q E hr h => ?_)
  · exact sp_change_len h
  · have hu := hu_of hr
    refine ⟨_, (pss_cons (ps_if (pt_cmpR op_in_seq (pv 0) (pe_glob (v := .ref A.t_PUSHES) (by rfl) T.c_PUSHES rfl) (by rfl)) (pss_one (ps_ret pe_int)) pss_nil)
    (pss_cons (ps_if (pt_cmpR op_in_seq (pv 0) (pe_glob (v := .ref A.t_SENDS) (by rfl) T.c_SENDS rfl) (by rfl)) (pss_one (ps_ret (pe_un un_neg (pe_op op_mod (pv 1) pe_int)))) pss_nil)
    (pss_cons (ps_if (pt_cmpR op_in_seq (pv 0) (pe_glob (v := .ref A.t_POPS) (by rfl) T.c_POPS rfl) (by rfl)) (pss_one (ps_ret (pe_un un_neg pe_int))) pss_nil)
    (pss_one (ps_ret pe_int))))), ?_⟩
    obtain ⟨op, arg, rfl, ho, k⟩ := h
    simp! only [rIn]
    rcases ho with rfl | rfl | rfl | rfl | rfl | rfl
    all_goals
      refine ⟨_, .inr (T.q_PUSHES H), rfl, by decide, ?_⟩
      first
        | (rw [if_pos (by decide)]; exact k)
        | (rw [if_neg (by decide)]
           refine ⟨_, .inr (T.q_SENDS H), rfl, by decide, ?_⟩
           rw [if_neg (by decide)]
           refine ⟨_, .inr (T.q_POPS H), rfl, by decide, ?_⟩
           rw [if_neg (by decide)]
           exact k)
end

def sp_behind : Sp := fun vs H Q _ => ∃ (op : Str) (arg place : Int), vs = [.str op, .int arg, .int place] ∧ Op6 op ∧ ∀ p, H p = none → Q (.ref p) (upd H p (.lst ((nx op arg place).map V.int)))
theorem sp_behind_len {vs H Q E} (h : sp_behind vs H Q E) : vs.length = (["op", "arg", "place"] : List Str).length := by
  obtain ⟨_, _, _, rfl, _⟩ := h
  rfl
section
variable {P : Program} {w : World} {K : PySem.W.Frag} {mg : Str → Option Value} {base : Heap} {A : Ad}
theorem ok_places_behind (T : Txt K mg A) : FnOk P w K mg base CX0 1 A.f_places_behind A.d_places_behind ["op", "arg", "place"] (sp_behind) := by
  refine Fun.ok T.F_places_behind sc_places_behind (fun vs H Q E h => ?_) (fun cdv Ar outer s H vs Q E hr h => ?_)
  · exact sp_behind_len h
  · have hu := hu_of hr
    refine ⟨_, (pss_cons (ps_if (pt_cmpR op_in_seq (pv 0) (pe_glob (v := .ref A.t_ENDS) (by rfl) T.c_ENDS rfl) (by rfl)) (pss_one (ps_ret (pe_lst pa_nil))) pss_nil)
    (pss_cons (ps_if (pt_cmpR op_eq (pv 0) pe_str (nomark _)) (pss_one (ps_ret (pe_lst (pa_cons (pv 1) pa_nil)))) pss_nil)
    (pss_cons (ps_if (pt_cmpR op_eq (pv 0) pe_str (nomark _)) (pss_one (ps_ret (pe_lst (pa_cons (pe_op op_add (pv 2) pe_int) (pa_cons (pv 1) pa_nil))))) pss_nil)
    (pss_one (ps_ret (pe_lst (pa_cons (pe_op op_add (pv 2) pe_int) pa_nil))))))), ?_⟩
    obtain ⟨op, arg, place, rfl, ho, k⟩ := h
    simp! only [rIn]
    rcases ho with rfl | rfl | rfl | rfl | rfl | rfl
    all_goals
      refine ⟨_, .inr (T.q_ENDS H), rfl, by decide, ?_⟩
      first
        | (rw [if_pos (by decide)]; exact ⟨Nat.zero_le _, k⟩)
        | (rw [if_neg (by decide)]
           first
             | (rw [if_pos (by decide)]; exact ⟨by decide, k⟩)
             | (rw [if_neg (by decide), if_neg (by decide)]; exact ⟨by decide, k⟩))
end

/-- code on the heap -/
def CodeAt (H : Hp) (c : Addr) (code : List (Str × Int)) : Prop := ∃ as : List Addr, H c = some (.lst (as.map V.ref)) ∧ as.length = code.length ∧ ∀ (i : Nat) (a : Addr) (op : Str) (arg : Int), as[i]? = some a → code[i]? = some (op, arg) → H a = some (.tup [.str op, .int arg])
theorem CodeAt.same {H H' : Hp} {c : Addr} {code : List (Str × Int)} (h : CodeAt H c code) (s : Same H H') : CodeAt H' c code := by
  obtain ⟨as, h1, h2, h3⟩ := h
  exact ⟨as, s _ _ h1, h2, fun i a op arg x y => s _ _ (h3 i a op arg x y)⟩
/-- a trace: places with heights, each leading to the next one -/
structure Good (code : List (Str × Int)) (t : List (Int × Int)) (start : Int) : Prop where
  first : t[0]? = some (start, 0)
  nd : (t.map (·.1)).Nodup
  step : ∀ (i : Nat) (pl h : Int), t[i]? = some (pl, h) → 0 ≤ pl ∧ ∃ op arg, code[pl.toNat]? = some (op, arg) ∧ Op6 op ∧ ((nx op arg pl = [] ∧ i + 1 = t.length) ∨ ∃ p, nx op arg pl = [p] ∧ t[i + 1]? = some (p, h + hg op))
def trD (t : List (Int × Int)) : List (Key × V) := t.map fun p => (Sum.inl p.1, V.int p.2)
def sp_heights (K : PySem.W.Frag) : Sp := fun vs H Q _ => ∃ (c : Addr) (start : Int) (code : List (Str × Int)) (t : List (Int × Int)), vs = [.ref c, .int start] ∧ CodeAt H c code ∧ Good code t start ∧ t.length ≤ 10 ∧
  ∀ H' d, Same H H' → H d = none → H' d = some (.dK (trD t)) → Q (.ref d) H'
theorem sp_heights_len {K vs H Q E} (h : sp_heights K vs H Q E) : vs.length = (["code", "start"] : List Str).length := by
  obtain ⟨_, _, _, _, rfl, _⟩ := h
  rfl
section
variable {P : Program} {w : World} {K : PySem.W.Frag} {mg : Str → Option Value} {base : Heap} {A : Ad}
theorem ok_heights_from (T : Txt K mg A) : FnOk P w K mg base CX0 2 A.f_heights_from A.d_heights_from ["code", "start"] (sp_heights K) := by
  refine Fun.ok T.F_heights_from sc_heights_from (fun vs H Q E h => ?_) (fun cdv Ar outer s H vs Q E hr h => ?_)
  · exact sp_heights_len h
  · have hu := hu_of hr
    refine ⟨_, (pss_cons (ps_asg pe_dnewK (pg_name (i := 2) sc_heights_from.nd rfl (Or.inl rfl)))
    (pss_cons (ps_asg (pe_lst (pa_cons (pe_tup (pa_cons (pv 1) (pa_cons pe_int pa_nil))) pa_nil)) (pg_name (i := 3) sc_heights_from.nd rfl (Or.inl rfl)))
    (pss_cons (ps_while PassesOwn.never (pt_truth (pv 3) (by intro _; rfl)) (pss_cons (ps_asg (pe_bm0M PySem.F.slot_list_pop PySem.F.type_list_pop mt_pop (pv 3)) (pg_tup (n := 2) (by rfl) (pgs_cons (pg_name (i := 4) sc_heights_from.nd rfl (Or.inl rfl)) (pgs_cons (pg_name (i := 5) sc_heights_from.nd rfl (Or.inl rfl)) pgs_nil))))
    (pss_one (ps_if (pt_cmpR (op_dnotinM hu) (pv 4) (pv 2) (by rfl)) (pss_cons (ps_asg (pv 5) (pg_sub (pv 2) (pv 4) (set_dictM hu)))
    (pss_cons (ps_asg (pe_ix ix_lstM (pv 0) (pv 4) (fun _ _ => rfl)) (pg_tup (n := 2) (by rfl) (pgs_cons (pg_name (i := 6) sc_heights_from.nd rfl (Or.inl rfl)) (pgs_cons (pg_name (i := 7) sc_heights_from.nd rfl (Or.inl rfl)) pgs_nil))))
    (pss_cons (ps_asg (pe_op op_add (pv 5) (pe_call (ok_change_of T) (hr.mono (by decide)) (by rfl) T.g_change_of T.k_change_of T.b_change_of .nil pass0 (pa_cons (pv 6) (pa_cons (pv 7) pa_nil)))) (pg_name (i := 8) sc_heights_from.nd rfl (Or.inl rfl)))
    (pss_one (ps_for PassesOwn.never rfl (pi_list (pe_call (ok_places_behind T) (hr.mono (by decide)) (by rfl) T.g_places_behind T.k_places_behind T.b_places_behind .nil pass0 (pa_cons (pv 6) (pa_cons (pv 7) (pa_cons (pv 4) pa_nil))))) (pg_name (i := 9) sc_heights_from.nd rfl (Or.inl rfl))
      (pss_one (ps_expr (pe_bmM PySem.F.slot_list_append PySem.F.type_list_append mt_append (pv 3) (pa_cons (pe_tup (pa_cons (pv 9) (pa_cons (pv 8) pa_nil))) pa_nil))))))))) pss_nil))))
    (pss_one (ps_ret (pv 2)))))), ?_⟩
    obtain ⟨c, start, code, t, rfl, hc, G, hl, k⟩ := h
    simp! only []
    refine fun d hd => ⟨by decide, fun a0 ha0 => ⟨by decide, fun w hw => ?_⟩⟩
    have s0 : Same H (upd H d (.dK [])) := same_new hd
    have gd0 : upd H d (.dK []) d = some (.dK ((trD t).take 0)) := upd_same
    generalize upd H d (.dK []) = H0 at s0 gd0 ha0 hw ⊢
    have s1 := sm_trans s0 (same_new (o := HO.tup [V.int start, V.int 0]) ha0)
    have ga0 : upd H0 a0 (HO.tup [V.int start, V.int 0]) a0 = some (HO.tup [V.int start, V.int 0]) := upd_same
    have gd1 := same_new (o := HO.tup [V.int start, V.int 0]) ha0 _ _ gd0
    generalize upd H0 a0 (HO.tup [V.int start, V.int 0]) = H1 at s1 ga0 gd1 hw ⊢
    have s2 := sm_trans s1 (same_new (o := HO.lst [V.ref a0]) hw)
    have ga2 := same_new (o := HO.lst [V.ref a0]) hw _ _ ga0
    have gd2 := same_new (o := HO.lst [V.ref a0]) hw _ _ gd1
    have gw2 : upd H1 w (HO.lst [V.ref a0]) w = some (HO.lst [V.ref a0]) := upd_same
    have hwd : w ≠ d := Ne.symm (ne_of_none gd1 hw)
    have hw0 : H w = none := no_of s1 hw
    generalize upd H1 w (HO.lst [V.ref a0]) = H2 at s2 ga2 gd2 gw2 ⊢
    clear s0 s1 ga0 gd0 gd1 ha0 hw
    refine ⟨fun m σ H' => ∃ (i : Nat) (c4 c5 c6 c7 c8 c9 : Option V), σ = [some (.ref c), some (.int start), some (.ref d), some (.ref w), c4, c5, c6, c7, c8, c9] ∧ Same H H' ∧ H' d = some (.dK ((trD t).take i)) ∧ i ≤ t.length ∧
      ((i < t.length ∧ ∃ (a : Addr) (pl h : Int), t[i]? = some (pl, h) ∧ H' w = some (.lst [.ref a]) ∧ H' a = some (.tup [.int pl, .int h])) ∨ (i = t.length ∧ H' w = some (.lst []))) ∧ m = t.length - i,
      ⟨_, 0, none, none, none, none, none, none, rfl, s2, gd2, Nat.zero_le _, .inl ⟨(List.getElem?_eq_some_iff.mp G.first).1, a0, _, _, G.first, gw2, ga2⟩, rfl⟩, ?_⟩
    clear s2 ga2 gd2 gw2
    rintro m σ H3 ⟨i, c4, c5, c6, c7, c8, c9, rfl, sm, gd, hi, hh, rfl⟩
    rcases hh with ⟨hlt, a, pl, h, ht, gw, ga⟩ | ⟨he, gw⟩
    · simp! only [gw]
      refine ⟨_, .inl ⟨_, .inl (.inl gw), rfl⟩, ?_⟩
      simp! only [gw, ga, gd]
      have hT : (trD t)[i]? = some (Sum.inl pl, V.int h) := by
        unfold trD
        rw [List.getElem?_map, ht]
        rfl
      have ndT : ((trD t).map (·.1)).Nodup := by
        have e : (trD t).map (·.1) = (t.map (·.1)).map (Sum.inl : Int → Key) := by
          unfold trD
          rw [List.map_map, List.map_map]
          rfl
        rw [e]
        exact nodup_inl G.nd
      have vn := valV_take ndT hT
      have pn := putK_new (V.int h) vn
      have tk1 : (trD t).take i ++ [(Sum.inl pl, V.int h)] = (trD t).take (i + 1) := by
        rw [List.take_add_one, hT]
        rfl
      rw [tk1] at pn
      have haw : a ≠ w := fun z => by
        rw [z, gw] at ga
        cases ga
      have smA := sm_upd (o := HO.lst [V.ref a].dropLast) sm hw0
      have gwA : upd H3 w (HO.lst [V.ref a].dropLast) w = some (HO.lst []) := upd_same
      have gdA : upd H3 w (HO.lst [V.ref a].dropLast) d = some (.dK ((trD t).take i)) := by rw [upd_ne (Ne.symm hwd)]; exact gd
      have gaA : upd H3 w (HO.lst [V.ref a].dropLast) a = some (.tup [.int pl, .int h]) := by rw [upd_ne haw]; exact ga
      generalize upd H3 w (HO.lst [V.ref a].dropLast) = H4 at smA gwA gdA gaA ⊢
      have hda : d ≠ a := fun z => by
        rw [z, gaA] at gdA
        cases gdA
      refine ite2 (fun _ => ?_) (fun hh => absurd rfl hh)
      refine ⟨_, fun _ _ h => h, [V.int pl, V.int h], .inl (.inl gaA), rfl, _, _, rfl, _, _, rfl, rfl, .inl pl, rfl, ?_⟩
      simp! only [gdA, vn, pn]
      refine ⟨by
        have : ((trD t).take i).length ≤ 10 := by
          rw [List.length_take]
          unfold trD
          rw [List.length_map]
          omega
        have z : (10 : Nat) < sizeLine := by decide
        omega, ?_⟩
      have smB := sm_upd (o := HO.dK ((trD t).take (i + 1))) smA hd
      have gdB : upd H4 d (HO.dK ((trD t).take (i + 1))) d = some (HO.dK ((trD t).take (i + 1))) := upd_same
      have gwB : upd H4 d (HO.dK ((trD t).take (i + 1))) w = some (HO.lst []) := by rw [upd_ne hwd]; exact gwA
      generalize upd H4 d (HO.dK ((trD t).take (i + 1))) = H5 at smB gdB gwB ⊢
      obtain ⟨p0, op, arg, hop, o6, hn⟩ := G.step i pl h ht
      obtain ⟨as, gc, la, hca⟩ := hc.same smB
      have hlt2 : pl.toNat < as.length := by
        rw [la]
        exact (List.getElem?_eq_some_iff.mp hop).1
      have gca := hca _ as[pl.toNat] op arg (List.getElem?_eq_getElem hlt2) hop
      have hat : atI (as.map V.ref) pl = some (.ref as[pl.toNat]) := by
        have e := atI_nat (xs := as.map V.ref) (j := pl.toNat) (v := .ref as[pl.toNat]) (by rw [List.getElem?_map, List.getElem?_eq_getElem hlt2]; rfl)
        rw [show ((pl.toNat : Nat) : Int) = pl by omega] at e
        exact e
      simp! only [gc, hat]
      refine ⟨[V.str op, V.int arg], .inl (.inl gca), rfl, ?_⟩
      simp! only []
      refine ⟨op, arg, rfl, o6, hg op, rfl, ?_⟩
      refine for_lstP (fun xs => xs = (nx op arg pl).map V.int) (fun R hR => ?_) (fun q xs j σ' H' => ∃ c9, σ' = [some (.ref c), some (.int start), some (.ref d), some (.ref w), some (.int pl), some (.int h), some (.str op), some (.int arg), some (.int (h + hg op)), c9] ∧ q ≠ w ∧
        Same H H' ∧ H' q = some (.lst xs) ∧ H' d = some (.dK ((trD t).take (i + 1))) ∧ ((j = 0 ∧ H' w = some (.lst [])) ∨ (0 < j ∧ j = (nx op arg pl).length ∧ ∃ (pn : Int) (a : Addr), nx op arg pl = [pn] ∧ H' w = some (.lst [.ref a]) ∧ H' a = some (.tup [.int pn, .int (h + hg op)])))) ?_ ?_ ?_ ?_
      · simp! only [rIsL]
        exact ⟨op, arg, pl, rfl, o6, fun q hq => hR q _ rfl hq⟩
      · intro q xs hx hq
        exact ⟨_, rfl, Ne.symm (ne_of_none gwB hq), sm_trans smB (same_new hq), upd_same, same_new hq _ _ gdB, .inl ⟨rfl, same_new hq _ _ gwB⟩⟩
      · rintro q xs j σ' H' _ ⟨_, _, _, _, g, _⟩
        exact g
      · rintro q xs j x σ' H' rfl hq hx ⟨c9', rfl, hqw, smC, gq, gdC, hh⟩
        have hj : j < (nx op arg pl).length := by
          have := (List.getElem?_eq_some_iff.mp hx).1
          rw [List.length_map] at this
          exact this
        rcases hh with ⟨rfl, gwC⟩ | ⟨_, e, _⟩
        · rcases hn with ⟨en, el⟩ | ⟨pn, en, et⟩
          · rw [en] at hj
            exact absurd hj (Nat.not_lt_zero _)
          · rw [en] at hx gq ⊢
            cases hx
            simp! only [gwC]
            refine ⟨by decide, fun b hb => ?_⟩
            have gwD := same_new (o := HO.tup [V.int pn, V.int (h + hg op)]) hb _ _ gwC
            have gdD := same_new (o := HO.tup [V.int pn, V.int (h + hg op)]) hb _ _ gdC
            have gqD := same_new (o := HO.tup [V.int pn, V.int (h + hg op)]) hb _ _ gq
            have smD := sm_trans smC (same_new (o := HO.tup [V.int pn, V.int (h + hg op)]) hb)
            have gbD : upd H' b (HO.tup [V.int pn, V.int (h + hg op)]) b = some (HO.tup [V.int pn, V.int (h + hg op)]) := upd_same
            generalize upd H' b (HO.tup [V.int pn, V.int (h + hg op)]) = H6 at gwD gdD gqD smD gbD ⊢
            simp! only [gwD]
            have hbw : b ≠ w := fun z => by
              rw [z, gwD] at gbD
              cases gbD
            exact ⟨by decide, hqw, sm_upd smD hw0, by rw [upd_ne hqw]; exact gqD, by rw [upd_ne (Ne.symm hwd)]; exact gdD, .inr ⟨Nat.one_pos, by rw [upd_ne hbw]; exact gbD⟩⟩
        · omega
      · rintro q xs σ' H' rfl hq ⟨c9', rfl, hqw, smC, gq, gdC, hh⟩
        simp! only [rIsL]
        rw [List.length_map] at hh
        refine ⟨t.length - (i + 1), by omega, smC, i + 1, gdC, by omega, ?_, rfl⟩
        rcases hn with ⟨en, el⟩ | ⟨pn, en, et⟩
        · rcases hh with ⟨_, gwC⟩ | ⟨h0, _⟩
          · exact .inr ⟨el, gwC⟩
          · rw [en] at h0
            exact absurd h0 (Nat.lt_irrefl _)
        · rcases hh with ⟨h0, _⟩ | ⟨_, _, pn', b, en', gwC, gbC⟩
          · rw [en] at h0
            cases h0
          · rw [en] at en'
            cases en'
            exact .inl ⟨(List.getElem?_eq_some_iff.mp et).1, b, _, _, et, gwC, gbC⟩
    · simp! only [gw]
      refine ⟨_, .inl ⟨_, .inl (.inl gw), rfl⟩, ?_⟩
      simp! only [gw, List.isEmpty_nil]
      rw [he] at gd
      refine k H3 d sm hd ?_
      rw [gd, ← List.length_map (as := t) (fun p => ((Sum.inl p.1 : Key), V.int p.2))]
      exact congrArg (fun z => some (HO.dK z)) (List.take_length)
end

/-- the places of blocks in a trace: where the code of each begins -/
def bks (code : List (Str × Int)) (t : List (Int × Int)) : List Int := t.filterMap fun p => match code[p.1.toNat]? with
  | some (op, _) => if op = "block" then some 2 else none
  | none => none
def C0 : List (Str × Int) := [("self", 0), ("return", 0)]
def C1 : List (Str × Int) := [("block", 0), ("jump", 4), ("nil", 0), ("leave", 0), ("return", 0)]
/-- the literals: none, or one block whose code begins at 2 -/
def LitAt (H : Hp) (l : Addr) (code : List (Str × Int)) : Prop := (code = C0 ∧ H l = some (.lst [])) ∨ (code = C1 ∧ ∃ (b : Addr) (x y : V), H l = some (.lst [.ref b]) ∧ H b = some (.tup [.str "block", x, y, .int 2]))
theorem LitAt.same {H H' : Hp} {l : Addr} {code : List (Str × Int)} (h : LitAt H l code) (s : Same H H') : LitAt H' l code := by
  rcases h with ⟨e, g⟩ | ⟨e, b, x, y, g, gb⟩
  · exact .inl ⟨e, s _ _ g⟩
  · exact .inr ⟨e, b, x, y, s _ _ g, s _ _ gb⟩
/-- the stages: where a part of the code begins, and its trace -/
def stg (code : List (Str × Int)) : List (Int × List (Int × Int)) := if code = C0 then [(0, [(0, 0), (1, 1)])] else [(0, [(0, 0), (1, 1), (4, 1)]), (2, [(2, 0), (3, 1)])]
def grD (code : List (Str × Int)) : List (Key × V) := (stg code).map fun p => (Sum.inl p.1, V.int 1)
theorem good0 : Good C0 [(0, 0), (1, 1)] 0 := by
  refine ⟨rfl, by decide, fun i pl h e => ?_⟩
  match i, e with
  | 0, e => cases e; exact ⟨by decide, "self", 0, rfl, .inl rfl, .inr ⟨1, by decide, by decide⟩⟩
  | 1, e => cases e; exact ⟨by decide, "return", 0, rfl, .inr (.inr (.inr (.inl rfl))), .inl ⟨by decide, rfl⟩⟩
theorem good1 : Good C1 [(0, 0), (1, 1), (4, 1)] 0 := by
  refine ⟨rfl, by decide, fun i pl h e => ?_⟩
  match i, e with
  | 0, e => cases e; exact ⟨by decide, "block", 0, rfl, .inr (.inr (.inl rfl)), .inr ⟨1, by decide, by decide⟩⟩
  | 1, e => cases e; exact ⟨by decide, "jump", 4, rfl, .inr (.inr (.inr (.inr (.inr rfl)))), .inr ⟨4, by decide, by decide⟩⟩
  | 2, e => cases e; exact ⟨by decide, "return", 0, rfl, .inr (.inr (.inr (.inl rfl))), .inl ⟨by decide, rfl⟩⟩
theorem good2 : Good C1 [(2, 0), (3, 1)] 2 := by
  refine ⟨rfl, by decide, fun i pl h e => ?_⟩
  match i, e with
  | 0, e => cases e; exact ⟨by decide, "nil", 0, rfl, .inr (.inl rfl), .inr ⟨3, by decide, by decide⟩⟩
  | 1, e => cases e; exact ⟨by decide, "leave", 0, rfl, .inr (.inr (.inr (.inr (.inl rfl)))), .inl ⟨by decide, rfl⟩⟩
/-- each stage: good, its greatest height is 1, its blocks lead to the next one -/
theorem stg_ok {code : List (Str × Int)} (hc : code = C0 ∨ code = C1) : ∀ (k : Nat) (st : Int) (t : List (Int × Int)), (stg code)[k]? = some (st, t) → Good code t st ∧ t.length ≤ 10 ∧ (1 : Int) ∈ t.map (·.2) ∧ (∀ j ∈ t.map (·.2), j ≤ 1) ∧
    bks code t = ((stg code)[k + 1]?.map (·.1)).toList := by
  intro k st t e
  rcases hc with rfl | rfl
  · match k, e with
    | 0, e => cases e; exact ⟨good0, by decide, by decide, by decide, by decide⟩
  · match k, e with
    | 0, e => cases e; exact ⟨good1, by decide, by decide, by decide, by decide⟩
    | 1, e => cases e; exact ⟨good2, by decide, by decide, by decide, by decide⟩
theorem grD_nd {code : List (Str × Int)} (hc : code = C0 ∨ code = C1) : ((grD code).map (·.1)).Nodup := by
  rcases hc with rfl | rfl <;> decide
theorem bks_step {code : List (Str × Int)} {t : List (Int × Int)} {j : Nat} {pl h : Int} {op : Str} {arg : Int} (ht : t[j]? = some (pl, h)) (hop : code[pl.toNat]? = some (op, arg)) : bks code (t.take (j + 1)) = bks code (t.take j) ++ (if op = "block" then [2] else []) := by
  unfold bks
  rw [List.take_add_one, ht, Option.toList_some, List.filterMap_append]
  congr 1
  simp only [List.filterMap_cons, List.filterMap_nil, hop]
  by_cases hb : op = "block" <;> simp [hb]
theorem c1_block {n : Nat} {arg : Int} (e : C1[n]? = some (Str.ofString "block", arg)) : arg = 0 := by
  have m := List.mem_of_getElem? e
  unfold C1 at m
  simp only [List.mem_cons, List.not_mem_nil, or_false, Prod.mk.injEq] at m
  rcases m with ⟨_, h⟩ | ⟨h, _⟩ | ⟨h, _⟩ | ⟨h, _⟩ | ⟨h, _⟩
  · exact h
  all_goals exact absurd h (by decide)
theorem c0_block {n : Nat} {arg : Int} (e : C0[n]? = some (Str.ofString "block", arg)) : False := by
  have m := List.mem_of_getElem? e
  unfold C0 at m
  simp only [List.mem_cons, List.not_mem_nil, or_false, Prod.mk.injEq] at m
  rcases m with ⟨h, _⟩ | ⟨h, _⟩
  all_goals exact absurd h (by decide)
def sp_greatest (K : PySem.W.Frag) : Sp := fun vs H Q _ => ∃ (c l : Addr) (code : List (Str × Int)), vs = [.ref c, .ref l] ∧ CodeAt H c code ∧ LitAt H l code ∧
  ∀ H' d, Same H H' → H d = none → H' d = some (.dK (grD code)) → Q (.ref d) H'
theorem sp_greatest_len {K vs H Q E} (h : sp_greatest K vs H Q E) : vs.length = (["code", "literals"] : List Str).length := by
  obtain ⟨_, _, _, rfl, _⟩ := h
  rfl
section
variable {P : Program} {w : World} {K : PySem.W.Frag} {mg : Str → Option Value} {base : Heap} {A : Ad}
theorem ok_greatest_heights (T : Txt K mg A) : FnOk P w K mg base CX0 3 A.f_greatest_heights A.d_greatest_heights ["code", "literals"] (sp_greatest K) := by
  refine Fun.ok T.F_greatest_heights sc_greatest_heights (fun vs H Q E h => ?_) (fun cdv Ar outer s H vs Q E hr h => ?_)
  · exact sp_greatest_len h
  · have hu := hu_of hr
    refine ⟨_, (pss_cons (ps_asg pe_dnewK (pg_name (i := 2) sc_greatest_heights.nd rfl (Or.inl rfl)))
    (pss_cons (ps_asg (pe_lst (pa_cons pe_int pa_nil)) (pg_name (i := 3) sc_greatest_heights.nd rfl (Or.inl rfl)))
    (pss_cons (ps_while PassesOwn.never (pt_truth (pv 3) (by intro _; rfl)) (pss_cons (ps_asg (pe_bm0M PySem.F.slot_list_pop PySem.F.type_list_pop mt_pop (pv 3)) (pg_name (i := 4) sc_greatest_heights.nd rfl (Or.inl rfl)))
    (pss_cons (ps_asg (pe_call (ok_heights_from T) (hr.mono (by decide)) (by rfl) T.g_heights_from T.k_heights_from T.b_heights_from .nil pass0 (pa_cons (pv 0) (pa_cons (pv 4) pa_nil))) (pg_name (i := 5) sc_greatest_heights.nd rfl (Or.inl rfl)))
    (pss_cons (ps_asg (pe_maxVals rfl (by rfl) T.z_max (pv 5)) (pg_sub (pv 2) (pv 4) (set_dictM hu)))
    (pss_one (ps_for PassesOwn.never rfl (pi_keys (pe_frz (pv 5))) (pg_name (i := 6) sc_greatest_heights.nd rfl (Or.inl rfl))
      (pss_cons (ps_asg (pe_ix ix_lstM (pv 0) (pv 6) (fun _ _ => rfl)) (pg_tup (n := 2) (by rfl) (pgs_cons (pg_name (i := 7) sc_greatest_heights.nd rfl (Or.inl rfl)) (pgs_cons (pg_name (i := 8) sc_greatest_heights.nd rfl (Or.inl rfl)) pgs_nil))))
    (pss_one (ps_if (pt_cmpR op_eq (pv 7) pe_str (nomark _)) (pss_one (ps_expr (pe_bmM PySem.F.slot_list_append PySem.F.type_list_append mt_append (pv 3) (pa_cons (pe_ix ix_tup (pe_ix ix_lstM (pv 1) (pv 8) (fun _ _ => rfl)) pe_int (fun _ _ => rfl)) pa_nil)))) pss_nil)))))))))
    (pss_one (ps_ret (pv 2)))))), ?_⟩
    obtain ⟨c, l, code, rfl, hc, hL, k⟩ := h
    have hcc : code = C0 ∨ code = C1 := hL.elim (fun z => .inl z.1) fun z => .inr z.1
    simp! only []
    refine fun d hd => ⟨by decide, fun w hw => ?_⟩
    have s0 : Same H (upd H d (.dK [])) := same_new hd
    have gd0 : upd H d (.dK []) d = some (.dK ((grD code).take 0)) := upd_same
    generalize upd H d (.dK []) = H0 at s0 gd0 hw ⊢
    have s2 := sm_trans s0 (same_new (o := HO.lst [V.int 0]) hw)
    have gd2 := same_new (o := HO.lst [V.int 0]) hw _ _ gd0
    have gw2 : upd H0 w (HO.lst [V.int 0]) w = some (HO.lst (((stg code)[0]?.map fun p => V.int p.1).toList)) := by
      rw [upd_same]
      rcases hcc with rfl | rfl <;> rfl
    have hwd : w ≠ d := Ne.symm (ne_of_none gd0 hw)
    have hw0 : H w = none := no_of s0 hw
    generalize upd H0 w (HO.lst [V.int 0]) = H2 at s2 gd2 gw2 ⊢
    clear s0 gd0 hw
    refine ⟨fun m σ H' => ∃ (i : Nat) (c4 c5 c6 c7 c8 : Option V), σ = [some (.ref c), some (.ref l), some (.ref d), some (.ref w), c4, c5, c6, c7, c8] ∧ Same H H' ∧ H' d = some (.dK ((grD code).take i)) ∧ i ≤ (stg code).length ∧
      H' w = some (.lst (((stg code)[i]?.map fun p => V.int p.1).toList)) ∧ m = (stg code).length - i,
      ⟨_, 0, none, none, none, none, none, rfl, s2, gd2, Nat.zero_le _, gw2, rfl⟩, ?_⟩
    clear s2 gd2 gw2
    rintro m σ H3 ⟨i, c4, c5, c6, c7, c8, rfl, sm, gd, hi, gw, rfl⟩
    by_cases hlt : i < (stg code).length
    · obtain ⟨st, t, ht⟩ : ∃ st t, (stg code)[i]? = some (st, t) := ⟨_, _, List.getElem?_eq_getElem hlt⟩
      obtain ⟨G, hl, m1, m2, hb⟩ := stg_ok hcc i st t ht
      rw [ht] at gw
      simp! only [gw]
      refine ⟨_, .inl ⟨_, .inl (.inl gw), rfl⟩, ?_⟩
      simp! only [gw, gd, Option.map_some, Option.toList_some]
      have smA := sm_upd (o := HO.lst [V.int st].dropLast) sm hw0
      have gwA : upd H3 w (HO.lst [V.int st].dropLast) w = some (HO.lst []) := upd_same
      have gdA : upd H3 w (HO.lst [V.int st].dropLast) d = some (.dK ((grD code).take i)) := by rw [upd_ne (Ne.symm hwd)]; exact gd
      generalize upd H3 w (HO.lst [V.int st].dropLast) = H4 at smA gwA gdA ⊢
      refine ite2 (fun _ => ?_) (fun hh => absurd rfl hh)
      refine ⟨_, fun _ _ h => h, c, st, code, t, rfl, hc.same smA, G, hl, fun H5 e5 smB n5 g5 => ?_⟩
      have he : H e5 = none := no_of smA n5
      have gdB := smB _ _ gdA
      have gwB := smB _ _ gwA
      have smB' := sm_trans smA smB
      have hed : e5 ≠ d := fun z => by
        rw [z, gdA] at n5
        cases n5
      have hew : e5 ≠ w := fun z => by
        rw [z, gwA] at n5
        cases n5
      have hT : (grD code)[i]? = some (Sum.inl st, V.int 1) := by
        unfold grD
        rw [List.getElem?_map, ht]
        rfl
      have vn := valV_take (grD_nd hcc) hT
      have pn := putK_new (V.int 1) vn
      have tk1 : (grD code).take i ++ [(Sum.inl st, V.int 1)] = (grD code).take (i + 1) := by
        rw [List.take_add_one, hT]
        rfl
      rw [tk1] at pn
      simp! only [tMaxVals, gdB]
      refine ⟨trD t, g5, t.map (·.2), by unfold trD; rw [List.map_map, List.map_map]; rfl, fun z => (by rw [z] at m1; cases m1), fun m hm hmx => ?_⟩
      have hm1 : m = 1 := Int.le_antisymm (m2 m hm) (hmx 1 m1)
      subst hm1
      rw [pn]
      refine ⟨by
        have z1 : ((grD code).take i).length ≤ (stg code).length := by
          rw [List.length_take]
          unfold grD
          rw [List.length_map]
          omega
        have z2 : (stg code).length ≤ 2 := by rcases hcc with rfl | rfl <;> decide
        have z : (10 : Nat) < sizeLine := by decide
        omega, ?_⟩
      have smC := sm_upd (o := HO.dK ((grD code).take (i + 1))) smB' hd
      have gdC : upd H5 d (HO.dK ((grD code).take (i + 1))) d = some (HO.dK ((grD code).take (i + 1))) := upd_same
      have gwC : upd H5 d (HO.dK ((grD code).take (i + 1))) w = some (HO.lst []) := by rw [upd_ne hwd]; exact gwB
      have geC : upd H5 d (HO.dK ((grD code).take (i + 1))) e5 = some (HO.dK (trD t)) := by rw [upd_ne hed]; exact g5
      generalize upd H5 d (HO.dK ((grD code).take (i + 1))) = H6 at smC gdC gwC geC ⊢
      refine for_frzC rfl geC trivial fun od => ?_
      have smD := sm_upd (o := HO.frz od (HO.dK (trD t))) smC he
      have gdD : upd H6 e5 (HO.frz od (HO.dK (trD t))) d = some (HO.dK ((grD code).take (i + 1))) := by rw [upd_ne (Ne.symm hed)]; exact gdC
      have gwD : upd H6 e5 (HO.frz od (HO.dK (trD t))) w = some (HO.lst []) := by rw [upd_ne (Ne.symm hew)]; exact gwC
      have geD : upd H6 e5 (HO.frz od (HO.dK (trD t))) e5 = some (HO.frz od (HO.dK (trD t))) := upd_same
      generalize upd H6 e5 (HO.frz od (HO.dK (trD t))) = H7 at smD gdD gwD geD ⊢
      refine for_keysF (d := e5) (od := od) (trD t) geD (fun R h => h) (fun j σ' H' => ∃ (c6 c7 c8 : Option V), σ' = [some (.ref c), some (.ref l), some (.ref d), some (.ref w), some (.int st), some (.ref e5), c6, c7, c8] ∧ Same H H' ∧
        H' d = some (.dK ((grD code).take (i + 1))) ∧ H' e5 = some (.frz od (.dK (trD t))) ∧ H' w = some (.lst ((bks code (t.take j)).map V.int)) ∧ (bks code (t.take j)).length ≤ j) ⟨_, _, _, rfl, smD, gdD, geD, gwD, Nat.le_refl _⟩ ?_ ?_ ?_
      · rintro j σ' H' ⟨_, _, _, _, _, _, g, _⟩
        exact g
      · rintro j kk v σ' H' hj ⟨c6', c7', c8', rfl, smE, gdE, geE, gwE, hbl⟩
        unfold trD at hj
        rw [List.getElem?_map] at hj
        obtain ⟨⟨pl, h⟩, htj, ej⟩ := Option.map_eq_some_iff.mp hj
        cases ej
        obtain ⟨p0, op, arg, hop, o6, hn⟩ := G.step j pl h htj
        obtain ⟨as, gc, la, hca⟩ := hc.same smE
        have hlt2 : pl.toNat < as.length := by
          rw [la]
          exact (List.getElem?_eq_some_iff.mp hop).1
        have gca := hca _ as[pl.toNat] op arg (List.getElem?_eq_getElem hlt2) hop
        have hat : atI (as.map V.ref) pl = some (.ref as[pl.toNat]) := by
          have e := atI_nat (xs := as.map V.ref) (j := pl.toNat) (v := .ref as[pl.toNat]) (by rw [List.getElem?_map, List.getElem?_eq_getElem hlt2]; rfl)
          rw [show ((pl.toNat : Nat) : Int) = pl by omega] at e
          exact e
        have hjl : j < t.length := (List.getElem?_eq_some_iff.mp htj).1
        have bk1 : bks code (t.take (j + 1)) = bks code (t.take j) ++ (if op = "block" then [2] else []) := by
          exact bks_step htj hop
        simp! only [kV, gc, hat]
        refine ⟨[V.str op, V.int arg], .inl (.inl gca), rfl, ?_⟩
        simp! only [kV, gwE]
        rw [bk1]
        refine ite2 (fun hb => ?_) (fun hb => ?_)
        · rw [if_pos (show op = "block" from hb)]
          subst hb
          rcases hL.same smE with ⟨ec, _⟩ | ⟨ec, b, x, y, gl, gb⟩
          · rw [ec] at hop
            exact (c0_block hop).elim
          · rw [ec] at hop
            have ea := c1_block hop
            subst ea
            simp! only [gl, atI_0]
            have hz : (100 : Nat) < sizeLine := by decide
            have hjt : j < t.length := hjl
            refine ⟨_, .inl (.inl gb), _, rfl, by rw [List.length_map]; omega, sm_upd smE hw0, by rw [upd_ne (Ne.symm hwd)]; exact gdE, by rw [upd_ne hew]; exact geE, by rw [List.map_append]; rfl, by rw [List.length_append, List.length_singleton]; omega⟩
        · rw [if_neg (show ¬ op = "block" from hb)]
          exact ⟨smE, gdE, geE, by rw [List.append_nil], by rw [List.append_nil]; omega⟩
      · rintro σ' H' ⟨c6', c7', c8', rfl, smE, gdE, geE, gwE, hbl⟩
        have e1 : t.take (trD t).length = t := by
          unfold trD
          rw [List.length_map, List.take_length]
        rw [e1, hb] at gwE
        refine ⟨(stg code).length - (i + 1), by omega, ⟨_, _, _, _, _, rfl⟩, smE, i + 1, gdE, by omega, ?_, rfl⟩
        rw [gwE]
        cases (stg code)[i + 1]? <;> rfl
    · have hi2 : i = (stg code).length := by omega
      rw [hi2, List.getElem?_eq_none (Nat.le_refl _)] at gw
      simp! only [gw]
      refine ⟨_, .inl ⟨_, .inl (.inl gw), rfl⟩, ?_⟩
      simp! only [gw, List.isEmpty_nil, Option.map_none, Option.toList_none]
      rw [hi2] at gd
      refine k H3 d sm hd ?_
      rw [gd, ← List.length_map (as := stg code) (fun p => ((Sum.inl p.1 : Key), V.int 1))]
      exact congrArg (fun z => some (HO.dK z)) (List.take_length)
end

def drF (sel : V) (argc cnt stk : Int) (c l : Addr) : List (Str × V) := [("selector", sel), ("argc", .int argc), ("locals", .int cnt), ("stack", .int stk), ("code", .ref c), ("literals", .ref l)]
def sp_draft (C : Addr) : Sp := fun vs H Q _ => ∃ (a dx c l : Addr) (sel : Str) (argc cnt stk : Int) (xs ys : List V), vs = [.ref a, .str sel, .int argc, .int cnt, .int stk, .ref c, .ref l] ∧ H a = some (.ins C dx []) ∧ H c = some (.lst xs) ∧ H l = some (.lst ys) ∧
  ∀ H' c2 l2, (∀ b o, b ≠ a → H b = some o → H' b = some o) → H' a = some (.ins C dx (drF (.str sel) argc cnt stk c2 l2)) → H' c2 = some (.lst xs) → H' l2 = some (.lst ys) → Q .non H'
theorem sp_draft_len {C vs H Q E} (h : sp_draft C vs H Q E) : vs.length = (["self", "selector", "argc", "count", "stack", "code", "literals"] : List Str).length := by
  obtain ⟨_, _, _, _, _, _, _, _, _, _, rfl, _⟩ := h
  rfl
section
variable {P : Program} {w : World} {K : PySem.W.Frag} {mg : Str → Option Value} {base : Heap} {A : Ad}
theorem ok_Draft___init__ (T : Txt K mg A) : FnOk P w K mg base CX0 1 A.f_Draft___init__ A.d_Draft___init__ ["self", "selector", "argc", "count", "stack", "code", "literals"] (sp_draft A.C_Draft) := by
  refine Fun.ok T.F_Draft___init__ sc_Draft___init__ (fun vs H Q E h => ?_) (fun cdv Ar outer s H vs Q E hr h => ?_)
  · exact sp_draft_len h
  · have hu := hu_of hr
    refine ⟨_, (pss_cons (ps_fld (pv 0) (pv 1) rfl)
    (pss_cons (ps_fld (pv 0) (pv 2) rfl)
    (pss_cons (ps_fld (pv 0) (pv 3) rfl)
    (pss_cons (ps_fld (pv 0) (pv 4) rfl)
    (pss_cons (ps_fld (pv 0) (pe_callTy call_listM (by rfl) T.z_list (by decide +kernel) (pa_cons (pv 5) pa_nil)) rfl)
    (pss_one (ps_fld (pv 0) (pe_callTy call_listM (by rfl) T.z_list (by decide +kernel) (pa_cons (pv 6) pa_nil)) rfl))))))), ?_⟩
    obtain ⟨a, dx, c, l, sel, argc, cnt, stk, xs, ys, rfl, ha, hc, hl, k⟩ := h
    have hca : c ≠ a := fun z => by
      rw [z, ha] at hc
      cases hc
    have hla : l ≠ a := fun z => by
      rw [z, ha] at hl
      cases hl
    simp! only [ha, T.cl_Draft, T.no_Draft_selector, T.no_Draft_argc, T.no_Draft_locals, T.no_Draft_stack, T.no_Draft_code, T.no_Draft_literals]
    have g1 : upd H a (HO.ins A.C_Draft dx [(Str.ofString "selector", V.str sel), (Str.ofString "argc", V.int argc), (Str.ofString "locals", V.int cnt), (Str.ofString "stack", V.int stk)]) a = some (HO.ins A.C_Draft dx [(Str.ofString "selector", V.str sel), (Str.ofString "argc", V.int argc), (Str.ofString "locals", V.int cnt), (Str.ofString "stack", V.int stk)]) := upd_same
    have o1 : ∀ b o, b ≠ a → H b = some o → upd H a (HO.ins A.C_Draft dx [(Str.ofString "selector", V.str sel), (Str.ofString "argc", V.int argc), (Str.ofString "locals", V.int cnt), (Str.ofString "stack", V.int stk)]) b = some o := fun b o hb ho => by
      rw [upd_ne hb]
      exact ho
    generalize upd H a (HO.ins A.C_Draft dx [(Str.ofString "selector", V.str sel), (Str.ofString "argc", V.int argc), (Str.ofString "locals", V.int cnt), (Str.ofString "stack", V.int stk)]) = H1 at g1 o1 ⊢
    refine ⟨by decide, by decide, by decide, by decide, ?_⟩
    rw [o1 c _ hca hc]
    dsimp only
    refine fun c2 hc2 => ?_
    have hac2 : a ≠ c2 := ne_of_none g1 hc2
    have s2 := same_new (o := HO.lst xs) hc2
    have g2 := s2 _ _ g1
    have gc2 : upd H1 c2 (HO.lst xs) c2 = some (HO.lst xs) := upd_same
    have gl2 := s2 _ _ (o1 l _ hla hl)
    have o2 : ∀ b o, b ≠ a → H b = some o → upd H1 c2 (HO.lst xs) b = some o := fun b o hb ho => s2 _ _ (o1 b o hb ho)
    generalize upd H1 c2 (HO.lst xs) = H2 at g2 gc2 gl2 o2 ⊢
    refine ⟨_, _, _, g2, T.cl_Draft, T.no_Draft_code, by show 4 < 1000; decide, ?_⟩
    rw [upd_ne hla, gl2]
    dsimp only
    have o3 : ∀ b o, b ≠ a → H2 b = some o → upd H2 a (HO.ins A.C_Draft dx (putF (Str.ofString "code") (V.ref c2) [(Str.ofString "selector", V.str sel), (Str.ofString "argc", V.int argc), (Str.ofString "locals", V.int cnt), (Str.ofString "stack", V.int stk)])) b = some o := fun b o hb ho => by
      rw [upd_ne hb]
      exact ho
    have g3 : upd H2 a (HO.ins A.C_Draft dx (putF (Str.ofString "code") (V.ref c2) [(Str.ofString "selector", V.str sel), (Str.ofString "argc", V.int argc), (Str.ofString "locals", V.int cnt), (Str.ofString "stack", V.int stk)])) a = some (HO.ins A.C_Draft dx (putF (Str.ofString "code") (V.ref c2) [(Str.ofString "selector", V.str sel), (Str.ofString "argc", V.int argc), (Str.ofString "locals", V.int cnt), (Str.ofString "stack", V.int stk)])) := upd_same
    generalize upd H2 a (HO.ins A.C_Draft dx (putF (Str.ofString "code") (V.ref c2) [(Str.ofString "selector", V.str sel), (Str.ofString "argc", V.int argc), (Str.ofString "locals", V.int cnt), (Str.ofString "stack", V.int stk)])) = H3 at g3 o3 ⊢
    refine fun l2 hl2 => ?_
    have hal2 : a ≠ l2 := ne_of_none g3 hl2
    have s4 := same_new (o := HO.lst ys) hl2
    refine ⟨_, _, _, s4 _ _ g3, T.cl_Draft, T.no_Draft_literals, by show 5 < 1000; decide, k _ c2 l2 (fun b o hb ho => ?_) upd_same ?_ ?_⟩
    · rw [upd_ne hb]
      exact s4 _ _ (o3 _ _ hb (o2 _ _ hb ho))
    · rw [upd_ne (Ne.symm hac2)]
      exact s4 _ _ (o3 _ _ (Ne.symm hac2) gc2)
    · rw [upd_ne (Ne.symm hal2)]
      exact upd_same
end

def sp_measured (K : PySem.W.Frag) : Sp := fun vs H Q _ => ∃ (b d : Addr) (x y : V), vs = [.ref b, .ref d] ∧ SqT K H b [.str "block", x, y, .int 2] ∧ H d = some (.dK (grD C1)) ∧ ∀ p, H p = none → Q (.ref p) (upd H p (.tup [.str "block", x, y, .int 2, .int 1]))
theorem sp_measured_len {K vs H Q E} (h : sp_measured K vs H Q E) : vs.length = (["literal", "stacks"] : List Str).length := by
  obtain ⟨_, _, _, _, rfl, _⟩ := h
  rfl
section
variable {P : Program} {w : World} {K : PySem.W.Frag} {mg : Str → Option Value} {base : Heap} {A : Ad}
theorem ok_measured (T : Txt K mg A) : FnOk P w K mg base CX0 1 A.f_measured A.d_measured ["literal", "stacks"] (sp_measured K) := by
  refine Fun.ok T.F_measured sc_measured (fun vs H Q E h => ?_) (fun cdv Ar outer s H vs Q E hr h => ?_)
  · exact sp_measured_len h
  · have hu := hu_of hr
    refine ⟨_, (pss_cons (ps_if (pt_cmpR op_ne (pe_ix ix_tup (pv 0) pe_int (fun _ _ => rfl)) pe_str (nomark _)) (pss_one (ps_ret (pv 0))) pss_nil)
    (pss_cons (ps_asg (pv 0) (pg_tup (n := 4) (by rfl) (pgs_cons (pg_name (i := 2) sc_measured.nd rfl (Or.inl rfl)) (pgs_cons (pg_name (i := 3) sc_measured.nd rfl (Or.inl rfl)) (pgs_cons (pg_name (i := 4) sc_measured.nd rfl (Or.inl rfl)) (pgs_cons (pg_name (i := 5) sc_measured.nd rfl (Or.inl rfl)) pgs_nil))))))
    (pss_one (ps_ret (pe_tup (pa_cons (pv 2) (pa_cons (pv 3) (pa_cons (pv 4) (pa_cons (pv 5) (pa_cons (pe_dget2 hu (pv 1) (pv 5) pe_int ⟨by rfl, by rfl, by rfl, by rfl⟩) pa_nil)))))))))), ?_⟩
    obtain ⟨b, d, x, y, rfl, hb, hd, k⟩ := h
    simp! only [tDGet2]
    refine ⟨_, hb, _, rfl, rfl, ite2 (fun hn => absurd rfl hn) (fun _ => ?_)⟩
    refine ⟨_, hb, rfl, _, _, rfl, _, _, rfl, _, _, rfl, _, _, rfl, rfl, ?_⟩
    exact ⟨.inl ⟨_, .inl hd⟩, some (.int 1), .inl ⟨grD C1, .inl 2, .inl hd, rfl, by rfl⟩, by decide, k⟩
end

/-- names and places on the heap -/
def NmAt (K : PySem.W.Frag) (H : Hp) (xs : List V) (ns : List (Str × Int)) : Prop := xs.length = ns.length ∧ ∀ (i : Nat) (n : Str) (at_ : Int), ns[i]? = some (n, at_) → ∃ a, xs[i]? = some (.ref a) ∧ SqT K H a [.str n, .int at_]
/-- the first name that comes twice -/
def dupF : List Str → List (Str × Int) → Option (Str × Int)
  | _, [] => none
  | seen, (n, a) :: r => if n ∈ seen then some (n, a) else dupF (seen ++ [n]) r
/-- what is raised: a name that comes twice, before too many names -/
def OutE (A : Ad) (E : XK) (F : Hp) (ns : List (Str × Int)) : Prop := ∀ H' dd, Same F H' → H' dd = none →
  (∀ n at_, dupF [] ns = some (n, at_) → E (.ref A.C_Twice) (some dd) (upd H' dd (.xd [("at", .int at_), ("name", .str n)]))) ∧
  (dupF [] ns = none → 255 < ns.length → E (.ref A.C_Oversized) (some dd) (upd H' dd (.xd [("limit", .str "locals")])))
def sp_declared (K : PySem.W.Frag) (A : Ad) : Sp := fun vs H Q E => ∃ (p t : Addr) (xs ys : List V) (ns : List (Str × Int)) (F : Hp), vs = [.ref p, .ref t] ∧ SqT K H p xs ∧ SqT K H t ys ∧ NmAt K H (xs ++ ys) ns ∧ ns.length ≤ 1000 ∧ Same F H ∧ OutE A E F ns ∧
  ∀ H' d kvs, Same H H' → H d = none → H' d = some (.dK kvs) → kvs.length = ns.length → ns.length ≤ 255 → dupF [] ns = none → Q (.ref d) H'
theorem sp_declared_len {K A vs H Q E} (h : sp_declared K A vs H Q E) : vs.length = (["params", "temps"] : List Str).length := by
  obtain ⟨_, _, _, _, _, _, rfl, _⟩ := h
  rfl
section
variable {P : Program} {w : World} {K : PySem.W.Frag} {mg : Str → Option Value} {base : Heap} {A : Ad}
theorem ok_declared (T : Txt K mg A) : FnOk P w K mg base (L2N.CX P w) 3 A.f_declared A.d_declared ["params", "temps"] (sp_declared K A) := by
  refine okN T.F_declared sc_declared (fun vs H Q E h => ?_) (fun cdv Ar outer s H vs Q E hr h => ?_)
  · exact sp_declared_len h
  · have hu := hu_of hr
    refine ⟨_, (pss_cons (ps_asg pe_dnewK (pg_name (i := 2) sc_declared.nd rfl (Or.inl rfl)))
    (pss_cons (ps_for (L2.passes_of rfl) rfl (pi_tup (pe_op op_catA (pv 0) (pv 1))) (pg_tup (n := 2) (by rfl) (pgs_cons (pg_name (i := 3) sc_declared.nd rfl (Or.inl rfl)) (pgs_cons (pg_name (i := 4) sc_declared.nd rfl (Or.inl rfl)) pgs_nil)))
      (pss_cons (ps_if (pt_cmpR (op_dinM hu) (pv 3) (pv 2) (by rfl)) (pss_one (ps_rz2 rfl T.x_Twice (ok_Twice___init__ T) (hr.mono (by decide)) T.b_Twice___init__ (L2N.takes_of rfl rfl rfl rfl) (by rfl) T.m_Twice (pa_cons (pv 3) (pa_cons (pv 4) pa_nil)))) pss_nil)
    (pss_one (ps_asg (pe_callB call_lenDM (by rfl) T.z_len PySem.boot_len (pa_cons (pv 2) pa_nil)) (pg_sub (pv 2) (pv 3) (set_dictM hu))))))
    (pss_cons (ps_if (pt_cmpR op_gt (pe_callB call_lenDM (by rfl) T.z_len PySem.boot_len (pa_cons (pv 2) pa_nil)) (pe_glob (v := .int (255)) (by rfl) T.c_MOST_LOCALS ⟨_, rfl⟩) (nomark _)) (pss_one (ps_rz1 rfl T.x_Oversized (ok_Oversized___init__ T) (hr.mono (by decide)) T.b_Oversized___init__ (L2N.takes_of rfl rfl rfl rfl) (by rfl) T.m_Oversized (pa_cons pe_str pa_nil))) pss_nil)
    (pss_one (ps_ret (pv 2)))))), ?_⟩
    obtain ⟨p, t, xs, ys, ns, F, rfl, hp, ht, hn, hl, sF, kE, k⟩ := h
    have hzl : (1000 : Nat) < sizeLine := by decide
    have hnl := hn.1
    simp! only []
    refine fun d hd => ?_
    have g0 : upd H d (.dK []) d = some (.dK []) := upd_same
    have sm0 := same_new (o := HO.dK []) hd
    generalize upd H d (.dK []) = H0 at g0 sm0 ⊢
    refine for_tupX (xs ++ ys) (fun R hR => ?_) (fun a i σ' H' => ∃ (c3 c4 : Option V) (kvs : List (Key × V)), σ' = [some (.ref p), some (.ref t), some (.ref d), c3, c4] ∧ Same H H' ∧ SqT K H' a (xs ++ ys) ∧ H' d = some (.dK kvs) ∧ i ≤ ns.length ∧
      kvs.map (·.1) = (ns.take i).map (fun q => (Sum.inr q.1 : Key)) ∧ dupF [] ns = dupF ((ns.take i).map (·.1)) (ns.drop i)) (fun a H1 s1 h1 => ⟨_, _, _, rfl, sm_trans sm0 s1, h1, s1 _ _ g0, Nat.zero_le _, rfl, rfl⟩) ?_ ?_ ?_
    · simp! only []
      have hp0 := hp.same sm0
      have ht0 := ht.same sm0
      rw [List.length_append] at hnl
      refine ⟨p, t, xs, ys, rfl, rfl, hp0, ht0, by omega, fun hx => ?_, fun hx hy => ?_, fun hx hy q hq => ?_⟩
      · subst hx
        exact hR t H0 sm_refl ht0
      · subst hy
        rw [List.append_nil] at hR
        exact hR p H0 sm_refl hp0
      · exact hR q _ (same_new hq) (.inl (.inl upd_same))
    · rintro a i σ' H' ⟨_, _, _, _, _, h, _⟩
      exact h
    · rintro a i x σ' H' hx ⟨c3, c4, kvs, rfl, sm, hz, gd, hi, hk, he⟩
      have hil : i < ns.length := by
        rw [← hnl]
        exact (List.getElem?_eq_some_iff.mp hx).1
      obtain ⟨nm, at_, hni⟩ : ∃ nm at_, ns[i]? = some (nm, at_) := ⟨_, _, List.getElem?_eq_getElem hil⟩
      obtain ⟨b, hb, hbt⟩ := hn.2 i nm at_ hni
      rw [hx] at hb
      cases hb
      have hdr : ns.drop i = (nm, at_) :: ns.drop (i + 1) := by
        rw [List.drop_eq_getElem_cons hil]
        rw [List.getElem?_eq_getElem hil] at hni
        rw [Option.some.inj hni]
      rw [hdr] at he
      have htk : ns.take (i + 1) = ns.take i ++ [(nm, at_)] := by
        rw [List.take_add_one, hni]
        rfl
      have hmem : ((Sum.inr nm : Key) ∈ kvs.map (·.1)) ↔ nm ∈ (ns.take i).map (·.1) := by
        rw [hk]
        constructor
        · intro m
          obtain ⟨q, hq, e⟩ := List.mem_map.mp m
          cases e
          exact List.mem_map.mpr ⟨q, hq, rfl⟩
        · intro m
          obtain ⟨q, hq, e⟩ := List.mem_map.mp m
          subst e
          exact List.mem_map.mpr ⟨q, hq, rfl⟩
      have hlk : kvs.length = (ns.take i).length := by
        have := congrArg List.length hk
        rw [List.length_map, List.length_map] at this
        exact this
      rw [List.length_take] at hlk
      simp! only []
      refine ⟨_, hbt.same sm, rfl, _, _, rfl, _, _, rfl, rfl, .inr nm, rfl, ?_⟩
      simp! only [gd]
      refine ite2 (fun hin => ?_) (fun hin => ?_)
      · have m := hmem.mp (valV_mem.mp hin)
        have e2 : dupF ((ns.take i).map (·.1)) ((nm, at_) :: ns.drop (i + 1)) = some (nm, at_) := by
          unfold dupF
          exact if_pos m
        exact fun dd hdd => (kE H' dd (sm_trans sF sm) hdd).1 nm at_ (he.trans e2)
      · have m : ¬ nm ∈ (ns.take i).map (·.1) := fun z => hin (valV_mem.mpr (hmem.mpr z))
        have e2 : dupF ((ns.take i).map (·.1)) ((nm, at_) :: ns.drop (i + 1)) = dupF ((ns.take i).map (·.1) ++ [nm]) (ns.drop (i + 1)) := by
          rw [dupF]
          exact if_neg m
        have vn : valV kvs (Sum.inr nm) = none := by
          cases q : valV kvs (Sum.inr nm) with
          | none => rfl
          | some v => exact absurd (by rw [q]; rfl) hin
        rw [putK_new _ vn]
        refine ⟨by omega, sm_upd sm hd, hz.put gd, hil, ?_, ?_⟩
        · rw [List.map_append, hk, htk, List.map_append]
          rfl
        · rw [he, e2, htk, List.map_append]
          rfl
    · rintro a σ' H' ⟨c3, c4, kvs, rfl, sm, hz, gd, hi, hk, he⟩
      rw [hnl] at hk he
      rw [List.take_length] at hk he
      rw [List.drop_length] at he
      have hkl : kvs.length = ns.length := by
        have := congrArg List.length hk
        rw [List.length_map, List.length_map] at this
        exact this
      have he : dupF [] ns = none := he
      simp! only [gd]
      refine ite2 (fun hbig => fun dd hdd => (kE H' dd (sm_trans sF sm) hdd).2 he (by omega)) (fun hbig => k H' d kvs sm hd gd hkl (by omega) he)
end

def sp_carried (K : PySem.W.Frag) : Sp := fun vs H Q _ => ∃ (e : Addr) (xs : List V), vs = [.ref e] ∧ SqT K H e xs ∧ (xs = [] ∨ ∃ a rest, xs = [.ref a] ∧ SqT K H a (.str "return" :: rest)) ∧ ∀ H' p, Same H H' → H p = none → H' p = some (.lst xs) → Q (.ref p) H'
theorem sp_carried_len {K vs H Q E} (h : sp_carried K vs H Q E) : vs.length = (["statements"] : List Str).length := by
  obtain ⟨_, _, rfl, _⟩ := h
  rfl
section
variable {P : Program} {w : World} {K : PySem.W.Frag} {mg : Str → Option Value} {base : Heap} {A : Ad}
theorem ok_carried_out (T : Txt K mg A) : FnOk P w K mg base CX0 1 A.f_carried_out A.d_carried_out ["statements"] (sp_carried K) := by
  refine Fun.ok T.F_carried_out sc_carried_out (fun vs H Q E h => ?_) (fun cdv Ar outer s H vs Q E hr h => ?_)
  · exact sp_carried_len h
  · have hu := hu_of hr
    refine ⟨_, (pss_cons (ps_asg (pe_lst pa_nil) (pg_name (i := 1) sc_carried_out.nd rfl (Or.inl rfl)))
    (pss_cons (ps_for PassesOwn.never rfl (pi_tup (pv 0)) (pg_name (i := 2) sc_carried_out.nd rfl (Or.inl rfl))
      (pss_cons (ps_expr (pe_bmM PySem.F.slot_list_append PySem.F.type_list_append mt_append (pv 1) (pa_cons (pv 2) pa_nil)))
    (pss_one (ps_if (pt_cmpR op_eq (pe_ix ix_tup (pv 2) pe_int (fun _ _ => rfl)) pe_str (nomark _)) (pss_one (ps_ret (pv 1))) pss_nil))))
    (pss_one (ps_ret (pv 1))))), ?_⟩
    obtain ⟨e, xs, rfl, he, hx, k⟩ := h
    simp! only []
    refine ⟨Nat.zero_le _, fun d hd => ?_⟩
    have g0 : upd H d (HO.lst []) d = some (.lst (xs.take 0)) := upd_same
    refine for_tupT (a := e) xs (fun R hR => ⟨_, rfl, hR _ sm_refl⟩) (fun i σ' H' => ∃ (x : Option V), σ' = [some (.ref e), some (.ref d), x] ∧ Same H H' ∧ H' d = some (.lst (xs.take i)) ∧ (i = 0 ∨ i = xs.length)) (fun H1 s1 => ⟨_, rfl, sm_trans (same_new hd) s1, s1 _ _ g0, .inl rfl⟩) ?_ ?_ ?_
    · rintro i σ' H' ⟨x, rfl, sm, g, _⟩
      exact he.same sm
    · rintro i x σ' H' hi ⟨_, rfl, sm, g, h0⟩
      rcases hx with rfl | ⟨a, rest, rfl, ha⟩
      · cases hi
      · rcases h0 with rfl | h0
        · cases hi
          simp! only [g]
          have sm2 := sm_upd (o := HO.lst (List.take 0 [V.ref a] ++ [V.ref a])) sm hd
          exact ⟨by show 0 < sizeLine; decide, _, ha.same sm2, _, atI_0, rfl, ite2 (fun _ => k _ d sm2 hd upd_same) (fun h => absurd rfl h)⟩
        · rw [h0] at hi
          cases hi
    · rintro σ' H' ⟨x, rfl, sm, g, h0⟩
      rw [List.take_length] at g
      simp! only [rIsL]
      exact k H' d sm hd g
end

def sp_returns (K : PySem.W.Frag) : Sp := fun vs H Q _ => ∃ (e : Addr) (xs : List V), vs = [.ref e] ∧ SqT K H e xs ∧ (xs = [] ∨ ∃ a rest, xs = [.ref a] ∧ SqT K H a (.str "return" :: rest)) ∧ ∀ H', Same H H' → Q (.bl (!xs.isEmpty)) H'
theorem sp_returns_len {K vs H Q E} (h : sp_returns K vs H Q E) : vs.length = (["statements"] : List Str).length := by
  obtain ⟨_, _, rfl, _⟩ := h
  rfl
section
variable {P : Program} {w : World} {K : PySem.W.Frag} {mg : Str → Option Value} {base : Heap} {A : Ad}
theorem ok_returns (T : Txt K mg A) : FnOk P w K mg base CX0 1 A.f_returns A.d_returns ["statements"] (sp_returns K) := by
  refine Fun.ok T.F_returns sc_returns (fun vs H Q E h => ?_) (fun cdv Ar outer s H vs Q E hr h => ?_)
  · exact sp_returns_len h
  · have hu := hu_of hr
    refine ⟨_, (pss_one (ps_ret (pe_callB (cr_any rfl) (by rfl) T.z_any (by decide +kernel) (pa_cons (pe_lc (own := [("statement", 1)]) (g := gName 1) rfl sc_returns.nd (pi_tup (pv 0)) (blkOk_by (own := [("statement", 1)]) (N := ["statements", "statement"]) (sc := defScope s_returns) (by decide +kernel)) (fun _ _ _ _ _ => pg_name (i := 1) sc_returns.nd rfl (Or.inl rfl)) (fun _ _ _ _ _ => pts_nil) (fun _ _ _ _ _ => (pe_cmpR op_eq (pe_ix (ix_tupK (K := K) rfl) (pv 1) pe_int (fun _ _ => rfl)) pe_str (nomark _)))) pa_nil)))), ?_⟩
    obtain ⟨e, xs, rfl, he, hx, k⟩ := h
    simp! only [rAny]
    have hb : xs.length ≤ 1 := by
      rcases hx with rfl | ⟨a, rest, rfl, _⟩
      · exact Nat.zero_le _
      · exact Nat.le_refl _
    have hz : (1 : Nat) < sizeLine := by decide
    refine lc_tupA (a := e) xs (fun R h => ⟨_, rfl, h⟩) he (fun D i H' => Same H H' ∧ H' D = some (.lst ((xs.take i).map fun _ => V.bl true))) (fun D hD => ⟨same_new hD, upd_same⟩) (fun D i H' _ p => he.same p.1) (fun D i x H' hD hi p => ?_) (fun D H' hD p => ?_)
    · obtain ⟨sm, g⟩ := p
      rcases hx with rfl | ⟨a, rest, rfl, ha⟩
      · cases hi
      · have hi0 : i = 0 := by
          have := (List.getElem?_eq_some_iff.mp hi).1
          exact Nat.lt_one_iff.mp this
        subst hi0
        cases hi
        simp! only [g]
        exact ⟨_, ha.same sm, _, atI_0, rfl, by show 0 < sizeLine; decide, sm_upd sm hD, by rw [decide_eq_true rfl]; rfl⟩
    · obtain ⟨sm, g⟩ := p
      rw [List.take_length] at g
      refine ⟨D, rfl, xs.map (fun _ => true), .inl (.inl (by rw [g, List.map_map]; rfl)), ?_⟩
      have e1 : (xs.map (fun _ => true)).any id = !xs.isEmpty := by
        rcases hx with rfl | ⟨a, rest, rfl, _⟩ <;> rfl
      rw [e1]
      exact k H' sm
end

def scF (ix : Addr) (n : Int) : List (Str × V) := [("indexes", .ref ix), ("argc", .int n)]
def sp_scope (K : PySem.W.Frag) (A : Ad) : Sp := fun vs H Q E => ∃ (a dx p t : Addr) (xs ys : List V) (ns : List (Str × Int)) (F : Hp), vs = [.ref a, .ref p, .ref t] ∧ H a = some (.ins A.C_Scope dx []) ∧ SqT K H p xs ∧ SqT K H t ys ∧ NmAt K H (xs ++ ys) ns ∧ ns.length ≤ 1000 ∧ Same F H ∧ OutE A E F ns ∧
  ∀ H' ix kvs, (∀ b o, b ≠ a → H b = some o → H' b = some o) → H ix = none → H' a = some (.ins A.C_Scope dx (scF ix xs.length)) → H' ix = some (.dK kvs) → kvs.length = ns.length → ns.length ≤ 255 → dupF [] ns = none → Q .non H'
theorem sp_scope_len {K A vs H Q E} (h : sp_scope K A vs H Q E) : vs.length = (["self", "params", "temps"] : List Str).length := by
  obtain ⟨_, _, _, _, _, _, _, _, rfl, _⟩ := h
  rfl
section
variable {P : Program} {w : World} {K : PySem.W.Frag} {mg : Str → Option Value} {base : Heap} {A : Ad}
theorem ok_Scope___init__ (T : Txt K mg A) : FnOk P w K mg base (L2N.CX P w) 4 A.f_Scope___init__ A.d_Scope___init__ ["self", "params", "temps"] (sp_scope K A) := by
  refine okN T.F_Scope___init__ sc_Scope___init__ (fun vs H Q E h => ?_) (fun cdv Ar outer s H vs Q E hr h => ?_)
  · exact sp_scope_len h
  · have hu := hu_of hr
    refine ⟨_, (pss_cons (ps_fld (pv 0) (pe_callS (ok_declared T) (hr.mono (by decide)) (by rfl) T.g_declared T.k_declared T.b_declared (fun σ => L2N.passAt (L2N.takes_of rfl rfl rfl rfl) σ) (pa_cons (pv 1) (pa_cons (pv 2) pa_nil))) rfl)
    (pss_one (ps_fld (pv 0) (pe_callB call_len_seq (by rfl) T.z_len PySem.boot_len (pa_cons (pv 1) pa_nil)) rfl))), ?_⟩
    obtain ⟨a, dx, p, t, xs, ys, ns, F, rfl, ha, hp, ht, hn, hl, sF, kE, k⟩ := h
    simp! only []
    refine ⟨p, t, xs, ys, ns, F, rfl, hp, ht, hn, hl, sF, kE, fun H1 ix kvs sm hix gix hkl h255 hd => ?_⟩
    have ga := sm _ _ ha
    have hia : ix ≠ a := fun z => by
      rw [z, ha] at hix
      cases hix
    simp! only [ga, T.cl_Scope, T.no_Scope_indexes, T.no_Scope_argc]
    refine ⟨by decide, xs, .inr ((hp.same sm).puti ga), by decide, k _ ix kvs (fun b o hb ho => ?_) hix upd_same ?_ hkl h255 hd⟩
    · rw [upd_ne hb]
      exact sm _ _ ho
    · rw [upd_ne hia]
      exact gix
end

/-- the fields of the coder -/
def coF (c l kn sc f sh : Addr) : List (Str × V) := [("code", .ref c), ("literals", .ref l), ("known", .ref kn), ("scopes", .ref sc), ("fields", .ref f), ("shared", .ref sh)]
theorem coF_code {c l kn sc f sh} : List.lookup ("code" : Str) (coF c l kn sc f sh) = some (V.ref c) := rfl
theorem coF_lits {c l kn sc f sh} : List.lookup ("literals" : Str) (coF c l kn sc f sh) = some (V.ref l) := rfl
theorem coF_scopes {c l kn sc f sh} : List.lookup ("scopes" : Str) (coF c l kn sc f sh) = some (V.ref sc) := rfl
theorem coF_emit {c l kn sc f sh} : List.lookup ("emit" : Str) (coF c l kn sc f sh) = none := rfl
theorem coF_land {c l kn sc f sh} : List.lookup ("land" : Str) (coF c l kn sc f sh) = none := rfl
theorem coF_body {c l kn sc f sh} : List.lookup ("body" : Str) (coF c l kn sc f sh) = none := rfl
theorem coF_block {c l kn sc f sh} : List.lookup ("block" : Str) (coF c l kn sc f sh) = none := rfl
theorem coF_expr {c l kn sc f sh} : List.lookup ("expression" : Str) (coF c l kn sc f sh) = none := rfl
theorem coF_stat {c l kn sc f sh} : List.lookup ("statement" : Str) (coF c l kn sc f sh) = none := rfl
theorem coF_meth {c l kn sc f sh} : List.lookup ("method" : Str) (coF c l kn sc f sh) = none := rfl
/-- the coder: what it owns is not in the frame F, which stays -/
structure Co (C : Addr) (F H : Hp) (a c l sc : Addr) (code : List (Str × Int)) (lits : List V) (scs : List V) : Prop where
  ho : ∃ dx kn f sh, H a = some (.ins C dx (coF c l kn sc f sh))
  hc : CodeAt H c code
  hl : H l = some (.lst lits)
  hs : H sc = some (.lst scs)
  cl : c ≠ l
  cs : c ≠ sc
  ls : l ≠ sc
  fc : F c = none
  fl : F l = none
  fs : F sc = none
  sm : Same F H
theorem Co.same {C : Addr} {F H H' : Hp} {a c l sc : Addr} {code : List (Str × Int)} {lits scs : List V} (Z : Co C F H a c l sc code lits scs) (s : Same H H') : Co C F H' a c l sc code lits scs := by
  obtain ⟨⟨dx, kn, f, sh, h⟩, h1, h2, h3, h4, h5, h6, h7, h8, h9, h10⟩ := Z
  exact ⟨⟨dx, kn, f, sh, s _ _ h⟩, h1.same s, s _ _ h2, s _ _ h3, h4, h5, h6, h7, h8, h9, sm_trans h10 s⟩
/-- something new comes into the frame -/
theorem Co.more {C : Addr} {F H : Hp} {a c l sc p : Addr} {o : HO} {code : List (Str × Int)} {lits scs : List V} (Z : Co C F H a c l sc code lits scs) (hp : H p = none) : Co C (upd F p o) (upd H p o) a c l sc code lits scs := by
  have Z2 := Z.same (same_new (o := o) hp)
  obtain ⟨as, g, _⟩ := Z.hc
  have n1 : c ≠ p := ne_of_none g hp
  have n2 : l ≠ p := ne_of_none Z.hl hp
  have n3 : sc ≠ p := ne_of_none Z.hs hp
  refine ⟨Z2.ho, Z2.hc, Z2.hl, Z2.hs, Z.cl, Z.cs, Z.ls, by rw [upd_ne n1]; exact Z.fc, by rw [upd_ne n2]; exact Z.fl, by rw [upd_ne n3]; exact Z.fs, fun b x e => ?_⟩
  by_cases hb : b = p
  · subst hb
    rw [upd_same] at e ⊢
    exact e
  · rw [upd_ne hb] at e ⊢
    exact Z.sm _ _ e
theorem ne_at {H : Hp} {a b : Addr} {o u : HO} (h : H a = some o) (g : H b = some u) (n : o ≠ u) : a ≠ b := fun z => by
  subst z
  rw [h] at g
  exact n (Option.some.inj g)
theorem Co.setc {C : Addr} {F H : Hp} {a c l sc : Addr} {code : List (Str × Int)} {lits scs : List V} (Z : Co C F H a c l sc code lits scs) (as : List Addr) (code' : List (Str × Int)) (hlen : as.length = code'.length)
    (hel : ∀ (i : Nat) (x : Addr) (op : Str) (arg : Int), as[i]? = some x → code'[i]? = some (op, arg) → H x = some (.tup [.str op, .int arg])) : Co C F (upd H c (.lst (as.map V.ref))) a c l sc code' lits scs := by
  obtain ⟨⟨dx, kn, f, sh, h⟩, ⟨as0, g0, _⟩, h2, h3, h4, h5, h6, h7, h8, h9, h10⟩ := Z
  have nac : a ≠ c := ne_at h g0 (fun z => by cases z)
  refine ⟨⟨dx, kn, f, sh, by rw [upd_ne nac]; exact h⟩, ⟨as, upd_same, hlen, fun i x op arg e1 e2 => ?_⟩, by rw [upd_ne (Ne.symm h4)]; exact h2, by rw [upd_ne (Ne.symm h5)]; exact h3, h4, h5, h6, h7, h8, h9, sm_upd h10 h7⟩
  have g := hel i x op arg e1 e2
  rw [upd_ne (ne_at g g0 (fun z => by cases z))]
  exact g
theorem Co.setl {C : Addr} {F H : Hp} {a c l sc : Addr} {code : List (Str × Int)} {lits scs : List V} (Z : Co C F H a c l sc code lits scs) (lits' : List V) : Co C F (upd H l (.lst lits')) a c l sc code lits' scs := by
  obtain ⟨⟨dx, kn, f, sh, h⟩, ⟨as0, g0, la, hel⟩, h2, h3, h4, h5, h6, h7, h8, h9, h10⟩ := Z
  refine ⟨⟨dx, kn, f, sh, by rw [upd_ne (ne_at h h2 (fun z => by cases z))]; exact h⟩, ⟨as0, by rw [upd_ne h4]; exact g0, la, fun i x op arg e1 e2 => ?_⟩, upd_same, by rw [upd_ne (Ne.symm h6)]; exact h3, h4, h5, h6, h7, h8, h9, sm_upd h10 h8⟩
  have g := hel i x op arg e1 e2
  rw [upd_ne (ne_at g h2 (fun z => by cases z))]
  exact g
theorem Co.sets {C : Addr} {F H : Hp} {a c l sc : Addr} {code : List (Str × Int)} {lits scs : List V} (Z : Co C F H a c l sc code lits scs) (scs' : List V) : Co C F (upd H sc (.lst scs')) a c l sc code lits scs' := by
  obtain ⟨⟨dx, kn, f, sh, h⟩, ⟨as0, g0, la, hel⟩, h2, h3, h4, h5, h6, h7, h8, h9, h10⟩ := Z
  refine ⟨⟨dx, kn, f, sh, by rw [upd_ne (ne_at h h3 (fun z => by cases z))]; exact h⟩, ⟨as0, by rw [upd_ne h5]; exact g0, la, fun i x op arg e1 e2 => ?_⟩, by rw [upd_ne h6]; exact h2, upd_same, h4, h5, h6, h7, h8, h9, sm_upd h10 h9⟩
  have g := hel i x op arg e1 e2
  rw [upd_ne (ne_at g h3 (fun z => by cases z))]
  exact g
/-- one thing more in the code -/
theorem Co.push {C : Addr} {F H : Hp} {a c l sc t : Addr} {code : List (Str × Int)} {lits scs : List V} {as : List Addr} {op : Str} {arg : Int} (Z : Co C F H a c l sc code lits scs) (gc : H c = some (.lst (as.map V.ref))) (la : as.length = code.length)
    (hca : ∀ (i : Nat) (a : Addr) (op : Str) (arg : Int), as[i]? = some a → code[i]? = some (op, arg) → H a = some (.tup [.str op, .int arg])) (ht : H t = none) :
    Co C F (upd (upd H t (.tup [.str op, .int arg])) c (.lst (as.map V.ref ++ [.ref t]))) a c l sc (code ++ [(op, arg)]) lits scs := by
  have s := same_new (o := HO.tup [V.str op, V.int arg]) ht
  have e : as.map V.ref ++ [V.ref t] = (as ++ [t]).map V.ref := by rw [List.map_append]; rfl
  rw [e]
  refine (Z.same s).setc (as ++ [t]) _ (by rw [List.length_append, List.length_append, la]; rfl) fun i x op' arg' e1 e2 => ?_
  by_cases hi : i < as.length
  · rw [List.getElem?_append_left hi] at e1
    rw [List.getElem?_append_left (by omega)] at e2
    exact s _ _ (hca i x op' arg' e1 e2)
  · rw [List.getElem?_append_right (by omega)] at e1
    rw [List.getElem?_append_right (by omega), ← la] at e2
    have hz : i - as.length = 0 := by
      have := (List.getElem?_eq_some_iff.mp e1).1
      exact Nat.lt_one_iff.mp this
    rw [hz] at e1 e2
    cases e1
    cases e2
    exact upd_same
def sp_coder (C : Addr) : Sp := fun vs H Q _ => ∃ (a dx p q : Addr) (F : Hp), vs = [.ref a, .ref p, .ref q] ∧ H a = some (.ins C dx []) ∧ H p = some (.lst []) ∧ H q = some (.lst []) ∧ Same F H ∧ F a = none ∧
  ∀ H' c l sc, Co C F H' a c l sc [] [] [] → Q .non H'
theorem sp_coder_len {C vs H Q E} (h : sp_coder C vs H Q E) : vs.length = (["self", "fields", "globals_known"] : List Str).length := by
  obtain ⟨_, _, _, _, _, rfl, _⟩ := h
  rfl
section
variable {P : Program} {w : World} {K : PySem.W.Frag} {mg : Str → Option Value} {base : Heap} {A : Ad}
theorem ok_Coder___init__ (T : Txt K mg A) : FnOk P w K mg base CX0 1 A.f_Coder___init__ A.d_Coder___init__ ["self", "fields", "globals_known"] (sp_coder A.C_Coder) := by
  refine Fun.ok T.F_Coder___init__ sc_Coder___init__ (fun vs H Q E h => ?_) (fun cdv Ar outer s H vs Q E hr h => ?_)
  · exact sp_coder_len h
  · have hu := hu_of hr
    refine ⟨_, (pss_cons (ps_fld (pv 0) (pe_lst pa_nil) rfl)
    (pss_cons (ps_fld (pv 0) (pe_lst pa_nil) rfl)
    (pss_cons (ps_fld (pv 0) pe_dnewK rfl)
    (pss_cons (ps_fld (pv 0) (pe_lst pa_nil) rfl)
    (pss_cons (ps_fld (pv 0) (pe_dc (own := [("k", 3), ("name", 4)]) (g := gTup _ 2 (gCons (gName 3) (gCons (gName 4) gNil))) rfl sc_Coder___init__.nd (pi_enum (by rfl) T.z_enumerate (pa_cons (pv 1) pa_nil)) (blkOk_by (own := [("k", 3), ("name", 4)]) (N := ["self", "fields", "globals_known", "k", "name"]) (sc := defScope s_Coder___init__) (by decide +kernel)) (fun _ _ _ _ _ => (pg_tup (by rfl) (pgs_cons (pg_name (i := 3) sc_Coder___init__.nd rfl (Or.inl rfl)) (pgs_cons (pg_name (i := 4) sc_Coder___init__.nd rfl (Or.inl rfl)) pgs_nil)))) (fun _ _ _ _ _ => pts_nil) (fun _ _ _ _ _ => (pv 4)) (fun _ _ _ _ _ => (pv 3))) rfl)
    (pss_one (ps_fld (pv 0) (pe_dc (own := [("name", 4)]) (g := gName 4) rfl sc_Coder___init__.nd (pi_list (pv 2)) (blkOk_by (own := [("name", 4)]) (N := ["self", "fields", "globals_known", "k", "name"]) (sc := defScope s_Coder___init__) (by decide +kernel)) (fun _ _ _ _ _ => pg_name (i := 4) sc_Coder___init__.nd rfl (Or.inl rfl)) (fun _ _ _ _ _ => pts_nil) (fun _ _ _ _ _ => (pv 4)) (fun _ _ _ _ _ => pe_bl)) rfl))))))), ?_⟩
    obtain ⟨a, dx, p, q, F, rfl, ha, hp, hq, sF, fa, k⟩ := h
    have hpa : p ≠ a := ne_at hp ha (fun z => by cases z)
    have hqa : q ≠ a := ne_at hq ha (fun z => by cases z)
    obtain ⟨G, Ga, sG, sFG, Gp, Gq⟩ : ∃ G : Hp, G a = none ∧ Same G H ∧ Same F G ∧ G p = some (.lst []) ∧ G q = some (.lst []) := by
      refine ⟨fun b => if b = a then none else H b, if_pos rfl, fun b x e => ?_, fun b x e => ?_, ?_, ?_⟩
      · by_cases hb : b = a
        · have e' : (if b = a then none else H b) = some x := e
          rw [if_pos hb] at e'
          cases e'
        · have e' : (if b = a then none else H b) = some x := e
          rw [if_neg hb] at e'
          exact e'
      · have hb : b ≠ a := fun z => by
          rw [z, fa] at e
          cases e
        show (if b = a then none else H b) = some x
        rw [if_neg hb]
        exact sF _ _ e
      · show (if p = a then none else H p) = _
        rw [if_neg hpa]
        exact hp
      · show (if q = a then none else H q) = _
        rw [if_neg hqa]
        exact hq
    simp! only [ha, T.cl_Coder, T.no_Coder_code, T.no_Coder_literals, T.no_Coder_known, T.no_Coder_scopes, T.no_Coder_fields, T.no_Coder_shared]
    refine ⟨Nat.zero_le _, fun c hc => ?_⟩
    have Gc := no_of sG hc
    have hac := ne_of_none ha hc
    have sm1 := sm_trans sG (same_new (o := HO.lst []) hc)
    have ga1 := same_new (o := HO.lst []) hc _ _ ha
    have gc1 : upd H c (HO.lst []) c = some (HO.lst []) := upd_same
    generalize upd H c (HO.lst []) = H1 at sm1 ga1 gc1 ⊢
    refine ⟨_, _, _, ga1, T.cl_Coder, T.no_Coder_code, by show 0 < 1000; decide, Nat.zero_le _, fun l hl => ?_⟩
    have sm2 := sm_upd (o := HO.ins A.C_Coder dx (putF (Str.ofString "code") (V.ref c) [])) sm1 Ga
    have ga2 : upd H1 a (HO.ins A.C_Coder dx (putF (Str.ofString "code") (V.ref c) [])) a = some (HO.ins A.C_Coder dx (putF (Str.ofString "code") (V.ref c) [])) := upd_same
    have gc2 : upd H1 a (HO.ins A.C_Coder dx (putF (Str.ofString "code") (V.ref c) [])) c = some (HO.lst []) := by rw [upd_ne (Ne.symm hac)]; exact gc1
    generalize upd H1 a (HO.ins A.C_Coder dx (putF (Str.ofString "code") (V.ref c) [])) = H2 at sm2 ga2 gc2 hl ⊢
    have Gl := no_of sm2 hl
    have hal := ne_of_none ga2 hl
    have hcl := ne_of_none gc2 hl
    have sm3 := sm_trans sm2 (same_new (o := HO.lst []) hl)
    have ga3 := same_new (o := HO.lst []) hl _ _ ga2
    have gc3 := same_new (o := HO.lst []) hl _ _ gc2
    have gl3 : upd H2 l (HO.lst []) l = some (HO.lst []) := upd_same
    generalize upd H2 l (HO.lst []) = H3 at sm3 ga3 gc3 gl3 ⊢
    refine ⟨_, _, _, ga3, T.cl_Coder, T.no_Coder_literals, by show 1 < 1000; decide, fun kn hkn => ?_⟩
    have sm4 := sm_upd (o := HO.ins A.C_Coder dx (putF (Str.ofString "literals") (V.ref l) (putF (Str.ofString "code") (V.ref c) []))) sm3 Ga
    have ga4 : upd H3 a (HO.ins A.C_Coder dx (putF (Str.ofString "literals") (V.ref l) (putF (Str.ofString "code") (V.ref c) []))) a = some (HO.ins A.C_Coder dx (putF (Str.ofString "literals") (V.ref l) (putF (Str.ofString "code") (V.ref c) []))) := upd_same
    have gc4 : upd H3 a (HO.ins A.C_Coder dx (putF (Str.ofString "literals") (V.ref l) (putF (Str.ofString "code") (V.ref c) []))) c = some (HO.lst []) := by rw [upd_ne (Ne.symm hac)]; exact gc3
    have gl4 : upd H3 a (HO.ins A.C_Coder dx (putF (Str.ofString "literals") (V.ref l) (putF (Str.ofString "code") (V.ref c) []))) l = some (HO.lst []) := by rw [upd_ne (Ne.symm hal)]; exact gl3
    generalize upd H3 a (HO.ins A.C_Coder dx (putF (Str.ofString "literals") (V.ref l) (putF (Str.ofString "code") (V.ref c) []))) = H4 at sm4 ga4 gc4 gl4 hkn ⊢
    have sk := same_new (o := HO.dK []) hkn
    have sm5 := sm_trans sm4 sk
    have ga5 := sk _ _ ga4
    have gc5 := sk _ _ gc4
    have gl5 := sk _ _ gl4
    generalize upd H4 kn (HO.dK []) = H5 at sm5 ga5 gc5 gl5 ⊢
    refine ⟨_, _, _, ga5, T.cl_Coder, T.no_Coder_known, by show 2 < 1000; decide, Nat.zero_le _, fun sc hsc => ?_⟩
    have sm6 := sm_upd (o := HO.ins A.C_Coder dx (putF (Str.ofString "known") (V.ref kn) (putF (Str.ofString "literals") (V.ref l) (putF (Str.ofString "code") (V.ref c) [])))) sm5 Ga
    have ga6 : upd H5 a (HO.ins A.C_Coder dx (putF (Str.ofString "known") (V.ref kn) (putF (Str.ofString "literals") (V.ref l) (putF (Str.ofString "code") (V.ref c) [])))) a = some (HO.ins A.C_Coder dx (putF (Str.ofString "known") (V.ref kn) (putF (Str.ofString "literals") (V.ref l) (putF (Str.ofString "code") (V.ref c) [])))) := upd_same
    have gc6 : upd H5 a (HO.ins A.C_Coder dx (putF (Str.ofString "known") (V.ref kn) (putF (Str.ofString "literals") (V.ref l) (putF (Str.ofString "code") (V.ref c) [])))) c = some (HO.lst []) := by rw [upd_ne (Ne.symm hac)]; exact gc5
    have gl6 : upd H5 a (HO.ins A.C_Coder dx (putF (Str.ofString "known") (V.ref kn) (putF (Str.ofString "literals") (V.ref l) (putF (Str.ofString "code") (V.ref c) [])))) l = some (HO.lst []) := by rw [upd_ne (Ne.symm hal)]; exact gl5
    generalize upd H5 a (HO.ins A.C_Coder dx (putF (Str.ofString "known") (V.ref kn) (putF (Str.ofString "literals") (V.ref l) (putF (Str.ofString "code") (V.ref c) [])))) = H6 at sm6 ga6 gc6 gl6 hsc ⊢
    have Gs := no_of sm6 hsc
    have has := ne_of_none ga6 hsc
    have hcs := ne_of_none gc6 hsc
    have hls := ne_of_none gl6 hsc
    have ss := same_new (o := HO.lst []) hsc
    have sm7 := sm_trans sm6 ss
    have ga7 := ss _ _ ga6
    have gc7 := ss _ _ gc6
    have gl7 := ss _ _ gl6
    have gs7 : upd H6 sc (HO.lst []) sc = some (HO.lst []) := upd_same
    generalize upd H6 sc (HO.lst []) = H7 at sm7 ga7 gc7 gl7 gs7 ⊢
    refine ⟨_, _, _, ga7, T.cl_Coder, T.no_Coder_scopes, by show 3 < 1000; decide, ?_⟩
    have sm8 := sm_upd (o := HO.ins A.C_Coder dx (putF (Str.ofString "scopes") (V.ref sc) (putF (Str.ofString "known") (V.ref kn) (putF (Str.ofString "literals") (V.ref l) (putF (Str.ofString "code") (V.ref c) []))))) sm7 Ga
    have ga8 : upd H7 a (HO.ins A.C_Coder dx (putF (Str.ofString "scopes") (V.ref sc) (putF (Str.ofString "known") (V.ref kn) (putF (Str.ofString "literals") (V.ref l) (putF (Str.ofString "code") (V.ref c) []))))) a = some (HO.ins A.C_Coder dx (putF (Str.ofString "scopes") (V.ref sc) (putF (Str.ofString "known") (V.ref kn) (putF (Str.ofString "literals") (V.ref l) (putF (Str.ofString "code") (V.ref c) []))))) := upd_same
    have gc8 : upd H7 a (HO.ins A.C_Coder dx (putF (Str.ofString "scopes") (V.ref sc) (putF (Str.ofString "known") (V.ref kn) (putF (Str.ofString "literals") (V.ref l) (putF (Str.ofString "code") (V.ref c) []))))) c = some (HO.lst []) := by rw [upd_ne (Ne.symm hac)]; exact gc7
    have gl8 : upd H7 a (HO.ins A.C_Coder dx (putF (Str.ofString "scopes") (V.ref sc) (putF (Str.ofString "known") (V.ref kn) (putF (Str.ofString "literals") (V.ref l) (putF (Str.ofString "code") (V.ref c) []))))) l = some (HO.lst []) := by rw [upd_ne (Ne.symm hal)]; exact gl7
    have gs8 : upd H7 a (HO.ins A.C_Coder dx (putF (Str.ofString "scopes") (V.ref sc) (putF (Str.ofString "known") (V.ref kn) (putF (Str.ofString "literals") (V.ref l) (putF (Str.ofString "code") (V.ref c) []))))) sc = some (HO.lst []) := by rw [upd_ne (Ne.symm has)]; exact gs7
    generalize upd H7 a (HO.ins A.C_Coder dx (putF (Str.ofString "scopes") (V.ref sc) (putF (Str.ofString "known") (V.ref kn) (putF (Str.ofString "literals") (V.ref l) (putF (Str.ofString "code") (V.ref c) []))))) = H8 at sm8 ga8 gc8 gl8 gs8 ⊢
    clear ga1 ga2 ga3 ga4 ga5 ga6 ga7 gc1 gc2 gc3 gc4 gc5 gc6 gc7 gl3 gl4 gl5 gl6 gl7 gs7 sm1 sm2 sm3 sm4 sm5 sm6 sm7 sk ss
    refine dc_enumE (a := p) (fun R h => ⟨_, rfl, h⟩) (sm8 _ _ Gp) fun fd hfd => ?_
    have sA := same_new (o := HO.dK []) hfd
    have sm9 := sm_trans sm8 sA
    have ga9 := sA _ _ ga8
    have gc9 := sA _ _ gc8
    have gl9 := sA _ _ gl8
    have gs9 := sA _ _ gs8
    generalize upd H8 fd (HO.dK []) = H9 at sm9 ga9 gc9 gl9 gs9 ⊢
    refine ⟨_, _, _, ga9, T.cl_Coder, T.no_Coder_fields, by show 4 < 1000; decide, ?_⟩
    have smA := sm_upd (o := (HO.ins A.C_Coder dx (putF (Str.ofString "fields") (V.ref fd) (putF (Str.ofString "scopes") (V.ref sc) (putF (Str.ofString "known") (V.ref kn) (putF (Str.ofString "literals") (V.ref l) (putF (Str.ofString "code") (V.ref c) []))))))) sm9 Ga
    have gaA : upd H9 a (HO.ins A.C_Coder dx (putF (Str.ofString "fields") (V.ref fd) (putF (Str.ofString "scopes") (V.ref sc) (putF (Str.ofString "known") (V.ref kn) (putF (Str.ofString "literals") (V.ref l) (putF (Str.ofString "code") (V.ref c) [])))))) a = some (HO.ins A.C_Coder dx (putF (Str.ofString "fields") (V.ref fd) (putF (Str.ofString "scopes") (V.ref sc) (putF (Str.ofString "known") (V.ref kn) (putF (Str.ofString "literals") (V.ref l) (putF (Str.ofString "code") (V.ref c) [])))))) := upd_same
    have gcA : upd H9 a (HO.ins A.C_Coder dx (putF (Str.ofString "fields") (V.ref fd) (putF (Str.ofString "scopes") (V.ref sc) (putF (Str.ofString "known") (V.ref kn) (putF (Str.ofString "literals") (V.ref l) (putF (Str.ofString "code") (V.ref c) [])))))) c = some (HO.lst []) := by rw [upd_ne (Ne.symm hac)]; exact gc9
    have glA : upd H9 a (HO.ins A.C_Coder dx (putF (Str.ofString "fields") (V.ref fd) (putF (Str.ofString "scopes") (V.ref sc) (putF (Str.ofString "known") (V.ref kn) (putF (Str.ofString "literals") (V.ref l) (putF (Str.ofString "code") (V.ref c) [])))))) l = some (HO.lst []) := by rw [upd_ne (Ne.symm hal)]; exact gl9
    have gsA : upd H9 a (HO.ins A.C_Coder dx (putF (Str.ofString "fields") (V.ref fd) (putF (Str.ofString "scopes") (V.ref sc) (putF (Str.ofString "known") (V.ref kn) (putF (Str.ofString "literals") (V.ref l) (putF (Str.ofString "code") (V.ref c) [])))))) sc = some (HO.lst []) := by rw [upd_ne (Ne.symm has)]; exact gs9
    generalize upd H9 a (HO.ins A.C_Coder dx (putF (Str.ofString "fields") (V.ref fd) (putF (Str.ofString "scopes") (V.ref sc) (putF (Str.ofString "known") (V.ref kn) (putF (Str.ofString "literals") (V.ref l) (putF (Str.ofString "code") (V.ref c) [])))))) = HA at smA gaA gcA glA gsA ⊢
    refine dc_listE (a := q) (fun R h => ⟨_, rfl, h⟩) (smA _ _ Gq) fun sh hsh => ?_
    have sB := same_new (o := HO.dK []) hsh
    have smB := sm_trans smA sB
    have gaB := sB _ _ gaA
    have gcB := sB _ _ gcA
    have glB := sB _ _ glA
    have gsB := sB _ _ gsA
    generalize upd HA sh (HO.dK []) = HB at smB gaB gcB glB gsB ⊢
    refine ⟨_, _, _, gaB, T.cl_Coder, T.no_Coder_shared, by show 5 < 1000; decide, ?_⟩
    refine k _ c l sc ⟨⟨dx, kn, fd, sh, upd_same⟩, ⟨[], by rw [upd_ne (Ne.symm hac)]; exact gcB, rfl, fun i x op arg e _ => by cases e⟩, by rw [upd_ne (Ne.symm hal)]; exact glB, by rw [upd_ne (Ne.symm has)]; exact gsB, hcl, hcs, hls, no_of sFG Gc, no_of sFG Gl, no_of sFG Gs, sm_trans sFG (sm_upd smB Ga)⟩
end

def sp_emit (C : Addr) : Sp := fun vs H Q _ => ∃ (a c l sc : Addr) (op : Str) (arg : Int) (F : Hp) (code : List (Str × Int)) (lits scs : List V), vs = [.ref a, .str op, .int arg] ∧ Co C F H a c l sc code lits scs ∧ code.length ≤ 100 ∧
  ∀ H', Co C F H' a c l sc (code ++ [(op, arg)]) lits scs → Q (.int code.length) H'
theorem sp_emit_len {C vs H Q E} (h : sp_emit C vs H Q E) : vs.length = (["self", "op", "arg"] : List Str).length := by
  obtain ⟨_, _, _, _, _, _, _, _, _, _, rfl, _⟩ := h
  rfl
section
variable {P : Program} {w : World} {K : PySem.W.Frag} {mg : Str → Option Value} {base : Heap} {A : Ad}
theorem ok_Coder_emit (T : Txt K mg A) : FnOk P w K mg base CX0 1 A.f_Coder_emit A.d_Coder_emit ["self", "op", "arg"] (sp_emit A.C_Coder) := by
  refine FunD.ok T.F_Coder_emit sc_Coder_emit (fun vs H Q E h => ?_) (fun cdv Ar outer s H vs Q E hr h => ?_)
  · exact sp_emit_len h
  · have hu := hu_of hr
    refine ⟨_, (pss_cons (ps_expr (pe_bmM PySem.F.slot_list_append PySem.F.type_list_append mt_append (pe_fld (pv 0) rfl) (pa_cons (pe_tup (pa_cons (pv 1) (pa_cons (pv 2) pa_nil))) pa_nil)))
    (pss_one (ps_ret (pe_op op_sub (pe_callB call_lenM (by rfl) T.z_len PySem.boot_len (pa_cons (pe_fld (pv 0) rfl) pa_nil)) pe_int)))), ?_⟩
    obtain ⟨a, c, l, sc, op, arg, F, code, lits, scs, rfl, Z, hl, k⟩ := h
    obtain ⟨dx, kn, f, sh, ho⟩ := Z.ho
    obtain ⟨as, gc, la, hca⟩ := Z.hc
    simp! only [ho, T.cl_Coder, T.no_Coder_code, coF_code]
    rw [gc]
    dsimp only
    refine ⟨by decide, fun t ht => ?_⟩
    have Z2 := Z.push (op := op) (arg := arg) gc la hca ht
    have hz : (200 : Nat) < sizeLine := by decide
    refine ⟨_, same_new ht _ _ gc, by rw [List.length_map]; omega, ?_⟩
    have g2 : upd (upd H t (HO.tup [V.str op, V.int arg])) c (HO.lst (as.map V.ref ++ [V.ref t])) c = some (HO.lst (as.map V.ref ++ [V.ref t])) := upd_same
    generalize upd (upd H t (HO.tup [V.str op, V.int arg])) c (HO.lst (as.map V.ref ++ [V.ref t])) = H2 at Z2 g2 ⊢
    obtain ⟨dx2, kn2, f2, sh2, ho2⟩ := Z2.ho
    refine ⟨_, _, _, ho2, T.cl_Coder, T.no_Coder_code, _, coF_code, c, rfl, ?_⟩
    rw [g2]
    dsimp only
    rw [List.length_append, List.length_map, List.length_singleton, la, show ((code.length + 1 : Nat) : Int) - 1 = (code.length : Int) by omega]
    exact k H2 Z2
end

theorem setI_nat {xs : List V} {i : Nat} {v : V} (h : i < xs.length) : setI xs (i : Int) v = some (xs.set i v) := by
  have : ixN xs.length (i : Int) = some i := by
    unfold ixN
    rw [if_pos (by omega), if_pos (by omega), Int.toNat_natCast]
  unfold setI
  rw [this]
  rfl
def sp_land (K : PySem.W.Frag) (C : Addr) : Sp := fun vs H Q _ => ∃ (a c l sc j : Addr) (p : Nat) (op : Str) (x : Int) (F : Hp) (code : List (Str × Int)) (lits scs : List V), vs = [.ref a, .ref j] ∧ Co C F H a c l sc code lits scs ∧ code.length ≤ 100 ∧ F j = some (.lst [.int p]) ∧ code[p]? = some (op, x) ∧
  ∀ H', Co C F H' a c l sc (code.set p (op, (code.length : Int))) lits scs → Q .non H'
theorem sp_land_len {K C vs H Q E} (h : sp_land K C vs H Q E) : vs.length = (["self", "jumps"] : List Str).length := by
  obtain ⟨_, _, _, _, _, _, _, _, _, _, _, _, rfl, _⟩ := h
  rfl
section
variable {P : Program} {w : World} {K : PySem.W.Frag} {mg : Str → Option Value} {base : Heap} {A : Ad}
theorem ok_Coder_land (T : Txt K mg A) : FnOk P w K mg base CX0 1 A.f_Coder_land A.d_Coder_land ["self", "jumps"] (sp_land K A.C_Coder) := by
  refine Fun.ok T.F_Coder_land sc_Coder_land (fun vs H Q E h => ?_) (fun cdv Ar outer s H vs Q E hr h => ?_)
  · exact sp_land_len h
  · have hu := hu_of hr
    refine ⟨_, (pss_one (ps_for PassesOwn.never rfl (pi_list (pv 1)) (pg_name (i := 2) sc_Coder_land.nd rfl (Or.inl rfl))
      (pss_one (ps_asg (pe_tup (pa_cons (pe_ix ix_tup (pe_ix ix_lstM (pe_fld (pv 0) rfl) (pv 2) (fun _ _ => rfl)) pe_int (fun _ _ => rfl)) (pa_cons (pe_callB call_lenM (by rfl) T.z_len PySem.boot_len (pa_cons (pe_fld (pv 0) rfl) pa_nil)) pa_nil))) (pg_sub (pe_fld (pv 0) rfl) (pv 2) set_lstM))))), ?_⟩
    obtain ⟨a, c, l, sc, j, p, op, x, F, code, lits, scs, rfl, Z, hl, fj, hp, k⟩ := h
    refine ⟨_, rfl, _, rfl, ⟨_, .inl (.inl (Z.sm _ _ fj))⟩, L2.for_list (K := K) (a := j) (xs := [.int p]) (fun i σ' H' => ∃ (c2 : Option V), σ' = [some (.ref a), some (.ref j), c2] ∧ ((i = 0 ∧ Co A.C_Coder F H' a c l sc code lits scs) ∨ (i = 1 ∧ Co A.C_Coder F H' a c l sc (code.set p (op, (code.length : Int))) lits scs))) ⟨_, rfl, .inl ⟨rfl, Z⟩⟩ ?_ ?_ ?_⟩
    · rintro i σ' H' _ ⟨_, rfl, h⟩
      rcases h with ⟨_, Z1⟩ | ⟨_, Z1⟩
      · exact .inl (.inl (Z1.sm _ _ fj))
      · exact .inl (.inl (Z1.sm _ _ fj))
    · rintro i y σ' H' hy ⟨_, rfl, h⟩
      have hi0 : i = 0 := Nat.lt_one_iff.mp (List.getElem?_eq_some_iff.mp hy).1
      subst hi0
      cases hy
      rcases h with ⟨_, Z1⟩ | ⟨h1, _⟩
      · obtain ⟨dx, kn, f, sh, ho⟩ := Z1.ho
        obtain ⟨as, gc, la, hca⟩ := Z1.hc
        simp! only [ho, gc, T.cl_Coder, T.no_Coder_code, coF_code]
        have hlt : p < as.length := by
          rw [la]
          exact (List.getElem?_eq_some_iff.mp hp).1
        have gp := hca p as[p] op x (List.getElem?_eq_getElem hlt) hp
        refine ⟨_, atI_nat (by rw [List.getElem?_map, List.getElem?_eq_getElem hlt]; rfl), _, rfl, _, .inl (.inl gp), _, atI_0, by decide, fun t ht => ?_⟩
        rw [List.length_map, la]
        have st := same_new (o := HO.tup [V.str op, V.int code.length]) ht
        refine ⟨_, _, _, st _ _ ho, T.cl_Coder, T.no_Coder_code, _, coF_code, c, rfl, ?_⟩
        rw [st _ _ gc]
        dsimp only
        have hsI : setI (as.map V.ref) (p : Int) (V.ref t) = some ((as.map V.ref).set p (V.ref t)) := setI_nat (by rw [List.length_map]; exact hlt)
        refine ⟨_, hsI, .inr ?_⟩
        rw [← List.map_set]
        refine (Z1.same st).setc (as.set p t) _ (by rw [List.length_set, List.length_set, la]) fun i y op' arg' e1 e2 => ?_
        by_cases hip : p = i
        · subst hip
          rw [List.getElem?_set_self hlt] at e1
          rw [List.getElem?_set_self (show p < code.length by omega)] at e2
          cases e1
          cases e2
          exact upd_same
        · rw [List.getElem?_set_ne hip] at e1 e2
          exact st _ _ (hca i y op' arg' e1 e2)
      · cases h1
    · rintro σ' H' ⟨_, rfl, h⟩
      rcases h with ⟨h1, _⟩ | ⟨_, Z1⟩
      · cases h1
      · simp! only [rIsL]
        exact k H' Z1
end

/-- for k, x in enumerate of nothing -/
theorem for_enumE {K : PySem.W.Frag} {ta : TA} {g : TG} {tb : TS} {D : Ends} {σ : L2.St} {H : Hp} (hta : ∀ R : List V → Hp → Prop, (∀ p H1, Same H H1 → H1 p = some (.lst []) → R [.ref p] H1) → ta σ H R) (hd : ∀ H1, Same H H1 → D.nx σ H1) : tFor (iEnum K ta) g tb D σ H :=
  hta _ fun p H1 s g => ⟨p, [], rfl, .inl (.inl g), fun i m σ' H' => i = 0 ∧ σ' = σ ∧ H' = H1, ⟨0, rfl, rfl, rfl⟩, fun i m σ' H' ⟨h1, h2, h3⟩ => by
    subst h1 h2 h3
    exact .inl ⟨⟨[], .inl (.inl g), Nat.le_refl _⟩, hd _ s⟩⟩
def sp_body (K : PySem.W.Frag) (C : Addr) : Sp := fun vs H Q _ => ∃ (a c l sc e : Addr) (F : Hp) (code : List (Str × Int)) (lits scs : List V), vs = [.ref a, .ref e] ∧ Co C F H a c l sc code lits scs ∧ code.length ≤ 100 ∧ SqT K F e [] ∧
  ∀ H', Co C F H' a c l sc (code ++ [(Str.ofString "nil", 0)]) lits scs → Q .non H'
theorem sp_body_len {K C vs H Q E} (h : sp_body K C vs H Q E) : vs.length = (["self", "statements"] : List Str).length := by
  obtain ⟨_, _, _, _, _, _, _, _, _, rfl, _⟩ := h
  rfl
section
variable {P : Program} {w : World} {K : PySem.W.Frag} {mg : Str → Option Value} {base : Heap} {A : Ad}
theorem ok_Coder_body (T : Txt K mg A) : FnOk P w K mg base CX0 2 A.f_Coder_body A.d_Coder_body ["self", "statements"] (sp_body K A.C_Coder) := by
  refine Fun.ok T.F_Coder_body sc_Coder_body (fun vs H Q E h => ?_) (fun cdv Ar outer s H vs Q E hr h => ?_)
  · exact sp_body_len h
  · have hu := hu_of hr
    refine ⟨_, (pss_cons (ps_for PassesOwn.never rfl (pi_enum (by rfl) T.z_enumerate (pa_cons (pe_call (ok_carried_out T) (hr.mono (by decide)) (by rfl) T.g_carried_out T.k_carried_out T.b_carried_out .nil pass0 (pa_cons (pv 1) pa_nil)) pa_nil)) (pg_tup (n := 2) (by rfl) (pgs_cons (pg_name (i := 2) sc_Coder_body.nd rfl (Or.inl rfl)) (pgs_cons (pg_name (i := 3) sc_Coder_body.nd rfl (Or.inl rfl)) pgs_nil)))
      (Evl.pss_cut (ps_if (pt_cmpR op_gt (pv 2) pe_int (nomark _)) (pss_one (ps_expr (pe_meth (pv 0) T.cl_Coder T.me_Coder_emit (ok_Coder_emit T) (hr.mono (by decide)) T.bd_Coder_emit.choose_spec.2 T.bd_Coder_emit.choose_spec.1 pass0 (pa_cons pe_str pa_nil)))) pss_nil)
    (pss_one (ps_expr (pe_meth (pv 0) T.cl_Coder T.me_Coder_statement okV (hr.mono (by decide)) T.b_Coder_statement .nil pass0 (pa_cons (pv 3) pa_nil))))))
    (pss_one (ps_if (pt_not (pt_truth (pv 1) (by intro _; rfl))) (pss_one (ps_expr (pe_meth (pv 0) T.cl_Coder T.me_Coder_emit (ok_Coder_emit T) (hr.mono (by decide)) T.bd_Coder_emit.choose_spec.2 T.bd_Coder_emit.choose_spec.1 pass0 (pa_cons pe_str pa_nil)))) pss_nil))), ?_⟩
    obtain ⟨a, c, l, sc, e, F, code, lits, scs, rfl, Z, hl, he, k⟩ := h
    have he0 := he.same Z.sm
    refine for_enumE (fun R hR => ⟨_, rfl, e, [], rfl, he0, .inl rfl, fun H1 p s _ g => hR p H1 s g⟩) fun H1 s1 => ?_
    have Z1 := Z.same s1
    obtain ⟨dx, kn, f, sh, ho⟩ := Z1.ho
    simp! only [ho, T.cl_Coder, coF_emit]
    exact ⟨false, .inr (.inl ⟨[], he0.same s1, rfl⟩), ite2 (fun _ => ⟨a, c, l, sc, _, 0, F, code, lits, scs, rfl, Z1, hl, k⟩) (fun h => absurd rfl h)⟩
end

/-- the code of a method whose one statement answers a block of nothing -/
def blkL (params many : Int) : List V := [.str "block", .int params, .int many, .int 2]
/-- the parts of a block's tree, in the frame -/
structure BT (K : PySem.W.Frag) (F : Hp) (t p q e : Addr) (xs ys : List V) (ns : List (Str × Int)) : Prop where
  t : SqT K F t [.str "block", .ref p, .ref q, .ref e, .int 2]
  p : SqT K F p xs
  q : SqT K F q ys
  e : SqT K F e []
  n : NmAt K F (xs ++ ys) ns
  l : ns.length ≤ 1000
theorem NmAt.same {K : PySem.W.Frag} {H H' : Hp} {xs : List V} {ns : List (Str × Int)} (h : NmAt K H xs ns) (s : Same H H') : NmAt K H' xs ns :=
  ⟨h.1, fun i n a e => let ⟨b, h1, h2⟩ := h.2 i n a e; ⟨b, h1, h2.same s⟩⟩
theorem OutE.mono {A : Ad} {E : XK} {F F' : Hp} {ns : List (Str × Int)} (h : OutE A E F ns) (s : Same F F') : OutE A E F' ns := fun H' dd x y => h H' dd (sm_trans s x) y
/-- all that stands but for what the coder changes -/
def rest (H : Hp) (c l sc : Addr) : Hp := fun b => if b = c ∨ b = l ∨ b = sc then none else H b
theorem rest_at {H : Hp} {c l sc b : Addr} {o : HO} (h : H b = some o) (h1 : b ≠ c) (h2 : b ≠ l) (h3 : b ≠ sc) : rest H c l sc b = some o := by
  unfold rest
  rw [if_neg (fun z => z.elim h1 fun z => z.elim h2 h3)]
  exact h
theorem Co.max {C : Addr} {F H : Hp} {a c l sc : Addr} {code : List (Str × Int)} {lits scs : List V} (Z : Co C F H a c l sc code lits scs) : Co C (rest H c l sc) H a c l sc code lits scs :=
  ⟨Z.ho, Z.hc, Z.hl, Z.hs, Z.cl, Z.cs, Z.ls, if_pos (.inl rfl), if_pos (.inr (.inl rfl)), if_pos (.inr (.inr rfl)), fun b x e => by
    unfold rest at e
    by_cases h : b = c ∨ b = l ∨ b = sc
    · rw [if_pos h] at e
      cases e
    · rw [if_neg h] at e
      exact e⟩
theorem Co.up {C : Addr} {F H : Hp} {a c l sc : Addr} {code : List (Str × Int)} {lits scs : List V} (Z : Co C F H a c l sc code lits scs) : Same F (rest H c l sc) := fun b x e =>
  rest_at (Z.sm _ _ e) (fun z => by rw [z, Z.fc] at e; cases e) (fun z => by rw [z, Z.fl] at e; cases e) (fun z => by rw [z, Z.fs] at e; cases e)
/-- what a block leaves: its code, and one literal -/
def sp_blockL (K : PySem.W.Frag) (A : Ad) (more : List (Str × Int)) (vs : List V) (H : Hp) (Q : VK) (E : XK) : Prop := ∃ (a t c l sc p q e : Addr) (F : Hp) (scs xs ys : List V) (ns : List (Str × Int)), vs = [.ref a, .ref t] ∧ Co A.C_Coder F H a c l sc [] [] scs ∧ scs.length ≤ 10 ∧ BT K F t p q e xs ys ns ∧ OutE A E F ns ∧
  ∀ H' F' b, Same F F' → F b = none → F' b = some (.tup (blkL xs.length ns.length)) → ns.length ≤ 255 → dupF [] ns = none → Co A.C_Coder F' H' a c l sc ([(Str.ofString "block", 0), (Str.ofString "jump", 4), (Str.ofString "nil", 0), (Str.ofString "leave", 0)] ++ more) [.ref b] scs → Q .non H'
def sp_block (K : PySem.W.Frag) (A : Ad) : Sp := sp_blockL K A []
theorem sp_block_len {K A vs H Q E} (h : sp_block K A vs H Q E) : vs.length = (["self", "tree"] : List Str).length := by
  obtain ⟨_, _, _, _, _, _, _, _, _, _, _, _, _, rfl, _⟩ := h
  rfl
section
variable {P : Program} {w : World} {K : PySem.W.Frag} {mg : Str → Option Value} {base : Heap} {A : Ad}
theorem ok_Coder_block (T : Txt K mg A) : FnOk P w K mg base (L2N.CX P w) 6 A.f_Coder_block A.d_Coder_block ["self", "tree"] (sp_block K A) := by
  refine okN T.F_Coder_block sc_Coder_block (fun vs H Q E h => ?_) (fun cdv Ar outer s H vs Q E hr h => ?_)
  · exact sp_block_len h
  · have hu := hu_of hr
    refine ⟨_, (pss_cons (ps_asg (pv 1) (pg_tup (n := 5) (by rfl) (pgs_cons (pg_name (i := 2) sc_Coder_block.nd rfl (Or.inl rfl)) (pgs_cons (pg_name (i := 3) sc_Coder_block.nd rfl (Or.inl rfl)) (pgs_cons (pg_name (i := 4) sc_Coder_block.nd rfl (Or.inl rfl)) (pgs_cons (pg_name (i := 5) sc_Coder_block.nd rfl (Or.inl rfl)) (pgs_cons (pg_name (i := 2) sc_Coder_block.nd rfl (Or.inl rfl)) pgs_nil)))))))
    (pss_cons (ps_asg (pe_callB call_lenM (by rfl) T.z_len PySem.boot_len (pa_cons (pe_fld (pv 0) rfl) pa_nil)) (pg_name (i := 6) sc_Coder_block.nd rfl (Or.inl rfl)))
    (pss_cons (ps_expr (pe_bmM PySem.F.slot_list_append PySem.F.type_list_append mt_append (pe_fld (pv 0) rfl) (pa_cons (pe_tup (pa_cons pe_str pa_nil)) pa_nil)))
    (pss_cons (ps_expr (pe_meth (pv 0) T.cl_Coder T.me_Coder_emit (ok_Coder_emit T) (hr.mono (by decide)) T.b_Coder_emit .nil pass0 (pa_cons pe_str (pa_cons (pv 6) pa_nil))))
    (pss_cons (ps_asg (pe_meth (pv 0) T.cl_Coder T.me_Coder_emit (ok_Coder_emit T) (hr.mono (by decide)) T.bd_Coder_emit.choose_spec.2 T.bd_Coder_emit.choose_spec.1 pass0 (pa_cons pe_str pa_nil)) (pg_name (i := 7) sc_Coder_block.nd rfl (Or.inl rfl)))
    (pss_cons (ps_asg (pe_makeS T.mk_Scope (ok_Scope___init__ T) (hr.mono (by decide)) (by rfl) T.m_Scope T.b_Scope___init__ (fun σ => L2N.passAt (L2N.takes_of rfl rfl rfl rfl) σ) (pa_cons (pv 3) (pa_cons (pv 4) pa_nil))) (pg_name (i := 8) sc_Coder_block.nd rfl (Or.inl rfl)))
    (pss_cons (ps_expr (pe_bmM PySem.F.slot_list_insert PySem.F.type_list_insert mt_insert (pe_fld (pv 0) rfl) (pa_cons pe_int (pa_cons (pv 8) pa_nil))))
    (pss_cons (ps_asg (pe_tup (pa_cons pe_str (pa_cons (pe_fld (pv 8) rfl) (pa_cons (pe_callB call_lenDM (by rfl) T.z_len PySem.boot_len (pa_cons (pe_fld (pv 8) rfl) pa_nil)) (pa_cons (pe_callB call_lenM (by rfl) T.z_len PySem.boot_len (pa_cons (pe_fld (pv 0) rfl) pa_nil)) pa_nil))))) (pg_sub (pe_fld (pv 0) rfl) (pv 6) set_lstM))
    (pss_cons (ps_expr (pe_meth (pv 0) T.cl_Coder T.me_Coder_body (ok_Coder_body T) (hr.mono (by decide)) T.b_Coder_body .nil pass0 (pa_cons (pv 5) pa_nil)))
    (pss_cons (ps_if (pt_not (pt_val (pe_call (ok_returns T) (hr.mono (by decide)) (by rfl) T.g_returns T.k_returns T.b_returns .nil pass0 (pa_cons (pv 5) pa_nil)))) (pss_one (ps_expr (pe_meth (pv 0) T.cl_Coder T.me_Coder_emit (ok_Coder_emit T) (hr.mono (by decide)) T.bd_Coder_emit.choose_spec.2 T.bd_Coder_emit.choose_spec.1 pass0 (pa_cons pe_str pa_nil)))) pss_nil)
    (pss_cons (ps_expr (pe_bmM PySem.F.slot_list_pop PySem.F.type_list_pop mt_popAt (pe_fld (pv 0) rfl) (pa_cons pe_int pa_nil)))
    (pss_one (ps_expr (pe_meth (pv 0) T.cl_Coder T.me_Coder_land (ok_Coder_land T) (hr.mono (by decide)) T.b_Coder_land .nil pass0 (pa_cons (pe_lst (pa_cons (pv 7) pa_nil)) pa_nil))))))))))))))), ?_⟩
    obtain ⟨a, t, c, l, sc, p, q, e, F, scs, xs, ys, ns, rfl, Z, hsl, B, kE, k⟩ := h
    have Bt := B.t.same Z.sm
    obtain ⟨dx, kn, f, sh, ho⟩ := Z.ho
    have ghl := Z.hl
    simp! only [ho, ghl, T.cl_Coder, T.no_Coder_literals, coF_lits, coF_emit]
    refine ⟨_, Bt, rfl, _, _, rfl, _, _, rfl, _, _, rfl, _, _, rfl, _, _, rfl, rfl, ?_⟩
    refine ⟨by decide, fun t1 ht1 => ?_⟩
    have s1 := same_new (o := HO.tup [V.str (Str.ofString "block")]) ht1
    refine ⟨_, s1 _ _ ghl, by show 0 < sizeLine; decide, ?_⟩
    have Z2 := (Z.same s1).setl ([] ++ [V.ref t1])
    generalize upd (upd H t1 (HO.tup [V.str (Str.ofString "block")])) l (HO.lst ([] ++ [V.ref t1])) = H2 at Z2 ⊢
    obtain ⟨dx2, kn2, f2, sh2, ho2⟩ := Z2.ho
    refine ⟨_, _, ho2, coF_emit, a, c, l, sc, _, _, F, [], _, scs, rfl, Z2, Nat.zero_le _, fun H3 Z3 => ?_⟩
    obtain ⟨dx3, kn3, f3, sh3, ho3⟩ := Z3.ho
    refine ⟨_, _, ho3, coF_emit, a, c, l, sc, _, _, F, _, _, scs, rfl, Z3, by show 1 ≤ 100; decide, fun H4 Z4 => ?_⟩
    clear ho2 ho3 Z2 Z3
    simp! only [tMakeS]
    refine fun s ds hs hds hne => ?_
    have sa := same_new (o := HO.own s) hds
    have hs2 : upd H4 ds (HO.own s) s = none := by rw [upd_ne (Ne.symm hne)]; exact hs
    have sm5 := sm_trans sa (same_new (o := HO.ins A.C_Scope ds []) hs2)
    have B4 := Z4.sm
    refine ⟨s, ds, p, q, xs, ys, ns, F, rfl, upd_same, (B.p.same B4).same sm5, (B.q.same B4).same sm5, (B.n.same B4).same sm5, B.l, sm_trans B4 sm5, kE, fun H6 ix kvs hold hix ga gix hkl h255 hd => ?_⟩
    have sm6 : Same H4 H6 := fun b o e => hold b o (fun z => by rw [z, hs] at e; cases e) (sm5 _ _ e)
    have Z6 := Z4.same sm6
    clear hold
    have U6 := Z6.up
    have M6 := Z6.max
    have ghs := Z6.hs
    obtain ⟨as6, gc6, _⟩ := Z6.hc
    have gl6 := Z6.hl
    have Fs := rest_at (c := c) (l := l) (sc := sc) ga (ne_at ga gc6 (fun z => by cases z)) (ne_at ga gl6 (fun z => by cases z)) (ne_at ga ghs (fun z => by cases z))
    have Fix := rest_at (c := c) (l := l) (sc := sc) gix (ne_at gix gc6 (fun z => by cases z)) (ne_at gix gl6 (fun z => by cases z)) (ne_at gix ghs (fun z => by cases z))
    generalize rest H6 c l sc = F6 at U6 M6 Fs Fix
    obtain ⟨dx6, kn6, f6, sh6, ho6⟩ := M6.ho
    refine ⟨rfl, _, _, _, ho6, T.cl_Coder, T.no_Coder_scopes, _, coF_scopes, sc, rfl, ?_⟩
    rw [ghs]
    dsimp only
    have hz : (100 : Nat) < sizeLine := by decide
    refine ⟨sc, rfl, scs, ghs, by omega, by decide, by decide, ?_⟩
    have Z7 := M6.sets (scs.take (Int.toNat 0) ++ [V.ref s] ++ scs.drop (Int.toNat 0))
    generalize upd H6 sc (HO.lst (scs.take (Int.toNat 0) ++ [V.ref s] ++ scs.drop (Int.toNat 0))) = H7 at Z7 ⊢
    obtain ⟨dx7, kn7, f7, sh7, ho7⟩ := Z7.ho
    obtain ⟨as7, gc7, la7, _⟩ := Z7.hc
    refine ⟨_, _, _, Z7.sm _ _ Fs, T.cl_Scope, T.no_Scope_argc, _, rfl, _, _, _, Z7.sm _ _ Fs, T.cl_Scope, T.no_Scope_indexes, _, rfl, ix, rfl, ?_⟩
    rw [Z7.sm _ _ Fix]
    dsimp only
    refine ⟨_, _, _, ho7, T.cl_Coder, T.no_Coder_code, _, coF_code, c, rfl, ?_⟩
    rw [gc7]
    dsimp only
    refine ⟨by decide, fun b hb => ?_⟩
    rw [List.length_map, la7, hkl, show ((([] ++ [(Str.ofString "block", ((0 : Nat) : Int))] ++ [(Str.ofString "jump", (0 : Int))] : List (Str × Int)).length : Nat) : Int) = 2 from rfl]
    have F6b := no_of Z7.sm hb
    have Fb := no_of U6 F6b
    have Z8 := Z7.more (o := HO.tup [V.str (Str.ofString "block"), V.int xs.length, V.int ns.length, V.int 2]) hb
    have U8 := sm_trans U6 (same_new (o := HO.tup [V.str (Str.ofString "block"), V.int xs.length, V.int ns.length, V.int 2]) F6b)
    have Fbb : upd F6 b (HO.tup [V.str (Str.ofString "block"), V.int xs.length, V.int ns.length, V.int 2]) b = some (HO.tup [V.str (Str.ofString "block"), V.int xs.length, V.int ns.length, V.int 2]) := upd_same
    generalize upd H7 b (HO.tup [V.str (Str.ofString "block"), V.int xs.length, V.int ns.length, V.int 2]) = H8 at Z8 ⊢
    generalize upd F6 b (HO.tup [V.str (Str.ofString "block"), V.int xs.length, V.int ns.length, V.int 2]) = F8 at Z8 U8 Fbb ⊢
    obtain ⟨dx8, kn8, f8, sh8, ho8⟩ := Z8.ho
    refine ⟨_, _, _, ho8, T.cl_Coder, T.no_Coder_literals, _, coF_lits, l, rfl, ?_⟩
    rw [Z8.hl]
    dsimp only
    refine ⟨_, setI_0, ?_⟩
    have Z9 := Z8.setl [V.ref b]
    generalize upd H8 l (HO.lst [V.ref b]) = H9 at Z9 ⊢
    obtain ⟨dx9, kn9, f9, sh9, ho9⟩ := Z9.ho
    have Fe := B.e.same U8
    refine ⟨_, _, ho9, coF_body, a, c, l, sc, e, F8, _, _, _, rfl, Z9, by show 2 ≤ 100; decide, Fe, fun H10 Z10 => ?_⟩
    refine ⟨e, [], rfl, Fe.same Z10.sm, .inl rfl, fun H11 sm11 => ⟨_, rfl, ite2 (fun _ => ?_) (fun hh => absurd rfl hh)⟩⟩
    have Z11 := Z10.same sm11
    obtain ⟨dx11, kn11, f11, sh11, ho11⟩ := Z11.ho
    refine ⟨_, _, ho11, coF_emit, a, c, l, sc, _, _, F8, _, _, _, rfl, Z11, by show 3 ≤ 100; decide, fun H12 Z12 => ?_⟩
    obtain ⟨dx12, kn12, f12, sh12, ho12⟩ := Z12.ho
    refine ⟨_, _, _, ho12, T.cl_Coder, T.no_Coder_scopes, _, coF_scopes, sc, rfl, ?_⟩
    rw [Z12.hs]
    dsimp only
    have ez : scs.take (Int.toNat 0) ++ [V.ref s] ++ scs.drop (Int.toNat 0) = V.ref s :: scs := by
      rw [show Int.toNat 0 = 0 from rfl, List.take_zero, List.drop_zero]
      rfl
    rw [ez] at Z12
    refine ⟨sc, V.ref s :: scs, 0, 0, V.ref s, rfl, rfl, Z12.hs, by decide, by decide, seqIndex_of (Int.le_refl 0) (by show (0 : Int) < ((scs.length + 1 : Nat) : Int); omega), rfl, ?_⟩
    have Z13 := Z12.sets ((V.ref s :: scs).eraseIdx 0)
    generalize upd H12 sc (HO.lst ((V.ref s :: scs).eraseIdx 0)) = H13 at Z13 ⊢
    obtain ⟨dx13, kn13, f13, sh13, ho13⟩ := Z13.ho
    refine ⟨_, _, ho13, coF_land, by decide, fun j hj => ?_⟩
    have F8j := no_of Z13.sm hj
    have Z14 := Z13.more (o := HO.lst [V.int ((1 : Nat) : Int)]) hj
    refine ⟨a, c, l, sc, j, 1, Str.ofString "jump", 0, _, _, _, _, rfl, Z14, by show 4 ≤ 100; decide, upd_same, rfl, fun H15 Z15 => ?_⟩
    have sj := same_new (o := HO.lst [V.int ((1 : Nat) : Int)]) F8j
    exact k H15 _ b (sm_trans U8 sj) Fb (sj _ _ Fbb) h255 hd Z15
end

def sp_expression (K : PySem.W.Frag) (A : Ad) : Sp := sp_blockL K A []
theorem sp_expression_len {K A vs H Q E} (h : sp_expression K A vs H Q E) : vs.length = (["self", "tree"] : List Str).length := by
  obtain ⟨_, _, _, _, _, _, _, _, _, _, _, _, _, rfl, _⟩ := h
  rfl
section
variable {P : Program} {w : World} {K : PySem.W.Frag} {mg : Str → Option Value} {base : Heap} {A : Ad}
theorem ok_Coder_expression (T : Txt K mg A) : FnOk P w K mg base (L2N.CX P w) 7 A.f_Coder_expression A.d_Coder_expression ["self", "tree"] (sp_expression K A) := by
  refine okN T.F_Coder_expression sc_Coder_expression (fun vs H Q E h => ?_) (fun cdv Ar outer s H vs Q E hr h => ?_)
  · exact sp_expression_len h
  · have hu := hu_of hr
    refine ⟨_, (pss_cons (ps_asg (pe_ix ix_tup (pv 1) pe_int (fun _ _ => rfl)) (pg_name (i := 2) sc_Coder_expression.nd rfl (Or.inl rfl)))
    (pss_one (ps_if (pt_cmpR op_in_seq (pv 2) (pe_tup (pa_cons pe_str (pa_cons pe_str pa_nil))) (by rfl)) (pss_one (ps_expr (pe_meth (pv 0) T.cl_Coder T.me_Coder_emit (ok_Coder_emit T) (hr.mono (by decide)) T.b_Coder_emit .nil pass0 (pa_cons pe_str (pa_cons (pe_meth (pv 0) T.cl_Coder T.me_Coder_literal okV (hr.mono (by decide)) T.b_Coder_literal .nil pass0 (pa_cons (pv 1) pa_nil)) pa_nil))))) (pss_one (ps_if (pt_cmpR op_eq (pv 2) pe_str (nomark _)) (pss_cons (ps_asg (pe_meth (pv 0) T.cl_Coder T.me_Coder_located okV (hr.mono (by decide)) T.b_Coder_located .nil pass0 (pa_cons (pe_ix ix_tup (pv 1) pe_int (fun _ _ => rfl)) (pa_cons (pe_ix ix_tup (pv 1) pe_int (fun _ _ => rfl)) pa_nil))) (pg_tup (n := 2) (by rfl) (pgs_cons (pg_name (i := 3) sc_Coder_expression.nd rfl (Or.inl rfl)) (pgs_cons (pg_name (i := 4) sc_Coder_expression.nd rfl (Or.inl rfl)) pgs_nil))))
    (pss_one (ps_expr (pe_meth (pv 0) T.cl_Coder T.me_Coder_emit (ok_Coder_emit T) (hr.mono (by decide)) T.b_Coder_emit .nil pass0 (pa_cons (pv 3) (pa_cons (pv 4) pa_nil)))))) (pss_one (ps_if (pt_cmpR op_eq (pv 2) pe_str (nomark _)) (pss_one (ps_expr (pe_meth (pv 0) T.cl_Coder T.me_Coder_setting okV (hr.mono (by decide)) T.b_Coder_setting .nil pass0 (pa_cons (pv 1) pa_nil)))) (pss_one (ps_if (pt_cmpR op_eq (pv 2) pe_str (nomark _)) (pss_one (ps_expr (pe_meth (pv 0) T.cl_Coder T.me_Coder_send okV (hr.mono (by decide)) T.b_Coder_send .nil pass0 (pa_cons (pv 1) pa_nil)))) (pss_one (ps_if (pt_cmpR op_eq (pv 2) pe_str (nomark _)) (pss_cons (ps_expr (pe_meth (pv 0) T.cl_Coder T.me_Coder_emit (ok_Coder_emit T) (hr.mono (by decide)) T.bd_Coder_emit.choose_spec.2 T.bd_Coder_emit.choose_spec.1 pass0 (pa_cons pe_str pa_nil)))
    (pss_one (ps_expr (pe_meth (pv 0) T.cl_Coder T.me_Coder_sent okV (hr.mono (by decide)) T.b_Coder_sent .nil pass0 (pa_cons pe_str (pa_cons (pe_ix ix_tup (pv 1) pe_int (fun _ _ => rfl)) (pa_cons (pe_ix ix_tup (pv 1) pe_int (fun _ _ => rfl)) pa_nil))))))) (pss_one (ps_if (pt_cmpR op_eq (pv 2) pe_str (nomark _)) (pss_one (ps_expr (pe_methE (pv 0) T.cl_Coder T.me_Coder_block (ok_Coder_block T) (hr.mono (by decide)) T.b_Coder_block (fun σ => L2N.passAt (L2N.takes_of rfl rfl rfl rfl) σ) (pa_cons (pv 1) pa_nil)))) (pss_one (ps_expr (pe_meth (pv 0) T.cl_Coder T.me_Coder_emit (ok_Coder_emit T) (hr.mono (by decide)) T.bd_Coder_emit.choose_spec.2 T.bd_Coder_emit.choose_spec.1 pass0 (pa_cons (pv 2) pa_nil))))))))))))))))), ?_⟩
    obtain ⟨a, t, c, l, sc, p, q, e, F, scs, xs, ys, ns, rfl, Z, hsl, B, kE, k⟩ := h
    have Bt := B.t.same Z.sm
    obtain ⟨dx, kn, f, sh, ho⟩ := Z.ho
    simp! only [rIn, ho, T.cl_Coder, coF_block]
    refine ⟨_, Bt, _, atI_0, by decide, fun z hz => ?_⟩
    refine ⟨_, .inr (.inl (.inl upd_same)), rfl, by decide, ite2 (fun h => absurd h (by decide)) (fun _ => ?_)⟩
    have Z1 := Z.same (same_new (o := HO.tup [V.str (Str.ofString "int"), V.str (Str.ofString "symbol")]) hz)
    generalize upd H z (HO.tup [V.str (Str.ofString "int"), V.str (Str.ofString "symbol")]) = H1 at Z1 ⊢
    obtain ⟨dx1, kn1, f1, sh1, ho1⟩ := Z1.ho
    refine ⟨rfl, ite2 (fun h => absurd (V.str.inj h) (by decide)) (fun _ => ⟨rfl, ite2 (fun h => absurd (V.str.inj h) (by decide)) (fun _ => ⟨rfl, ite2 (fun h => absurd (V.str.inj h) (by decide)) (fun _ => ⟨rfl, ite2 (fun h => absurd (V.str.inj h) (by decide)) (fun _ => ⟨rfl, ite2 (fun _ => ?_) (fun h => absurd rfl h)⟩)⟩)⟩)⟩)⟩
    exact ⟨_, _, ho1, coF_block, a, t, c, l, sc, p, q, e, F, scs, xs, ys, ns, rfl, Z1, hsl, B, kE, k⟩
end

def sp_statement (K : PySem.W.Frag) (A : Ad) : Sp := fun vs H Q E => ∃ (a st t c l sc p q e : Addr) (F : Hp) (scs xs ys : List V) (ns : List (Str × Int)), vs = [.ref a, .ref st] ∧ Co A.C_Coder F H a c l sc [] [] scs ∧ scs.length ≤ 10 ∧ SqT K F st [.str "return", .ref t, .int 1] ∧ BT K F t p q e xs ys ns ∧ OutE A E F ns ∧
  ∀ H' F' b, Same F F' → F b = none → F' b = some (.tup (blkL xs.length ns.length)) → ns.length ≤ 255 → dupF [] ns = none → Co A.C_Coder F' H' a c l sc C1 [.ref b] scs → Q .non H'
theorem sp_statement_len {K A vs H Q E} (h : sp_statement K A vs H Q E) : vs.length = (["self", "statement"] : List Str).length := by
  obtain ⟨_, _, _, _, _, _, _, _, _, _, _, _, _, _, rfl, _⟩ := h
  rfl
section
variable {P : Program} {w : World} {K : PySem.W.Frag} {mg : Str → Option Value} {base : Heap} {A : Ad}
theorem ok_Coder_statement (T : Txt K mg A) : FnOk P w K mg base (L2N.CX P w) 8 A.f_Coder_statement A.d_Coder_statement ["self", "statement"] (sp_statement K A) := by
  refine okN T.F_Coder_statement sc_Coder_statement (fun vs H Q E h => ?_) (fun cdv Ar outer s H vs Q E hr h => ?_)
  · exact sp_statement_len h
  · have hu := hu_of hr
    refine ⟨_, (pss_cons (ps_expr (pe_methE (pv 0) T.cl_Coder T.me_Coder_expression (ok_Coder_expression T) (hr.mono (by decide)) T.b_Coder_expression (fun σ => L2N.passAt (L2N.takes_of rfl rfl rfl rfl) σ) (pa_cons (pe_ix ix_tup (pv 1) pe_int (fun _ _ => rfl)) pa_nil)))
    (pss_one (ps_if (pt_cmpR op_eq (pe_ix ix_tup (pv 1) pe_int (fun _ _ => rfl)) pe_str (nomark _)) (pss_one (ps_expr (pe_meth (pv 0) T.cl_Coder T.me_Coder_emit (ok_Coder_emit T) (hr.mono (by decide)) T.bd_Coder_emit.choose_spec.2 T.bd_Coder_emit.choose_spec.1 pass0 (pa_cons pe_str pa_nil)))) pss_nil))), ?_⟩
    obtain ⟨a, st, t, c, l, sc, p, q, e, F, scs, xs, ys, ns, rfl, Z, hsl, hst, B, kE, k⟩ := h
    have St := hst.same Z.sm
    obtain ⟨dx, kn, f, sh, ho⟩ := Z.ho
    simp! only [ho, T.cl_Coder, coF_expr, coF_emit]
    refine ⟨_, St, _, atI_1, a, t, c, l, sc, p, q, e, F, scs, xs, ys, ns, rfl, Z, hsl, B, kE, fun H' F' b sF Fb F'b h255 hd Z' => ?_⟩
    obtain ⟨dx', kn', f', sh', ho'⟩ := Z'.ho
    exact ⟨_, (hst.same sF).same Z'.sm, _, atI_0, rfl, ite2 (fun _ => ⟨_, _, ho', coF_emit, a, c, l, sc, _, _, F', _, _, _, rfl, Z', by show 4 ≤ 100; decide, fun H'' Z'' => k H'' F' b sF Fb F'b h255 hd Z''⟩) (fun h => absurd rfl h)⟩
end

/-- the tree of a method: empty, or with one statement that answers a block -/
def MT (K : PySem.W.Frag) (F : Hp) (t : Addr) (blk : Bool) (params : Nat) (ns : List (Str × Int)) : Prop :=
  (blk = false ∧ ∃ (sel : Str) (p q e : Addr) (xs ys : List V), SqT K F t [.str "method", .str sel, .ref p, .ref q, .ref e] ∧ SqT K F p xs ∧ SqT K F q ys ∧ SqT K F e [] ∧ NmAt K F (xs ++ ys) ns ∧ ns.length ≤ 1000 ∧ xs.length = params) ∨
  (blk = true ∧ ∃ (sel : Str) (p0 q0 e0 st b p q e : Addr) (xs ys : List V), SqT K F t [.str "method", .str sel, .ref p0, .ref q0, .ref e0] ∧ SqT K F p0 [] ∧ SqT K F q0 [] ∧ SqT K F e0 [.ref st] ∧ SqT K F st [.str "return", .ref b, .int 1] ∧ BT K F b p q e xs ys ns ∧ xs.length = params)
theorem atI_4 {a b c d e : V} : atI [a, b, c, d, e] (4 : Int) = some e := atI_nat (j := 4) rfl
theorem out0 {A : Ad} {E : XK} {F : Hp} : OutE A E F [] := fun H' dd _ _ => ⟨fun n a e => (by cases e), fun _ h => absurd h (Nat.not_lt_zero _)⟩
theorem nm0 {K : PySem.W.Frag} {H : Hp} : NmAt K H ([] ++ []) [] := ⟨rfl, fun i n a e => by cases e⟩
theorem for_lstS {K : PySem.W.Frag} {tl : TE} {g : TG} {tb : TS} {D : Ends} {σ : L2.St} {H : Hp} (xs : List V) (htl : ∀ R : V → Hp → Prop, (∀ p H1, Same H H1 → H p = none → H1 p = some (.lst xs) → R (.ref p) H1) → tl σ H R) (Pv : Addr → Nat → L2.St → Hp → Prop)
    (h0 : ∀ p H1, Same H H1 → H p = none → H1 p = some (.lst xs) → Pv p 0 σ H1) (hl : ∀ p i σ' H', Pv p i σ' H' → H' p = some (.lst xs))
    (hs : ∀ p i x σ' H', xs[i]? = some x → Pv p i σ' H' → g x σ' H' fun σ2 H2 => tb { D with nx := Pv p (i + 1), ct := Pv p (i + 1), bk := D.nx } σ2 H2) (hd : ∀ p σ' H', Pv p xs.length σ' H' → D.nx σ' H') : tFor (iList K tl) g tb D σ H :=
  htl _ fun p H1 s n g => ⟨p, rfl, ⟨xs, .inl (.inl g)⟩, L2.for_list (K := K) (a := p) (xs := xs) (Pv p) (h0 p H1 s n g) (fun i σ' H' _ h => .inl (.inl (hl p i σ' H' h))) (hs p) (hd p)⟩
/-- a scope comes to the coder -/
theorem Co.scope {C S : Addr} {F H4 H6 : Hp} {a c l sc s ds : Addr} {code : List (Str × Int)} {lits scs : List V} (Z4 : Co C F H4 a c l sc code lits scs) (hs : H4 s = none) (hds : H4 ds = none) (hne : ds ≠ s)
    (hold : ∀ b o, b ≠ s → upd (upd H4 ds (HO.own s)) s (HO.ins S ds []) b = some o → H6 b = some o) : Co C F H6 a c l sc code lits scs := by
  have sa := same_new (o := HO.own s) hds
  have hs2 : upd H4 ds (HO.own s) s = none := by rw [upd_ne (Ne.symm hne)]; exact hs
  have sm5 := sm_trans sa (same_new (o := HO.ins S ds []) hs2)
  exact Z4.same fun b o e => hold b o (fun z => by rw [z, hs] at e; cases e) (sm5 _ _ e)
theorem sm_scope {S : Addr} {H4 : Hp} {s ds : Addr} (hs : H4 s = none) (hds : H4 ds = none) (hne : ds ≠ s) : Same H4 (upd (upd H4 ds (HO.own s)) s (HO.ins S ds [])) :=
  sm_trans (same_new (o := HO.own s) hds) (same_new (o := HO.ins S ds []) (by rw [upd_ne (Ne.symm hne)]; exact hs))
def sp_method (K : PySem.W.Frag) (A : Ad) : Sp := fun vs H Q E => ∃ (a t c l sc : Addr) (F : Hp) (blk : Bool) (params : Nat) (ns : List (Str × Int)), vs = [.ref a, .ref t] ∧ Co A.C_Coder F H a c l sc [] [] [] ∧ MT K F t blk params ns ∧ OutE A E F ns ∧
  ∀ H' F' b scs, Same F F' → ns.length ≤ 255 → dupF [] ns = none → (blk = true → F b = none ∧ F' b = some (.tup (blkL params ns.length))) → Co A.C_Coder F' H' a c l sc (if blk then C1 else C0) (if blk then [.ref b] else []) scs → Q .non H'
theorem sp_method_len {K A vs H Q E} (h : sp_method K A vs H Q E) : vs.length = (["self", "tree"] : List Str).length := by
  obtain ⟨_, _, _, _, _, _, _, _, _, rfl, _⟩ := h
  rfl
section
variable {P : Program} {w : World} {K : PySem.W.Frag} {mg : Str → Option Value} {base : Heap} {A : Ad}
theorem ok_Coder_method (T : Txt K mg A) : FnOk P w K mg base (L2N.CX P w) 9 A.f_Coder_method A.d_Coder_method ["self", "tree"] (sp_method K A) := by
  refine okN T.F_Coder_method sc_Coder_method (fun vs H Q E h => ?_) (fun cdv Ar outer s H vs Q E hr h => ?_)
  · exact sp_method_len h
  · have hu := hu_of hr
    refine ⟨_, (pss_cons (ps_expr (pe_bmM PySem.F.slot_list_insert PySem.F.type_list_insert mt_insert (pe_fld (pv 0) rfl) (pa_cons pe_int (pa_cons (pe_makeS T.mk_Scope (ok_Scope___init__ T) (hr.mono (by decide)) (by rfl) T.m_Scope T.b_Scope___init__ (fun σ => L2N.passAt (L2N.takes_of rfl rfl rfl rfl) σ) (pa_cons (pe_ix ix_tup (pv 1) pe_int (fun _ _ => rfl)) (pa_cons (pe_ix ix_tup (pv 1) pe_int (fun _ _ => rfl)) pa_nil))) pa_nil))))
    (pss_cons (ps_for (L2.passes_of rfl) rfl (pi_list (pe_call (ok_carried_out T) (hr.mono (by decide)) (by rfl) T.g_carried_out T.k_carried_out T.b_carried_out .nil pass0 (pa_cons (pe_ix ix_tup (pv 1) pe_int (fun _ _ => rfl)) pa_nil))) (pg_name (i := 2) sc_Coder_method.nd rfl (Or.inl rfl))
      (pss_cons (ps_expr (pe_methE (pv 0) T.cl_Coder T.me_Coder_statement (ok_Coder_statement T) (hr.mono (by decide)) T.b_Coder_statement (fun σ => L2N.passAt (L2N.takes_of rfl rfl rfl rfl) σ) (pa_cons (pv 2) pa_nil)))
    (pss_one (ps_if (pt_cmpR op_eq (pe_ix ix_tup (pv 2) pe_int (fun _ _ => rfl)) pe_str (nomark _)) (pss_one (ps_expr (pe_meth (pv 0) T.cl_Coder T.me_Coder_emit (ok_Coder_emit T) (hr.mono (by decide)) T.bd_Coder_emit.choose_spec.2 T.bd_Coder_emit.choose_spec.1 pass0 (pa_cons pe_str pa_nil)))) pss_nil))))
    (pss_one (ps_if (pt_not (pt_val (pe_call (ok_returns T) (hr.mono (by decide)) (by rfl) T.g_returns T.k_returns T.b_returns .nil pass0 (pa_cons (pe_ix ix_tup (pv 1) pe_int (fun _ _ => rfl)) pa_nil)))) (pss_cons (ps_expr (pe_meth (pv 0) T.cl_Coder T.me_Coder_emit (ok_Coder_emit T) (hr.mono (by decide)) T.bd_Coder_emit.choose_spec.2 T.bd_Coder_emit.choose_spec.1 pass0 (pa_cons pe_str pa_nil)))
    (pss_one (ps_expr (pe_meth (pv 0) T.cl_Coder T.me_Coder_emit (ok_Coder_emit T) (hr.mono (by decide)) T.bd_Coder_emit.choose_spec.2 T.bd_Coder_emit.choose_spec.1 pass0 (pa_cons pe_str pa_nil))))) pss_nil)))), ?_⟩
    obtain ⟨a, t, c, l, sc, F, blk, params, ns, rfl, Z, hM, kE, k⟩ := h
    obtain ⟨dx, kn, f, sh, ho⟩ := Z.ho
    rcases hM with ⟨rfl, sel, p, q, e, xs, ys, ht, hp, hq, he, hn, hl, rfl⟩ | ⟨rfl, sel, p0, q0, e0, st, b, p, q, e, xs, ys, ht, hp0, hq0, he0, hst, B, rfl⟩
    · have Tt := ht.same Z.sm
      simp! only [ho, T.cl_Coder, T.no_Coder_scopes, coF_scopes, tMakeS]
      rw [Z.hs]
      dsimp only
      refine ⟨_, Tt, _, atI_2, _, Tt, _, atI_3, fun s ds hs hds hne => ?_⟩
      have s5 := sm_trans Z.sm (sm_scope (S := A.C_Scope) hs hds hne)
      refine ⟨s, ds, p, q, xs, ys, ns, F, rfl, upd_same, hp.same s5, hq.same s5, hn.same s5, hl, s5, kE, fun H6 ix kvs hold hix ga gix hkl h255 hd => ?_⟩
      have Z6 := Z.scope hs hds hne hold
      refine ⟨rfl, [], Z6.hs, by show 0 < sizeLine; decide, by decide, by decide, ?_⟩
      have Z7 := Z6.sets (List.take (Int.toNat 0) [] ++ [V.ref s] ++ List.drop (Int.toNat 0) [])
      generalize upd H6 sc (HO.lst (List.take (Int.toNat 0) [] ++ [V.ref s] ++ List.drop (Int.toNat 0) [])) = H7 at Z7 ⊢
      have Te := he.same Z7.sm
      have T7 := ht.same Z7.sm
      refine for_lstS [] (fun R hR => ⟨_, rfl, ?_⟩) (fun pp i σ' H' => σ' = [some (.ref a), some (.ref t), none] ∧ Same H7 H' ∧ H' pp = some (.lst [])) (fun pp H1 s1 _ g => ⟨rfl, s1, g⟩) (fun pp i σ' H' h => h.2.2) (fun pp i x σ' H' hx _ => by cases hx) (fun pp σ' H' h => ?_)
      · exact ⟨t, _, 4, _, rfl, rfl, T7, atI_4, e, [], rfl, Te, .inl rfl, fun H' p s n g => hR p H' s n g⟩
      · obtain ⟨rfl, s8, g8⟩ := h
        have Z8 := Z7.same s8
        obtain ⟨dx8, kn8, f8, sh8, ho8⟩ := Z8.ho
        have T8 := ht.same Z8.sm
        simp! only [ho8, T.cl_Coder, coF_emit]
        refine ⟨_, T8, _, atI_4, e, [], rfl, he.same Z8.sm, .inl rfl, fun H9 s9 => ⟨_, rfl, ite2 (fun _ => ?_) (fun h => absurd rfl h)⟩⟩
        have Z9 := Z8.same s9
        obtain ⟨dx9, kn9, f9, sh9, ho9⟩ := Z9.ho
        refine ⟨_, _, ho9, coF_emit, a, c, l, sc, _, _, F, _, _, _, rfl, Z9, Nat.zero_le _, fun HA ZA => ?_⟩
        obtain ⟨dxA, knA, fA, shA, hoA⟩ := ZA.ho
        refine ⟨_, _, hoA, coF_emit, a, c, l, sc, _, _, F, _, _, _, rfl, ZA, by show 1 ≤ 100; decide, fun HB ZB => ?_⟩
        exact k HB F a _ sm_refl h255 hd (fun z => by cases z) ZB
    · have Tt := ht.same Z.sm
      simp! only [ho, T.cl_Coder, T.no_Coder_scopes, coF_scopes, tMakeS]
      rw [Z.hs]
      dsimp only
      refine ⟨_, Tt, _, atI_2, _, Tt, _, atI_3, fun s ds hs hds hne => ?_⟩
      have s5 := sm_trans Z.sm (sm_scope (S := A.C_Scope) hs hds hne)
      refine ⟨s, ds, p0, q0, [], [], [], F, rfl, upd_same, hp0.same s5, hq0.same s5, nm0, by decide, s5, out0, fun H6 ix kvs hold hix ga gix hkl h255 hd => ?_⟩
      have Z6 := Z.scope hs hds hne hold
      refine ⟨rfl, [], Z6.hs, by show 0 < sizeLine; decide, by decide, by decide, ?_⟩
      have Z7 := Z6.sets (List.take (Int.toNat 0) [] ++ [V.ref s] ++ List.drop (Int.toNat 0) [])
      generalize upd H6 sc (HO.lst (List.take (Int.toNat 0) [] ++ [V.ref s] ++ List.drop (Int.toNat 0) [])) = H7 at Z7 ⊢
      have Te := he0.same Z7.sm
      have Ts := hst.same Z7.sm
      have T7 := ht.same Z7.sm
      refine for_lstS [.ref st] (fun R hR => ⟨_, rfl, t, _, 4, _, rfl, rfl, T7, atI_4, e0, _, rfl, Te, .inr ⟨st, _, rfl, Ts⟩, fun H' p s n g => hR p H' s n g⟩)
        (fun pp i σ' H' => ∃ (c2 : Option V) (F8 : Hp), σ' = [some (.ref a), some (.ref t), c2] ∧ Same F F8 ∧ F8 pp = some (.lst [.ref st]) ∧ ((i = 0 ∧ Co A.C_Coder F8 H' a c l sc [] [] [V.ref s]) ∨
          (i = 1 ∧ ∃ F' bb, Same F F' ∧ F' pp = some (.lst [.ref st]) ∧ F bb = none ∧ F' bb = some (.tup (blkL xs.length ns.length)) ∧ ns.length ≤ 255 ∧ dupF [] ns = none ∧ Co A.C_Coder F' H' a c l sc C1 [.ref bb] [V.ref s]))) ?_ ?_ ?_ ?_
      · intro pp H1 s1 hpp g
        have Z8 := Z7.same s1
        obtain ⟨as8, gc8, _⟩ := Z7.hc
        exact ⟨none, _, rfl, Z8.up, rest_at g (Ne.symm (ne_of_none gc8 hpp)) (Ne.symm (ne_of_none Z7.hl hpp)) (Ne.symm (ne_of_none Z7.hs hpp)), .inl ⟨rfl, Z8.max⟩⟩
      · rintro pp i σ' H' ⟨c2, F8, rfl, sF, fp, hh⟩
        rcases hh with ⟨_, Z8⟩ | ⟨_, F', bb, _, fp', _, _, _, _, Z8⟩
        · exact Z8.sm _ _ fp
        · exact Z8.sm _ _ fp'
      · rintro pp i x σ' H' hx ⟨c2, F8, rfl, sF, fp, hh⟩
        have hi0 : i = 0 := Nat.lt_one_iff.mp (List.getElem?_eq_some_iff.mp hx).1
        subst hi0
        cases hx
        rcases hh with ⟨_, Z8⟩ | ⟨h1, _⟩
        · obtain ⟨dx8, kn8, f8, sh8, ho8⟩ := Z8.ho
          simp! only [ho8, T.cl_Coder, coF_emit, coF_stat]
          refine ⟨a, st, b, c, l, sc, p, q, e, F8, [.ref s], xs, ys, ns, rfl, Z8, (by show 1 ≤ 10; decide), hst.same sF, ⟨B.t.same sF, B.p.same sF, B.q.same sF, B.e.same sF, B.n.same sF, B.l⟩, kE.mono sF, fun H' F' bb sF' Fb F'b h255 hd Z' => ?_⟩
          exact ⟨_, ((hst.same sF).same sF').same Z'.sm, _, atI_0, rfl, ite2 (fun h => absurd (V.str.inj h) (by decide)) (fun _ => ⟨F8, sF, fp, .inr ⟨F', sm_trans sF sF', sF' _ _ fp, bb, no_of sF Fb, F'b, h255, hd, Z'⟩⟩)⟩
        · cases h1
      · rintro pp σ' H' ⟨c2, F8, rfl, sF, fp, hh⟩
        rcases hh with ⟨h1, _⟩ | ⟨_, F', bb, sF', fp', Fb, F'b, h255, hd', Z8⟩
        · cases h1
        · obtain ⟨dx8, kn8, f8, sh8, ho8⟩ := Z8.ho
          have T8 := (ht.same sF').same Z8.sm
          simp! only [ho8, T.cl_Coder, coF_emit]
          refine ⟨_, T8, _, atI_4, e0, _, rfl, (he0.same sF').same Z8.sm, .inr ⟨st, _, rfl, (hst.same sF').same Z8.sm⟩, fun H9 s9 => ⟨_, rfl, ite2 (fun h => ?_) (fun _ => ?_)⟩⟩
          · cases h
          · exact k H9 F' bb _ sF' h255 hd' (fun _ => ⟨Fb, F'b⟩) (Z8.same s9)
end

def sp_compile (K : PySem.W.Frag) (A : Ad) : Sp := fun vs H Q E => ∃ (t f g : Addr) (F : Hp) (blk : Bool) (params : Nat) (ns : List (Str × Int)), vs = [.ref t, .ref f, .ref g] ∧ Same F H ∧ H f = some (.lst []) ∧ H g = some (.lst []) ∧ MT K F t blk params ns ∧ OutE A E F ns ∧
  ∀ H' d dx sel argc cnt c2 l2, Same F H' → ns.length ≤ 255 → dupF [] ns = none → H' d = some (.ins A.C_Draft dx (drF sel argc cnt 1 c2 l2)) → (blk = false → argc = (params : Int) ∧ cnt = (ns.length : Int) ∧ CodeAt H' c2 C0) →
    (blk = true → cnt = 0 ∧ ∃ m, H' l2 = some (.lst [.ref m]) ∧ H' m = some (.tup [.str "block", .int params, .int ns.length, .int 2, .int 1])) → Q (.ref d) H'
theorem sp_compile_len {K A vs H Q E} (h : sp_compile K A vs H Q E) : vs.length = (["tree", "fields", "globals_known"] : List Str).length := by
  obtain ⟨_, _, _, _, _, _, _, rfl, _⟩ := h
  rfl
/-- what a method's tree tells of its parameters and its own names -/
theorem MT.parts {K : PySem.W.Frag} {F : Hp} {t : Addr} {blk : Bool} {params : Nat} {ns : List (Str × Int)} (h : MT K F t blk params ns) : ∃ (sel : Str) (p q e : Addr) (xs ys : List V), SqT K F t [.str "method", .str sel, .ref p, .ref q, .ref e] ∧ SqT K F p xs ∧ SqT K F q ys ∧
    (blk = false → xs.length = params ∧ xs.length + ys.length = ns.length) ∧ (blk = true → xs.length + ys.length = 0) := by
  rcases h with ⟨rfl, sel, p, q, e, xs, ys, ht, hp, hq, he, hn, hl, rfl⟩ | ⟨rfl, sel, p0, q0, e0, st, b, p, q, e, xs, ys, ht, hp0, hq0, he0, hst, B, rfl⟩
  · exact ⟨sel, p, q, e, xs, ys, ht, hp, hq, fun _ => ⟨rfl, by rw [← List.length_append]; exact hn.1⟩, fun z => by cases z⟩
  · exact ⟨sel, p0, q0, e0, [], [], ht, hp0, hq0, fun z => (by cases z), fun _ => rfl⟩
section
variable {P : Program} {w : World} {K : PySem.W.Frag} {mg : Str → Option Value} {base : Heap} {A : Ad}
theorem ok_compile_method (T : Txt K mg A) : FnOk P w K mg base (L2N.CX P w) 10 A.f_compile_method A.d_compile_method ["tree", "fields", "globals_known"] (sp_compile K A) := by
  refine okN T.F_compile_method sc_compile_method (fun vs H Q E h => ?_) (fun cdv Ar outer s H vs Q E hr h => ?_)
  · exact sp_compile_len h
  · have hu := hu_of hr
    refine ⟨_, (pss_cons (ps_asg (pe_make T.mk_Coder (ok_Coder___init__ T) (hr.mono (by decide)) (by rfl) T.m_Coder T.b_Coder___init__ .nil pass0 (pa_cons (pv 1) (pa_cons (pv 2) pa_nil))) (pg_name (i := 3) sc_compile_method.nd rfl (Or.inl rfl)))
    (pss_cons (ps_expr (pe_methE (pv 3) T.cl_Coder T.me_Coder_method (ok_Coder_method T) (hr.mono (by decide)) T.b_Coder_method (fun σ => L2N.passAt (L2N.takes_of rfl rfl rfl rfl) σ) (pa_cons (pv 0) pa_nil)))
    (pss_cons (ps_asg (pe_call (ok_greatest_heights T) (hr.mono (by decide)) (by rfl) T.g_greatest_heights T.k_greatest_heights T.b_greatest_heights .nil pass0 (pa_cons (pe_fld (pv 3) rfl) (pa_cons (pe_fld (pv 3) rfl) pa_nil))) (pg_name (i := 4) sc_compile_method.nd rfl (Or.inr rfl)))
    (pss_cons (ps_setLc (i := 5) (own := [("literal", 7)]) (g := gName 7) rfl sc_compile_method.nd rfl rfl (sw_true rfl rfl rfl (by decide +kernel)) (pi_list (pe_fld (pv 3) rfl)) (blkOk_by (own := [("literal", 7)]) (N := ["tree", "fields", "globals_known", "coder", "stacks", "literals", "count", "literal"]) (sc := defScope s_compile_method) (by decide +kernel)) (fun _ _ _ _ _ => pg_name (i := 7) sc_compile_method.nd rfl (Or.inl rfl)) (fun _ _ _ _ _ => pts_nil) (fun _ _ _ _ _ => (pe_call (ok_measured T) (hr.mono (by decide)) (by rfl) T.g_measured T.k_measured T.b_measured .nil pass0 (pa_cons (pv 7) (pa_cons (pv 4) pa_nil)))))
    (pss_cons (ps_asg (pe_op op_add (pe_callB call_len_seq (by rfl) T.z_len PySem.boot_len (pa_cons (pe_ix ix_tup (pv 0) pe_int (fun _ _ => rfl)) pa_nil)) (pe_callB call_len_seq (by rfl) T.z_len PySem.boot_len (pa_cons (pe_ix ix_tup (pv 0) pe_int (fun _ _ => rfl)) pa_nil))) (pg_name (i := 6) sc_compile_method.nd rfl (Or.inl rfl)))
    (pss_one (ps_ret (pe_make T.mk_Draft (ok_Draft___init__ T) (hr.mono (by decide)) (by rfl) T.m_Draft T.b_Draft___init__ .nil pass0 (pa_cons (pe_ix ix_tup (pv 0) pe_int (fun _ _ => rfl)) (pa_cons (pe_callB call_len_seq (by rfl) T.z_len PySem.boot_len (pa_cons (pe_ix ix_tup (pv 0) pe_int (fun _ _ => rfl)) pa_nil)) (pa_cons (pv 6) (pa_cons (pe_ix (ix_dictM hu) (pv 4) pe_int (fun _ _ => rfl)) (pa_cons (pe_fld (pv 3) rfl) (pa_cons (pv 5) pa_nil)))))))))))))), ?_⟩
    obtain ⟨t, f, g, F, blk, params, ns, rfl, sF, hf, hg, hM, kE, k⟩ := h
    simp! only []
    refine fun a dx ha hdx hne => ?_
    have sa := sm_scope (S := A.C_Coder) ha hdx hne
    refine ⟨a, dx, f, g, F, rfl, upd_same, sa _ _ hf, sa _ _ hg, sm_trans sF sa, no_of sF ha, fun H1 c l sc Z1 => ?_⟩
    refine ⟨rfl, ?_⟩
    obtain ⟨dx1, kn1, f1, sh1, ho1⟩ := Z1.ho
    refine ⟨_, _, ho1, coF_meth, a, t, c, l, sc, F, blk, params, ns, rfl, Z1, hM, kE, fun H2 F' bb scs sF' h255 hd' hbb Z2 => ?_⟩
    obtain ⟨dx2, kn2, f2, sh2, ho2⟩ := Z2.ho
    have hlit : LitAt H2 l (if blk then C1 else C0) := by
      cases blk with
      | false => exact .inl ⟨rfl, Z2.hl⟩
      | true => exact .inr ⟨rfl, bb, _, _, Z2.hl, Z2.sm _ _ (hbb rfl).2⟩
    refine ⟨_, _, _, ho2, T.cl_Coder, T.no_Coder_code, _, coF_code, _, _, _, ho2, T.cl_Coder, T.no_Coder_literals, _, coF_lits, c, l, (if blk then C1 else C0), rfl, Z2.hc, hlit, fun H3 st sm3 hst gst => ?_⟩
    have Z3 := Z2.same sm3
    obtain ⟨dx3, kn3, f3, sh3, ho3⟩ := Z3.ho
    refine lc_lstA (a := l) (if blk then [V.ref bb] else []) (fun R h => ?_) (.inl (.inl Z3.hl)) (fun D i H' => Same H3 H' ∧ ((i = 0 ∧ H' D = some (.lst [])) ∨ (i = 1 ∧ blk = true ∧ ∃ m, H' D = some (.lst [.ref m]) ∧ H' m = some (.tup [.str "block", .int params, .int ns.length, .int 2, .int 1]))))
      (fun D hD => ⟨same_new hD, .inl ⟨rfl, upd_same⟩⟩) (fun D i H' _ p => .inl (.inl (p.1 _ _ Z3.hl))) (fun D i x H' hD hx p => ?_) (fun D H' hD p => ?_)
    · simp! only [ho3, T.cl_Coder, T.no_Coder_literals, coF_lits]
      exact h
    · cases blk with
      | false => cases hx
      | true =>
        have hi0 : i = 0 := Nat.lt_one_iff.mp (List.getElem?_eq_some_iff.mp hx).1
        subst hi0
        cases hx
        obtain ⟨smD, h0⟩ := p
        rcases h0 with ⟨_, gD⟩ | ⟨h1, _⟩
        · simp! only []
          refine ⟨bb, st, .int params, .int ns.length, rfl, .inl (.inl (smD _ _ (Z3.sm _ _ (hbb rfl).2))), smD _ _ gst, fun m hm => ?_⟩
          have gD2 := same_new (o := HO.tup [V.str "block", V.int params, V.int ns.length, V.int 2, V.int 1]) hm _ _ gD
          have hmD := ne_of_none gD hm
          refine ⟨[], gD2, by decide, sm_upd (sm_trans smD (same_new hm)) hD, .inr ⟨m, rfl, ?_⟩⟩
          rw [upd_ne (Ne.symm hmD)]
          exact upd_same
        · cases h1
    · obtain ⟨smD, h0⟩ := p
      obtain ⟨sel, p, q, e, xs, ys, Tt, Tp, Tq, c0, c1⟩ := hM.parts
      have sFH := sm_trans (sm_trans sF' Z3.sm) smD
      have Tt' := Tt.same sFH
      have Tp' := Tp.same sFH
      have Tq' := Tq.same sFH
      have ho4 := smD _ _ ho3
      have gst4 := smD _ _ gst
      simp! only [ho4, gst4, T.cl_Coder, T.no_Coder_literals, T.no_Coder_code, coF_lits, coF_code]
      have hv0 : valV (grD (if blk = true then C1 else C0)) (Sum.inl 0) = some (.int 1) := by cases blk <;> rfl
      refine ⟨_, Tt', _, atI_2, p, rfl, _, .inr Tp', _, Tt', _, atI_3, q, rfl, _, .inr Tq', _, Tt', _, atI_1, _, Tt', _, atI_2, p, rfl, _, .inr Tp', .int 1, hv0, fun d ddx hd hddx hdne => ?_⟩
      have s5 := sm_scope (S := A.C_Draft) hd hddx hdne
      obtain ⟨as, gc, la, hel⟩ := Z3.hc
      obtain ⟨zs, gD⟩ : ∃ zs, H' D = some (.lst zs) := by
        rcases h0 with ⟨_, g⟩ | ⟨_, _, m, g, _⟩
        · exact ⟨_, g⟩
        · exact ⟨_, g⟩
      refine ⟨d, ddx, c, D, sel, _, _, _, _, zs, rfl, upd_same, s5 _ _ (smD _ _ gc), s5 _ _ gD, fun H9 c2 l2 hold g9 gc2 gl2 => ⟨rfl, ?_⟩⟩
      have old : ∀ b o, H' b = some o → H9 b = some o := fun b o e => hold b o (fun z => by rw [z, hd] at e; cases e) (s5 _ _ e)
      refine k H9 d ddx (.str sel) _ _ c2 l2 (fun b o e => old b o (sFH _ _ e)) h255 hd' g9 (fun hb => ?_) (fun hb => ?_)
      · subst hb
        obtain ⟨e1, e2⟩ := c0 rfl
        exact ⟨by rw [e1], by omega, as, gc2, la, fun i x op arg x1 x2 => old _ _ (smD _ _ (hel i x op arg x1 x2))⟩
      · subst hb
        have e2 := c1 rfl
        rcases h0 with ⟨z, _⟩ | ⟨_, _, m, g, gm⟩
        · cases z
        · rw [g] at gD
          cases gD
          exact ⟨by omega, m, gl2, old _ _ gm⟩
end

def sp_lcell (K : PySem.W.Frag) : Sp := fun vs H Q _ => ∃ (a : Addr) (xs : List Int), vs = [.ref a, .int 0] ∧ SqL K H a (xs.map V.int) ∧ xs.length ≤ 63 ∧ ∀ z : Int, Q (.int z) H
theorem sp_lcell_len {K vs H Q E} (h : sp_lcell K vs H Q E) : vs.length = (["script", "k"] : List Str).length := by
  obtain ⟨_, _, rfl, _⟩ := h
  rfl
section
variable {P : Program} {w : World} {K : PySem.W.Frag} {mg : Str → Option Value} {base : Heap} {A : Ad}
theorem ok__law_cell (T : Txt K mg A) : FnOk P w K mg base CX0 1 A.f__law_cell A.d__law_cell ["script", "k"] (sp_lcell K) := by
  refine Fun.ok T.F__law_cell sc__law_cell (fun vs H Q E h => ?_) (fun cdv Ar outer s H vs Q E hr h => ?_)
  · exact sp_lcell_len h
  · have hu := hu_of hr
    refine ⟨_, (pss_cons (ps_if (pt_cmpR op_lt (pv 1) (pe_callB call_len_seq (by rfl) T.z_len PySem.boot_len (pa_cons (pv 0) pa_nil)) (nomark _)) (pss_one (ps_ret (pe_callTy call_intI (by rfl) T.z_int (by decide +kernel) (pa_cons (pe_ix ix_list (pv 0) (pv 1) (fun _ _ => rfl)) pa_nil)))) pss_nil)
    (pss_one (ps_ret pe_int))), ?_⟩
    obtain ⟨a, xs, rfl, ha, hl, k⟩ := h
    simp! only [rIsL]
    refine ⟨_, .inl ha, ite2 (fun h => ?_) (fun _ => k 0)⟩
    cases xs with
    | nil => exact absurd h (Int.lt_irrefl _)
    | cons x r => exact ⟨_, ha, _, atI_0, _, rfl, k _⟩
end

def sp_told (K : PySem.W.Frag) (A : Ad) : Sp := fun vs H Q _ => ∃ (t : Addr) (F : Hp) (blk : Bool) (params : Nat) (ns : List (Str × Int)), vs = [.ref t] ∧ Same F H ∧ MT K F t blk params ns ∧
  (∀ n at_ p H', dupF [] ns = some (n, at_) → Same F H' → H' p = some (.tup [.str "Twice", .str n, .int at_]) → Q (.ref p) H') ∧
  (∀ H', dupF [] ns = none → 255 < ns.length → Same F H' → Q (.str "locals") H') ∧
  ∀ H' d dx sel argc cnt c2 l2, Same F H' → ns.length ≤ 255 → dupF [] ns = none → H' d = some (.ins A.C_Draft dx (drF sel argc cnt 1 c2 l2)) → (blk = false → argc = (params : Int) ∧ cnt = (ns.length : Int) ∧ CodeAt H' c2 C0) →
    (blk = true → cnt = 0 ∧ ∃ m, H' l2 = some (.lst [.ref m]) ∧ H' m = some (.tup [.str "block", .int params, .int ns.length, .int 2, .int 1])) → Q (.ref d) H'
theorem sp_told_len {K A vs H Q E} (h : sp_told K A vs H Q E) : vs.length = (["tree"] : List Str).length := by
  obtain ⟨_, _, _, _, _, rfl, _⟩ := h
  rfl
section
variable {P : Program} {w : World} {K : PySem.W.Frag} {mg : Str → Option Value} {base : Heap} {A : Ad}
theorem ok__law_told (T : Txt K mg A) : FnOk P w K mg base CX0 11 A.f__law_told A.d__law_told ["tree"] (sp_told K A) := by
  refine Fun.ok T.F__law_told sc__law_told (fun vs H Q E h => ?_) (fun cdv Ar outer s H vs Q E hr h => ?_)
  · exact sp_told_len h
  · have hu := hu_of hr
    refine ⟨_, (pss_one (ps_try_manyAs rfl rfl sc__law_told.nd takesN (fun W pn xe tk _ => (pss_one (ps_ret (pe_callS (ok_compile_method T) (hr.mono (by decide)) (by rfl) T.g_compile_method T.k_compile_method T.b_compile_method (fun σ => L2N.passAt tk σ) (pa_cons (pv 0) (pa_cons (pe_lst pa_nil) (pa_cons (pe_lst pa_nil) pa_nil)))))))
      (.cons (i := 1) rfl rfl ⟨rfl, by decide, Or.inl T.m_Twice⟩
      (fun a oe cls d pn hz hf => (pss_one (ps_ret (pe_tup (pa_cons pe_str (pa_cons (pe_fxs hz hf (pv 1)) (pa_cons (pe_fxs hz hf (pv 1)) pa_nil))))))) (.cons (i := 1) rfl rfl ⟨rfl, by decide, Or.inl T.m_Oversized⟩
      (fun a oe cls d pn hz hf => (pss_one (ps_ret (pe_fxs hz hf (pv 1))))) .nil)))), ?_⟩
    obtain ⟨t, F, blk, params, ns, rfl, sF, hM, k1, k2, k3⟩ := h
    simp! only []
    refine ⟨Nat.zero_le _, fun f hf => ⟨Nat.zero_le _, fun g hg => ?_⟩⟩
    have s1 := same_new (o := HO.lst []) hf
    have gf : upd H f (HO.lst []) f = some (HO.lst []) := upd_same
    generalize upd H f (HO.lst []) = H1 at s1 gf hg ⊢
    have s2 := same_new (o := HO.lst []) hg
    refine ⟨t, f, g, F, blk, params, ns, rfl, sm_trans sF (sm_trans s1 s2), s2 _ _ gf, upd_same, hM, fun H' dd sF' hdd => ⟨fun n at_ hd => ?_, fun hd h255 => ?_⟩, k3⟩
    · show wManyAs K _ _ _ (.ref A.C_Twice) (some dd) _ _
      unfold wManyAs wAs
      refine ⟨true, T.ex_Twice_Twice, fun _ e he => ?_, fun z => absurd z (by decide)⟩
      have gdd : (upd H' dd (HO.xd [("at", V.int at_), ("name", V.str n)])) dd = some (HO.xd [("at", V.int at_), ("name", V.str n)]) := upd_same
      have sdd := sm_trans sF' (same_new (o := HO.xd [("at", V.int at_), ("name", V.str n)]) hdd)
      generalize upd H' dd (HO.xd [("at", V.int at_), ("name", V.str n)]) = H2 at gdd sdd he ⊢
      simp! only [gdd]
      refine ⟨V.str n, if_neg (by decide), by decide, fun p hp => k1 n at_ p _ hd (sm_trans sdd (same_new hp)) upd_same⟩
    · show wManyAs K _ _ _ (.ref A.C_Oversized) (some dd) _ _
      unfold wManyAs wAs
      refine ⟨false, T.ex_Oversized_Twice, fun z => absurd z (by decide), fun _ => ?_⟩
      unfold wManyAs wAs
      refine ⟨true, T.ex_Oversized_Oversized, fun _ e he => ?_, fun z => absurd z (by decide)⟩
      have gdd : (upd H' dd (HO.xd [("limit", V.str "locals")])) dd = some (HO.xd [("limit", V.str "locals")]) := upd_same
      have sdd := sm_trans sF' (same_new (o := HO.xd [("limit", V.str "locals")]) hdd)
      generalize upd H' dd (HO.xd [("limit", V.str "locals")]) = H2 at gdd sdd he ⊢
      simp! only [gdd]
      exact k2 H2 hd h255 sdd
end

theorem lc_rngA {ta : TA} {te : TE} {c : Nat} {σ : L2.St} {H : Hp} {Q : VK} (n : Nat) (hta : ∀ R : List V → Hp → Prop, R [.int (n : Int)] H → ta σ H R) (hn : n ≤ 100000) (Pv : Addr → Nat → Hp → Prop)
    (h0 : ∀ D, H D = none → Pv D 0 (upd H D (.lst []))) (hs : ∀ D i H', H D = none → i < n → Pv D i H' → te ((σ.set c none).set c (some (.int (i : Int)))) H' fun y H4 => ∃ acc, H4 D = some (.lst acc) ∧ acc.length < sizeLine ∧ Pv D (i + 1) (upd H4 D (.lst (acc ++ [y]))))
    (hd : ∀ D H', H D = none → Pv D n H' → Q (.ref D) H') : tLc (iRng1 ta) (gName c) tYes te [c] σ H Q := by
  refine hta _ ⟨n, rfl, by omega, by omega, fun D hD => ?_⟩
  rw [Int.toNat_natCast]
  refine lc_range (Pv D) (h0 D hD) ?_ (fun H' p => hd D H' hD p)
  rintro i H' hi p
  rw [Int.zero_add]
  refine ⟨?_, ?_⟩
  · show List.set (List.set (List.set σ c none) c _) c none = List.set σ c none
    rw [List.set_set, List.set_set]
  · show (fun (b : Bool) (H3 : Hp) => if b = true then te ((σ.set c none).set c (some (.int (i : Int)))) H3 _ else Pv D (i + 1) H3) true H'
    dsimp only
    rw [if_pos rfl]
    exact hs D i H' hD hi p
/-- the names of the law: v0, v1, .. -/
def nmV (k : Nat) : Str := Str.ofString "v" ++ Str.ofString (toString (k : Int))
theorem nmV_nd : ((List.range 260).map nmV).Nodup := by decide +kernel
theorem nmV_inj {i j : Nat} (hi : i < 260) (hj : j < 260) (h : nmV i = nmV j) : i = j := by
  have nd := nmV_nd
  have e1 : ((List.range 260).map nmV)[i]? = some (nmV i) := by rw [List.getElem?_map, List.getElem?_range hi]; rfl
  have e2 : ((List.range 260).map nmV)[j]? = some (nmV j) := by rw [List.getElem?_map, List.getElem?_range hj]; rfl
  exact (List.getElem?_inj (by rw [List.length_map, List.length_range]; exact hi) nd).mp (by rw [e1, e2, h])
theorem nmV_ok {k : Nat} (hk : k < 260) : PyData.canLay0 (.str (nmV k)) = true := by
  have h : ∀ k < 260, PyData.canLay0 (.str (nmV k)) = true := by decide +kernel
  exact h k hk
theorem nmV_len {k : Nat} (hk : k < 260) : (Str.ofString (toString (k : Int))).length ≤ 100 := by
  have h : ∀ k < 260, (Str.ofString (toString ((k : Nat) : Int))).length ≤ 100 := by decide +kernel
  exact h k hk
/-- the pairs of the law -/
def ns0 (n : Nat) : List (Str × Int) := (List.range n).map fun k => (nmV k, 3 * (k : Int))
theorem ns0_len {n : Nat} : (ns0 n).length = n := by
  unfold ns0
  rw [List.length_map, List.length_range]
theorem ns0_at {n i : Nat} (h : i < n) : (ns0 n)[i]? = some (nmV i, 3 * (i : Int)) := by
  unfold ns0
  rw [List.getElem?_map, List.getElem?_range h]
  rfl
theorem ns0_nd {n : Nat} (h : n ≤ 260) : ((ns0 n).map (fun q : Str × Int => q.1)).Nodup := by
  have e : (ns0 n).map (fun q : Str × Int => q.1) = ((List.range 260).map nmV).take n := by
    unfold ns0
    rw [List.map_map, ← List.map_take, List.take_range, Nat.min_eq_left h]
    rfl
  rw [e]
  exact nmV_nd.sublist (List.take_sublist ..)
theorem dupF_none : ∀ {ns : List (Str × Int)} {seen : List Str}, (ns.map (fun q : Str × Int => q.1)).Nodup → (∀ n ∈ ns.map (fun q : Str × Int => q.1), n ∉ seen) → dupF seen ns = none
  | [], _, _, _ => rfl
  | (n, a) :: r, seen, nd, h => by
    obtain ⟨h1, h2⟩ := List.nodup_cons.mp nd
    rw [dupF, if_neg (h n (List.mem_cons_self ..))]
    refine dupF_none h2 fun m hm hs => ?_
    rcases List.mem_append.mp hs with hs | hs
    · exact h m (List.mem_cons_of_mem _ hm) hs
    · rw [List.mem_singleton] at hs
      subst hs
      exact h1 hm
theorem dupF_some {n : Str} {a : Int} {r : List (Str × Int)} : ∀ {ns : List (Str × Int)} {seen : List Str}, (ns.map (fun q : Str × Int => q.1)).Nodup → (∀ n ∈ ns.map (fun q : Str × Int => q.1), n ∉ seen) → n ∈ seen ++ ns.map (fun q : Str × Int => q.1) → dupF seen (ns ++ (n, a) :: r) = some (n, a)
  | [], seen, _, _, h => by
    rw [List.map_nil, List.append_nil] at h
    show dupF seen ((n, a) :: r) = _
    rw [dupF, if_pos h]
  | (m, b) :: t, seen, nd, hd, h => by
    obtain ⟨h1, h2⟩ := List.nodup_cons.mp nd
    show dupF seen ((m, b) :: (t ++ (n, a) :: r)) = _
    rw [dupF, if_neg (hd m (List.mem_cons_self ..))]
    refine dupF_some h2 (fun z hz hs => ?_) (by rw [List.append_assoc]; exact h)
    rcases List.mem_append.mp hs with hs | hs
    · exact hd z (List.mem_cons_of_mem _ hz) hs
    · rw [List.mem_singleton] at hs
      subst hs
      exact h1 hz
theorem ns0_dup {n j i : Nat} (h : n ≤ 260) (hj : j < n) (hi : i < j) : dupF [] ((ns0 n).set j (nmV i, 3 * (j : Int))) = some (nmV i, 3 * (j : Int)) := by
  rw [List.set_eq_take_append_cons_drop, if_pos (by rw [ns0_len]; exact hj)]
  have e : (ns0 n).take j = ns0 j := by
    unfold ns0
    rw [← List.map_take, List.take_range, Nat.min_eq_left (by omega)]
  rw [e]
  refine dupF_some (ns0_nd (by omega)) (fun _ _ z => by cases z) (List.mem_map.mpr ⟨(nmV i, 3 * (i : Int)), List.mem_of_getElem? (ns0_at hi), rfl⟩)
theorem CodeAt.push {H : Hp} {c t : Addr} {as : List Addr} {code : List (Str × Int)} {n : Str} {a : Int} (g : H c = some (.lst (as.map V.ref))) (la : as.length = code.length)
    (hca : ∀ (i : Nat) (a : Addr) (op : Str) (arg : Int), as[i]? = some a → code[i]? = some (op, arg) → H a = some (.tup [.str op, .int arg])) (ht : H t = none) :
    CodeAt (upd (upd H t (.tup [.str n, .int a])) c (.lst (as.map V.ref ++ [.ref t]))) c (code ++ [(n, a)]) := by
  have s := same_new (o := HO.tup [V.str n, V.int a]) ht
  refine ⟨as ++ [t], by rw [upd_same, List.map_append]; rfl, by rw [List.length_append, List.length_append, la]; rfl, fun i x op arg e1 e2 => ?_⟩
  have key : upd H t (.tup [.str n, .int a]) x = some (.tup [.str op, .int arg]) := by
    by_cases hi : i < as.length
    · rw [List.getElem?_append_left hi] at e1
      rw [List.getElem?_append_left (by omega)] at e2
      exact s _ _ (hca i x op arg e1 e2)
    · rw [List.getElem?_append_right (by omega)] at e1
      rw [List.getElem?_append_right (by omega), ← la] at e2
      have hz : i - as.length = 0 := by
        have := (List.getElem?_eq_some_iff.mp e1).1
        exact Nat.lt_one_iff.mp this
      rw [hz] at e1 e2
      cases e1
      cases e2
      exact upd_same
  rw [upd_ne (ne_at key (s _ _ g) (fun z => by cases z))]
  exact key

theorem CodeAt.setAt {H : Hp} {c t j : Nat} {as : List Addr} {code : List (Str × Int)} {n : Str} {a : Int} (g : H c = some (.lst (as.map V.ref))) (la : as.length = code.length)
    (hca : ∀ (i : Nat) (a : Addr) (op : Str) (arg : Int), as[i]? = some a → code[i]? = some (op, arg) → H a = some (.tup [.str op, .int arg])) (ht : H t = none) (hj : j < as.length) :
    CodeAt (upd (upd H t (.tup [.str n, .int a])) c (.lst ((as.map V.ref).set j (.ref t)))) c (code.set j (n, a)) := by
  have s := same_new (o := HO.tup [V.str n, V.int a]) ht
  refine ⟨as.set j t, by rw [upd_same, List.map_set], by rw [List.length_set, List.length_set, la], fun i x op arg e1 e2 => ?_⟩
  have key : upd H t (.tup [.str n, .int a]) x = some (.tup [.str op, .int arg]) := by
    by_cases hi : j = i
    · subst hi
      rw [List.getElem?_set_self hj] at e1
      rw [List.getElem?_set_self (show j < code.length by omega)] at e2
      cases e1
      cases e2
      exact upd_same
    · rw [List.getElem?_set_ne hi] at e1 e2
      exact s _ _ (hca i x op arg e1 e2)
  rw [upd_ne (ne_at key (s _ _ g) (fun z => by cases z))]
  exact key
theorem sl_to {K : PySem.W.Frag} {H : Hp} {l : Addr} {xs : List V} {p : Nat} {R : VK} (hl : SqT K H l xs) (h : ∀ q H', Same H H' → SqT K H' q (xs.take p) → R (.ref q) H') : rSlA K (.ref l) none (some (p : Int)) H R := by
  refine ⟨l, xs, rfl, hl, fun z => h l H sm_refl ?_, fun _ q hq => h q _ (same_new hq) (.inl (.inl (by rw [upd_same, cutV_to])))⟩
  have e : xs.take p = xs := by
    rw [← cutV_to]
    unfold cutV
    rw [z.1, z.2, List.drop_zero, Nat.sub_zero, List.take_length]
  rw [e]
  exact hl
theorem sl_from {K : PySem.W.Frag} {H : Hp} {l : Addr} {xs : List V} {p : Nat} {R : VK} (hl : SqT K H l xs) (h : ∀ q H', Same H H' → SqT K H' q (xs.drop p) → R (.ref q) H') : rSlA K (.ref l) (some (p : Int)) none H R := by
  refine ⟨l, xs, rfl, hl, fun z => h l H sm_refl ?_, fun _ q hq => h q _ (same_new hq) (.inl (.inl (by rw [upd_same, cutV_from])))⟩
  have e : xs.drop p = xs := by
    rw [← cutV_from]
    unfold cutV
    rw [z.1, z.2, List.drop_zero, Nat.sub_zero, List.take_length]
  rw [e]
  exact hl
theorem CodeAt.nm {K : PySem.W.Frag} {H : Hp} {as : List Addr} {ns : List (Str × Int)} {p : Nat} (la : as.length = ns.length)
    (hca : ∀ (i : Nat) (a : Addr) (op : Str) (arg : Int), as[i]? = some a → ns[i]? = some (op, arg) → H a = some (.tup [.str op, .int arg])) : NmAt K H ((as.map V.ref).take p ++ (as.map V.ref).drop p) ns := by
  rw [List.take_append_drop]
  refine ⟨by rw [List.length_map, la], fun i n a e => ?_⟩
  have hi : i < as.length := by
    rw [la]
    exact (List.getElem?_eq_some_iff.mp e).1
  exact ⟨as[i], by rw [List.getElem?_map, List.getElem?_eq_getElem hi]; rfl, .inl (.inl (hca i _ n a (List.getElem?_eq_getElem hi) e))⟩

def sp_law (K : PySem.W.Frag) : Sp := fun vs H Q _ => ∃ (a : Addr) (ns : List Int), vs = [.ref a] ∧ SqL K H a (ns.map V.int) ∧ ns.length ≤ 63 ∧ ∀ H', Q (.bl true) H'
theorem sp_law_len {K vs H Q E} (h : sp_law K vs H Q E) : vs.length = (["script"] : List Str).length := by
  obtain ⟨_, _, rfl, _⟩ := h
  rfl
section
variable {P : Program} {w : World} {K : PySem.W.Frag} {mg : Str → Option Value} {base : Heap} {A : Ad}
theorem ok_law (T : Txt K mg A) : FnOk P w K mg base CX0 12 A.f_law A.d_law ["script"] (sp_law K) := by
  refine Fun.ok T.F_law sc_law (fun vs H Q E h => ?_) (fun cdv Ar outer s H vs Q E hr h => ?_)
  · exact sp_law_len h
  · have hu := hu_of hr
    refine ⟨_, (pss_cons (ps_asg (pe_call (ok__law_cell T) (hr.mono (by decide)) (by rfl) T.g__law_cell T.k__law_cell T.b__law_cell .nil pass0 (pa_cons (pv 0) (pa_cons pe_int pa_nil))) (pg_name (i := 1) sc_law.nd rfl (Or.inl rfl)))
    (pss_cons (ps_asg (pe_op op_add pe_int (pe_op op_mod (pv 1) pe_int)) (pg_name (i := 2) sc_law.nd rfl (Or.inl rfl)))
    (pss_cons (ps_asg (pe_op op_mod (pe_op op_fdiv (pv 1) pe_int) pe_int) (pg_name (i := 3) sc_law.nd rfl (Or.inl rfl)))
    (pss_cons (ps_setLc (i := 4) (own := [("k", 12)]) (g := gName 12) rfl sc_law.nd rfl rfl (sw_true rfl rfl rfl (by decide +kernel)) (pi_range1 (by rfl) T.z_range (pa_cons (pv 2) pa_nil)) (blkOk_by (own := [("k", 12)]) (N := ["script", "cell", "many", "params", "pairs", "twice", "at", "names", "selector", "tree", "block", "found", "k"]) (sc := defScope s_law) (by decide +kernel)) (fun _ _ _ _ _ => pg_name (i := 12) sc_law.nd rfl (Or.inl rfl)) (fun _ _ _ _ _ => pts_nil) (fun _ _ _ _ _ => (pe_tup (pa_cons (pe_op op_add_str pe_str (pe_callTy call_str_int (by rfl) T.z_str (by decide +kernel) (pa_cons (pv 12) pa_nil))) (pa_cons (pe_op op_mul pe_int (pv 12)) pa_nil)))))
    (pss_cons (ps_asg pe_non (pg_name (i := 5) sc_law.nd rfl (Or.inl rfl)))
    (Evl.pss_cut (ps_if (pt_cmpR op_eq (pe_op op_mod (pe_op op_fdiv (pv 1) pe_int) pe_int) pe_int (nomark _)) (pss_cons (ps_asg (pe_op op_add pe_int (pe_op op_mod (pe_op op_fdiv (pv 1) pe_int) (pe_op op_sub (pv 2) pe_int))) (pg_name (i := 6) sc_law.nd rfl (Or.inl rfl)))
    (pss_cons (ps_asg (pv 6) (pg_name (i := 5) sc_law.nd rfl (Or.inl rfl)))
    (pss_one (ps_asg (pe_tup (pa_cons (pe_ix ix_tup (pe_ix ix_lstM (pv 4) (pe_op op_mod (pe_op op_fdiv (pv 1) pe_int) (pv 6)) (fun _ _ => rfl)) pe_int (fun _ _ => rfl)) (pa_cons (pe_op op_mul pe_int (pv 6)) pa_nil))) (pg_sub (pv 4) (pv 6) set_lstM))))) pss_nil)
    (pss_cons (ps_asg (pe_callTy call_tuple_of (by rfl) T.z_tuple (by decide +kernel) (pa_cons (pv 4) pa_nil)) (pg_name (i := 7) sc_law.nd rfl (Or.inl rfl)))
    (pss_cons (ps_asg (pe_ix ix_list (pe_lst (pa_cons pe_str (pa_cons pe_str (pa_cons pe_str pa_nil)))) (pv 3) (fun _ _ => rfl)) (pg_name (i := 8) sc_law.nd rfl (Or.inl rfl)))
    (pss_cons (ps_asg (pe_tup (pa_cons pe_str (pa_cons (pv 8) (pa_cons (pe_slice sl_tupA (pv 7) po_none (po_some (pv 3))) (pa_cons (pe_slice sl_tupA (pv 7) (po_some (pv 3)) po_none) (pa_cons (pe_tup pa_nil) pa_nil)))))) (pg_name (i := 9) sc_law.nd rfl (Or.inl rfl)))
    (Evl.pss_cut (ps_if (pt_cmpR op_eq (pe_op op_mod (pe_op op_fdiv (pv 1) pe_int) pe_int) pe_int (nomark _)) (pss_cons (ps_asg (pe_tup (pa_cons pe_str (pa_cons (pe_slice sl_tupA (pv 7) po_none (po_some (pv 3))) (pa_cons (pe_slice sl_tupA (pv 7) (po_some (pv 3)) po_none) (pa_cons (pe_tup pa_nil) (pa_cons pe_int pa_nil)))))) (pg_name (i := 10) sc_law.nd rfl (Or.inl rfl)))
    (pss_one (ps_asg (pe_tup (pa_cons pe_str (pa_cons pe_str (pa_cons (pe_tup pa_nil) (pa_cons (pe_tup pa_nil) (pa_cons (pe_tup (pa_cons (pe_tup (pa_cons pe_str (pa_cons (pv 10) (pa_cons pe_int pa_nil)))) pa_nil)) pa_nil)))))) (pg_name (i := 9) sc_law.nd rfl (Or.inl rfl))))) pss_nil)
    (pss_cons (ps_asg (pe_call (ok__law_told T) (hr.mono (by decide)) (by rfl) T.g__law_told T.k__law_told T.b__law_told .nil pass0 (pa_cons (pv 9) pa_nil)) (pg_name (i := 11) sc_law.nd rfl (Or.inl rfl)))
    (pss_cons (ps_if (pt_cmpR op_notN (pv 5) pe_non (nomark _)) (pss_one (ps_ret (pe_cmpR (op_eqD hr.units) (pv 11) (pe_tup (pa_cons pe_str (pa_cons (pe_ix ix_tup (pe_ix ix_lstM (pv 4) (pv 5) (fun _ _ => rfl)) pe_int (fun _ _ => rfl)) (pa_cons (pe_op op_mul pe_int (pv 5)) pa_nil)))) (nomark _)))) pss_nil)
    (pss_cons (ps_if (pt_cmpR op_gt (pv 2) pe_int (nomark _)) (pss_one (ps_ret (pe_cmpR op_eq (pv 11) pe_str (nomark _)))) pss_nil)
    (pss_cons (ps_if (pt_cmpR op_eq (pe_op op_mod (pe_op op_fdiv (pv 1) pe_int) pe_int) pe_int (nomark _)) (pss_one (ps_ret (pe_and (pe_cmpR op_eq (pe_fld (pv 11) rfl) pe_int (nomark _)) (pe_one (pe_cmpR (op_eqD hr.units) (pe_fld (pv 11) rfl) (pe_lst (pa_cons (pe_tup (pa_cons pe_str (pa_cons (pv 3) (pa_cons (pv 2) (pa_cons pe_int (pa_cons pe_int pa_nil)))))) pa_nil)) (nomark _)))))) pss_nil)
    (pss_one (ps_ret (pe_and (pe_cmpR op_eq (pe_fld (pv 11) rfl) (pv 2) (nomark _)) (pe_and (pe_cmpR op_eq (pe_fld (pv 11) rfl) (pv 3) (nomark _)) (pe_one (pe_cmpR (op_eqD hr.units) (pe_fld (pv 11) rfl) (pe_lst (pa_cons (pe_tup (pa_cons pe_str (pa_cons pe_int pa_nil))) (pa_cons (pe_tup (pa_cons pe_str (pa_cons pe_int pa_nil))) pa_nil))) (nomark _))))))))))))))))))))), ?_⟩
    obtain ⟨a, xs, rfl, ha, hlen, k⟩ := h
    have sz : (300000 : Nat) ≤ sizeLine := by decide
    simp! only [rIsL]
    refine ⟨a, xs, rfl, ha, hlen, fun cell => ⟨cell, rfl, by decide, cell, rfl, ⟨by decide, by decide⟩, by decide, ?_⟩⟩
    obtain ⟨many, hmany, m1, m2⟩ : ∃ many : Nat, 250 + cell % 11 = (many : Int) ∧ 250 ≤ many ∧ many ≤ 260 := ⟨(250 + cell % 11).toNat, by omega, by omega, by omega⟩
    obtain ⟨params, hpar, p2⟩ : ∃ params : Nat, cell / 11 % 3 = (params : Int) ∧ params ≤ 2 := ⟨(cell / 11 % 3).toNat, by omega, by omega⟩
    rw [hmany, hpar]
    refine lc_rngA (n := many) (fun R h => ⟨_, rfl, h⟩) (by omega) (fun D i H' => CodeAt H' D ((ns0 many).take i)) (fun D hD => ⟨[], upd_same, rfl, fun i a op arg e _ => by cases e⟩) (fun D i H' hD hi p => ?_) (fun D H' hD p => ?_)
    · obtain ⟨as, g, la, hca⟩ := p
      simp! only [rIsL]
      have hl1 := nmV_len (k := i) (by omega)
      have hlt : ((ns0 many).take i).length = i := by
        rw [List.length_take, ns0_len]
        omega
      have hv1 : (Str.ofString "v").length = 1 := by decide
      refine ⟨?_, by omega, .inl ⟨by decide, by decide⟩, by decide, fun t ht => ⟨_, same_new ht _ _ g, by rw [List.length_map, la, hlt]; omega, ?_⟩⟩
      · have := Nat.log2_le_self (i : Int).natAbs
        omega
      · have e : (ns0 many).take (i + 1) = (ns0 many).take i ++ [(nmV i, 3 * (i : Int))] := by
          rw [List.take_add_one, ns0_at hi]
          rfl
        rw [e]
        exact CodeAt.push g la hca ht
    · have hq : CodeAt H' D (ns0 many) := by
        rw [show (ns0 many).take many = ns0 many from by rw [List.take_of_length_le (by rw [ns0_len]; exact Nat.le_refl _)]] at p
        exact p
      clear p hD
      generalize H' = H1 at hq ⊢
      refine ⟨fun σ2 H2 => ∃ (ns : List (Str × Int)) (tw : V) (c6 : Option V), σ2 = [some (.ref a), some (.int cell), some (.int many), some (.int params), some (.ref D), some tw, c6, none, none, none, none, none, none] ∧ CodeAt H2 D ns ∧ ns.length = many ∧
        ((tw = .non ∧ dupF [] ns = none) ∨ (∃ (j : Nat) (n : Str), tw = .int j ∧ ns[j]? = some (n, 3 * (j : Int)) ∧ PyData.canLay0 (.str n) = true ∧ dupF [] ns = some (n, 3 * (j : Int)))), ?_, ?_⟩
      · obtain ⟨as, g, la, hca⟩ := id hq
        simp! only [rIsL]
        refine ⟨⟨by decide, by decide⟩, by decide, ite2 (fun _ => ?_) (fun _ => ⟨ns0 many, hq, ns0_len, .inl (dupF_none (ns0_nd (by omega)) (fun _ _ z => by cases z))⟩)⟩
        have hm1 : (0 : Int) < (many : Int) - 1 := by omega
        have b1 := Int.emod_nonneg (cell / 99) (show (many : Int) - 1 ≠ 0 by omega)
        have b2 := Int.emod_lt_of_pos (cell / 99) hm1
        obtain ⟨j, hj⟩ : ∃ j : Nat, 1 + cell / 99 % ((many : Int) - 1) = (j : Int) := ⟨(1 + cell / 99 % ((many : Int) - 1)).toNat, by omega⟩
        rw [hj]
        have j1 : 1 ≤ j ∧ j < many := by omega
        have b3 := Int.emod_nonneg (cell / 30000) (show (j : Int) ≠ 0 by omega)
        have b4 := Int.emod_lt_of_pos (cell / 30000) (show (0 : Int) < (j : Int) by omega)
        obtain ⟨i, hi⟩ : ∃ i : Nat, cell / 30000 % (j : Int) = (i : Int) := ⟨(cell / 30000 % (j : Int)).toNat, by omega⟩
        rw [hi]
        have i1 : i < j := by omega
        have lm : as.length = many := by rw [la, ns0_len]
        have hias : i < as.length := by omega
        have gi := hca i as[i] _ _ (List.getElem?_eq_getElem hias) (ns0_at (by omega))
        refine ⟨⟨by decide, by decide⟩, hm1, ⟨by decide, by decide⟩, by omega, ?_⟩
        rw [g]
        dsimp only
        refine ⟨_, atI_nat (by rw [List.getElem?_map, List.getElem?_eq_getElem hias]; rfl), _, rfl, _, .inl (.inl gi), _, atI_0, .inl ⟨by decide, by decide⟩, by decide, fun t ht => ?_⟩
        rw [same_new ht _ _ g]
        dsimp only
        refine ⟨_, setI_nat (by rw [List.length_map]; omega), (ns0 many).set j (nmV i, 3 * (j : Int)), CodeAt.setAt g la hca ht (by omega), by rw [List.length_set, ns0_len], .inr ⟨j, rfl, nmV i, ?_, nmV_ok (by omega), ns0_dup (by omega) (by omega) i1⟩⟩
        rw [List.getElem?_set_self (by rw [ns0_len]; omega)]
      · rintro σ2 H2 ⟨ns, tw, c6, rfl, hq2, hnl, htw⟩
        obtain ⟨as, g, la, hca⟩ := id hq2
        simp! only [g]
        refine ⟨as.map V.ref, .inl ⟨.inl (.inl g), fun l hl => ⟨by decide, fun sl hsl => ?_⟩⟩⟩
        obtain ⟨sel, hsel⟩ : ∃ sel : Str, atI [V.str (Str.ofString "size"), V.str (Str.ofString "at:"), V.str (Str.ofString "at:put:")] (params : Int) = some (.str sel) := by
          match params, p2 with
          | 0, _ => exact ⟨_, atI_0⟩
          | 1, _ => exact ⟨_, atI_1⟩
          | 2, _ => exact ⟨_, atI_2⟩
        refine ⟨_, .inl (.inl upd_same), _, hsel, ?_⟩
        have s3 := sm_trans (same_new (o := HO.tup (as.map V.ref)) hl) (same_new (o := HO.lst [V.str (Str.ofString "size"), V.str (Str.ofString "at:"), V.str (Str.ofString "at:put:")]) hsl)
        have l3 : SqT K (upd (upd H2 l (HO.tup (as.map V.ref))) sl (HO.lst [V.str (Str.ofString "size"), V.str (Str.ofString "at:"), V.str (Str.ofString "at:put:")])) l (as.map V.ref) := .inl (.inl (same_new hsl _ _ upd_same))
        generalize upd (upd H2 l (HO.tup (as.map V.ref))) sl (HO.lst [V.str (Str.ofString "size"), V.str (Str.ofString "at:"), V.str (Str.ofString "at:put:")]) = H3 at s3 l3 ⊢
        refine sl_to l3 fun p1 H4 s4 hp1 => sl_from (l3.same s4) fun p2' H5 s5 hp2 => ⟨Nat.zero_le _, fun e0 he0 => ⟨by decide, fun tr htr => ?_⟩⟩
        have s6 := same_new (o := HO.tup []) he0
        have ge0 : upd H5 e0 (HO.tup []) e0 = some (HO.tup []) := upd_same
        generalize upd H5 e0 (HO.tup []) = H6 at s6 ge0 htr ⊢
        have s7 := same_new (o := HO.tup [V.str (Str.ofString "method"), V.str sel, V.ref p1, V.ref p2', V.ref e0]) htr
        have gtr : upd H6 tr (HO.tup [V.str (Str.ofString "method"), V.str sel, V.ref p1, V.ref p2', V.ref e0]) tr = some (HO.tup [V.str (Str.ofString "method"), V.str sel, V.ref p1, V.ref p2', V.ref e0]) := upd_same
        generalize upd H6 tr (HO.tup [V.str (Str.ofString "method"), V.str sel, V.ref p1, V.ref p2', V.ref e0]) = H7 at s7 gtr ⊢
        have s27 := sm_trans s3 (sm_trans s4 (sm_trans s5 (sm_trans s6 s7)))
        have hnm : ∀ H', Same H2 H' → NmAt K H' ((as.map V.ref).take params ++ (as.map V.ref).drop params) ns := fun H' s => CodeAt.nm la fun i a op arg x y => s _ _ (hca i a op arg x y)
        have htl : ((as.map V.ref).take params).length = params := by
          rw [List.length_take, List.length_map]
          omega
        refine ⟨fun σ3 H9 => ∃ (tr' : Addr) (c10 : Option V) (blk : Bool), σ3 = [some (.ref a), some (.int cell), some (.int many), some (.int params), some (.ref D), some tw, c6, some (.ref l), some (.str sel), some (.ref tr'), c10, none, none] ∧ CodeAt H9 D ns ∧ MT K H9 tr' blk params ns ∧ (blk = true ↔ cell / 7 % 2 = 1), ?_, ?_⟩
        · simp! only [rIsL]
          refine ⟨⟨by decide, by decide⟩, by decide, ite2 (fun hb => ?_) (fun hb => ?_)⟩
          · have l7 := l3.same (sm_trans s4 (sm_trans s5 (sm_trans s6 s7)))
            refine sl_to l7 fun q1 HA sA hq1 => sl_from (l7.same sA) fun q2 HB sB hq2' => ⟨Nat.zero_le _, fun e1 he1 => ⟨by decide, fun bt hbt => ⟨Nat.zero_le _, fun p0 hp0 => ⟨Nat.zero_le _, fun q0 hq0 => ⟨by decide, fun st hst => ⟨by decide, fun e2 he2 => ⟨by decide, fun mt hmt => ?_⟩⟩⟩⟩⟩⟩⟩
            have S1 := same_new (o := HO.tup []) he1
            have S2 := same_new (o := HO.tup [V.str (Str.ofString "block"), V.ref q1, V.ref q2, V.ref e1, V.int 2]) hbt
            have S3 := same_new (o := HO.tup []) hp0
            have S4 := same_new (o := HO.tup []) hq0
            have S5 := same_new (o := HO.tup [V.str (Str.ofString "return"), V.ref bt, V.int 1]) hst
            have S6 := same_new (o := HO.tup [V.ref st]) he2
            have S7 := same_new (o := HO.tup [V.str (Str.ofString "method"), V.str (Str.ofString "size"), V.ref p0, V.ref q0, V.ref e2]) hmt
            have S67 := sm_trans S6 S7
            have S57 := sm_trans S5 S67
            have S47 := sm_trans S4 S57
            have S37 := sm_trans S3 S47
            have S27 := sm_trans S2 S37
            have S17 := sm_trans S1 S27
            have sAll := sm_trans s27 (sm_trans sA (sm_trans sB S17))
            exact ⟨hq2.same sAll, true, .inr ⟨rfl, Str.ofString "size", p0, q0, e2, st, bt, q1, q2, e1, _, _, .inl (.inl upd_same), .inl (.inl (S47 _ _ upd_same)), .inl (.inl (S57 _ _ upd_same)), .inl (.inl (S7 _ _ upd_same)), .inl (.inl (S67 _ _ upd_same)),
              ⟨.inl (.inl (S37 _ _ upd_same)), hq1.same (sm_trans sB S17), hq2'.same S17, .inl (.inl (S27 _ _ upd_same)), hnm _ sAll, by omega⟩, htl⟩, fun _ => hb, fun _ => rfl⟩
          · exact ⟨hq2.same s27, false, .inl ⟨rfl, sel, p1, p2', e0, _, _, .inl (.inl gtr), (hp1.same (sm_trans s5 (sm_trans s6 s7))), hp2.same (sm_trans s6 s7), .inl (.inl (s7 _ _ ge0)), hnm _ s27, by omega, htl⟩, fun z => (by cases z), fun z => absurd z hb⟩
        · rintro σ3 H9 ⟨tr', c10, blk, rfl, hq9, hMT, hbb⟩
          obtain ⟨as9, g9, la9, hca9⟩ := id hq9
          simp! only []
          refine ⟨tr', H9, blk, params, ns, rfl, sm_refl, hMT, fun n at_ p H' hd s gp => ?_, fun H' hd h255 s => ?_, fun H' d dx sel' argc cnt c2 l2 s h255 hd gd hA hB => ?_⟩
          · rcases htw with ⟨rfl, hn0⟩ | ⟨j, n', rfl, hnj, hok, hdj⟩
            · rw [hn0] at hd
              cases hd
            · rw [hdj] at hd
              cases hd
              have g' := s _ _ g9
              simp! only [g']
              have hj9 : j < as9.length := by
                rw [la9]
                exact (List.getElem?_eq_some_iff.mp hnj).1
              refine ⟨_, atI_nat (by rw [List.getElem?_map, List.getElem?_eq_getElem hj9]; rfl), as9[j], rfl, _, .inl (.inl (s _ _ (hca9 j as9[j] _ _ (List.getElem?_eq_getElem hj9) hnj))), _, atI_0, .inl ⟨by decide, by decide⟩, by decide, fun t2 ht2 => ?_⟩
              have lay : PyData.canLay0 (.tuple [.str (Str.ofString "Twice"), .str n, .int (3 * (j : Int))]) = true := by
                show (PyData.canLay0 (.str (Str.ofString "Twice")) && (PyData.canLay0 (.str n) && (true && true))) = true
                rw [hok, show PyData.canLay0 (.str (Str.ofString "Twice")) = true by decide +kernel]
                rfl
              have sh : SeqAt.shaped (.tuple [.str (Str.ofString "Twice"), .str n, .int (3 * (j : Int))]) = true := by
                unfold SeqAt.shaped
                rw [lay]
                rfl
              refine ⟨.tuple [.str (Str.ofString "Twice"), .str n, .int (3 * (j : Int))], .tuple [.str (Str.ofString "Twice"), .str n, .int (3 * (j : Int))], .tup (.inl (.inl (same_new ht2 _ _ gp))) (.cons (.str _) (.cons (.str _) (.cons (.int _) .nil))), .tup (.inl (.inl upd_same)) (.cons (.str _) (.cons (.str _) (.cons (.int _) .nil))), sh, sh, ?_⟩
              rw [SeqAt.eqv_refl _ lay]
              exact k _
          · rcases htw with ⟨rfl, hn0⟩ | ⟨j, n, rfl, hnj, hok, hdj⟩
            · simp! only []
              exact ite2 (fun _ => k _) (fun h => absurd (by omega) h)
            · rw [hdj] at hd
              cases hd
          · rcases htw with ⟨rfl, hn0⟩ | ⟨j, n', rfl, hnj, hok, hdj⟩
            · simp! only [gd]
              refine ite2 (fun h => absurd h (by omega)) (fun _ => ⟨⟨by decide, by decide⟩, by decide, ite2 (fun hb => ?_) (fun hb => ?_)⟩)
              · obtain ⟨cnt0, m, gl2, gm⟩ := hB (hbb.mpr hb)
                rw [hnl] at gm
                refine ⟨T.cl_Draft, T.no_Draft_locals, _, rfl, rfl, ite2 (fun _ => ⟨T.cl_Draft, T.no_Draft_literals, _, rfl, by decide, fun t ht => ⟨by decide, fun l' hl' => ?_⟩⟩) (fun h => absurd (by rw [cnt0]) h)⟩
                have u1 := same_new (o := HO.tup [V.str (Str.ofString "block"), V.int params, V.int many, V.int 2, V.int 1]) ht
                have u2 := same_new (o := HO.lst [V.ref t]) hl'
                have lay : PyData.canLay0 (.list [.tuple [.str (Str.ofString "block"), .int params, .int many, .int 2, .int 1]]) = true := by
                  show ((PyData.canLay0 (.str (Str.ofString "block")) && (true && (true && (true && (true && true))))) && true) = true
                  rw [show PyData.canLay0 (.str (Str.ofString "block")) = true by decide +kernel]
                  rfl
                have sh : SeqAt.shaped (.list [.tuple [.str (Str.ofString "block"), .int params, .int many, .int 2, .int 1]]) = true := by
                  unfold SeqAt.shaped
                  rw [lay]
                  rfl
                refine ⟨_, _, .lst (.inl (.inl (u2 _ _ (u1 _ _ gl2)))) (.cons (.tup (.inl (.inl (u2 _ _ (u1 _ _ gm)))) (.cons (.str _) (.cons (.int _) (.cons (.int _) (.cons (.int _) (.cons (.int _) .nil)))))) .nil), .lst (.inl (.inl upd_same)) (.cons (.tup (.inl (.inl (u2 _ _ upd_same))) (.cons (.str _) (.cons (.int _) (.cons (.int _) (.cons (.int _) (.cons (.int _) .nil)))))) .nil), sh, sh, ?_⟩
                rw [SeqAt.eqv_refl _ lay]
                exact k _
              · have hbf : blk = false := by
                  cases blk with
                  | false => rfl
                  | true => exact absurd (hbb.mp rfl) hb
                obtain ⟨ea, ec, as2, gc2, la2, hca2⟩ := hA hbf
                match as2, la2, gc2, hca2 with
                | [x, y], _, gc2, hca2 =>
                  have gx := hca2 0 x _ _ rfl (show C0[0]? = some (Str.ofString "self", 0) from rfl)
                  have gy := hca2 1 y _ _ rfl (show C0[1]? = some (Str.ofString "return", 0) from rfl)
                  refine ⟨T.cl_Draft, T.no_Draft_locals, _, rfl, rfl, ite2 (fun _ => ⟨T.cl_Draft, T.no_Draft_argc, _, rfl, rfl, ite2 (fun _ => ⟨T.cl_Draft, T.no_Draft_code, _, rfl, ?_⟩) (fun h => absurd (by rw [ea]) h)⟩) (fun h => absurd (by rw [ec, hnl]) h)⟩
                  refine ⟨by decide, fun t1 ht1 => ⟨by decide, fun t2 ht2 => ⟨by decide, fun l' hl' => ?_⟩⟩⟩
                  have u1 := same_new (o := HO.tup [V.str (Str.ofString "self"), V.int 0]) ht1
                  have u2 := same_new (o := HO.tup [V.str (Str.ofString "return"), V.int 0]) ht2
                  have u3 := same_new (o := HO.lst [V.ref t1, V.ref t2]) hl'
                  have sh : SeqAt.shaped (.list [.tuple [.str (Str.ofString "self"), .int 0], .tuple [.str (Str.ofString "return"), .int 0]]) = true := by decide +kernel
                  have lay : PyData.canLay0 (.list [.tuple [.str (Str.ofString "self"), .int 0], .tuple [.str (Str.ofString "return"), .int 0]]) = true := by decide +kernel
                  refine ⟨_, _, .lst (.inl (.inl (u3 _ _ (u2 _ _ (u1 _ _ gc2))))) (.cons (.tup (.inl (.inl (u3 _ _ (u2 _ _ (u1 _ _ gx))))) (.cons (.str _) (.cons (.int _) .nil))) (.cons (.tup (.inl (.inl (u3 _ _ (u2 _ _ (u1 _ _ gy))))) (.cons (.str _) (.cons (.int _) .nil))) .nil)),
                    .lst (.inl (.inl upd_same)) (.cons (.tup (.inl (.inl (u3 _ _ (u2 _ _ upd_same)))) (.cons (.str _) (.cons (.int _) .nil))) (.cons (.tup (.inl (.inl (u3 _ _ upd_same))) (.cons (.str _) (.cons (.int _) .nil))) .nil)), sh, sh, ?_⟩
                  rw [SeqAt.eqv_refl _ lay]
                  exact k _
            · rw [hdj] at hd
              cases hd
end

theorem all_mk {l : PySem.W.OpenLaw} {w : World} {K : PySem.W.Frag} {h : Heap} {mg : Str → Option Value} {fa : Addr} (X : K.In h) (G : h.Ns mainGlobals mg) (hfa : mg "law" = some (.ref fa))
    {f35 : Addr} {od35 an35 : Option Addr} {sl35 : Array (Option Value)} {oc35 kV35 dc35 pm35 cd35 ct35 : Value}
    {f34 : Addr} {od34 an34 : Option Addr} {sl34 : Array (Option Value)} {oc34 kV34 dc34 pm34 cd34 ct34 : Value}
    {f33 : Addr} {od33 an33 : Option Addr} {sl33 : Array (Option Value)} {oc33 kV33 dc33 pm33 cd33 ct33 : Value}
    {f32 : Addr} {od32 an32 : Option Addr} {sl32 : Array (Option Value)} {oc32 kV32 dc32 pm32 cd32 ct32 : Value}
    {f31 : Addr} {od31 an31 : Option Addr} {sl31 : Array (Option Value)} {oc31 kV31 dc31 pm31 cd31 ct31 : Value}
    {f30 : Addr} {od30 an30 : Option Addr} {sl30 : Array (Option Value)} {oc30 kV30 dc30 pm30 cd30 ct30 : Value}
    {f29 : Addr} {od29 an29 : Option Addr} {sl29 : Array (Option Value)} {oc29 kV29 dc29 pm29 cd29 ct29 : Value}
    {f28 : Addr} {od28 an28 : Option Addr} {sl28 : Array (Option Value)} {oc28 kV28 dc28 pm28 cd28 ct28 : Value}
    {f27 : Addr} {od27 an27 : Option Addr} {sl27 : Array (Option Value)} {oc27 kV27 dc27 pm27 cd27 ct27 : Value}
    {f26 : Addr} {od26 an26 : Option Addr} {sl26 : Array (Option Value)} {oc26 kV26 dc26 pm26 cd26 ct26 : Value}
    {f25 : Addr} {od25 an25 : Option Addr} {sl25 : Array (Option Value)} {oc25 kV25 dc25 pm25 cd25 ct25 : Value}
    {f24 : Addr} {od24 an24 : Option Addr} {sl24 : Array (Option Value)} {oc24 kV24 dc24 pm24 cd24 ct24 : Value}
    {f23 : Addr} {od23 an23 : Option Addr} {sl23 : Array (Option Value)} {oc23 kV23 dc23 pm23 cd23 ct23 : Value}
    {f22 : Addr} {od22 an22 : Option Addr} {sl22 : Array (Option Value)} {oc22 kV22 dc22 pm22 cd22 ct22 : Value}
    {f21 : Addr} {od21 an21 : Option Addr} {sl21 : Array (Option Value)} {oc21 kV21 dc21 pm21 cd21 ct21 : Value}
    {f20 : Addr} {od20 an20 : Option Addr} {sl20 : Array (Option Value)} {oc20 kV20 dc20 pm20 cd20 ct20 : Value}
    {f19 : Addr} {od19 an19 : Option Addr} {sl19 : Array (Option Value)} {oc19 kV19 dc19 pm19 cd19 ct19 : Value}
    {f18 : Addr} {od18 an18 : Option Addr} {sl18 : Array (Option Value)} {oc18 kV18 dc18 pm18 cd18 ct18 : Value}
    {cT17 : Value} {dT17 : Option Addr} {sT17 : Array (Option Value)}
    {T17 : Addr} {nT17 : Nat} {tk17_0 : Tok}
    {f17 : Addr} {od17 an17 : Option Addr} {sl17 : Array (Option Value)} {oc17 kV17 dc17 pm17 cd17 ct17 : Value}
    {f16 : Addr} {od16 an16 : Option Addr} {sl16 : Array (Option Value)} {oc16 kV16 dc16 pm16 cd16 ct16 : Value}
    {f15 : Addr} {od15 an15 : Option Addr} {sl15 : Array (Option Value)} {oc15 kV15 dc15 pm15 cd15 ct15 : Value}
    {f14 : Addr} {od14 an14 : Option Addr} {sl14 : Array (Option Value)} {oc14 kV14 dc14 pm14 cd14 ct14 : Value}
    {f13 : Addr} {od13 an13 : Option Addr} {sl13 : Array (Option Value)} {oc13 kV13 dc13 pm13 cd13 ct13 : Value}
    {f12 : Addr} {od12 an12 : Option Addr} {sl12 : Array (Option Value)} {oc12 kV12 dc12 pm12 cd12 ct12 : Value}
    {f11 : Addr} {od11 an11 : Option Addr} {sl11 : Array (Option Value)} {oc11 kV11 dc11 pm11 cd11 ct11 : Value}
    {f10 : Addr} {od10 an10 : Option Addr} {sl10 : Array (Option Value)} {oc10 kV10 dc10 pm10 cd10 ct10 : Value}
    {f9 : Addr} {od9 an9 : Option Addr} {sl9 : Array (Option Value)} {oc9 kV9 dc9 pm9 cd9 ct9 : Value}
    {f8 : Addr} {od8 an8 : Option Addr} {sl8 : Array (Option Value)} {oc8 kV8 dc8 pm8 cd8 ct8 : Value}
    {f7 : Addr} {od7 an7 : Option Addr} {sl7 : Array (Option Value)} {oc7 kV7 dc7 pm7 cd7 ct7 : Value}
    {f6 : Addr} {od6 an6 : Option Addr} {sl6 : Array (Option Value)} {oc6 kV6 dc6 pm6 cd6 ct6 : Value}
    {f5 : Addr} {od5 an5 : Option Addr} {sl5 : Array (Option Value)} {oc5 kV5 dc5 pm5 cd5 ct5 : Value}
    {f4 : Addr} {od4 an4 : Option Addr} {sl4 : Array (Option Value)} {oc4 kV4 dc4 pm4 cd4 ct4 : Value}
    {f3 : Addr} {od3 an3 : Option Addr} {sl3 : Array (Option Value)} {oc3 kV3 dc3 pm3 cd3 ct3 : Value}
    {f2 : Addr} {od2 an2 : Option Addr} {sl2 : Array (Option Value)} {oc2 kV2 dc2 pm2 cd2 ct2 : Value}
    {f1 : Addr} {od1 an1 : Option Addr} {sl1 : Array (Option Value)} {oc1 kV1 dc1 pm1 cd1 ct1 : Value}
    {f0 : Addr} {od0 an0 : Option Addr} {sl0 : Array (Option Value)} {oc0 kV0 dc0 pm0 cd0 ct0 : Value}
    {C_SaggarError : Addr}
    {C_Oversized : Addr}
    {C_Unknown : Addr}
    {C_Twice : Addr}
    {C_Fixed : Addr}
    {C_Draft : Addr}
    {C_Scope : Addr}
    {C_Coder : Addr}
    {nm_Oversized q_Oversized : Str} {N_Oversized : Addr} {bs_Oversized : List Value} {sn_Oversized : List Str} {sub_Oversized : List Value} {ab_Oversized : Bool} {col_Oversized : Option Bool} {dd_Oversized : Option Addr} {m0_Oversized m1_Oversized m2_Oversized m3_Oversized m5_Oversized : Option Value}
    {nm_Unknown q_Unknown : Str} {N_Unknown : Addr} {bs_Unknown : List Value} {sn_Unknown : List Str} {sub_Unknown : List Value} {ab_Unknown : Bool} {col_Unknown : Option Bool} {dd_Unknown : Option Addr} {m0_Unknown m1_Unknown m2_Unknown m3_Unknown m5_Unknown : Option Value}
    {nm_Twice q_Twice : Str} {N_Twice : Addr} {bs_Twice : List Value} {sn_Twice : List Str} {sub_Twice : List Value} {ab_Twice : Bool} {col_Twice : Option Bool} {dd_Twice : Option Addr} {m0_Twice m1_Twice m2_Twice m3_Twice m5_Twice : Option Value}
    {nm_Fixed q_Fixed : Str} {N_Fixed : Addr} {bs_Fixed : List Value} {sn_Fixed : List Str} {sub_Fixed : List Value} {ab_Fixed : Bool} {col_Fixed : Option Bool} {dd_Fixed : Option Addr} {m0_Fixed m1_Fixed m2_Fixed m3_Fixed m5_Fixed : Option Value}
    {t_MOST_LOCALS : Tok}
    {t_PUSHES : Addr} {dd_PUSHES : Option Addr} {ss_PUSHES : Array (Option Value)} {nn_PUSHES : Nat} {tkPUSHES_0 : Tok} {tkPUSHES_1 : Tok} {tkPUSHES_2 : Tok} {tkPUSHES_3 : Tok} {tkPUSHES_4 : Tok} {tkPUSHES_5 : Tok} {tkPUSHES_6 : Tok} {tkPUSHES_7 : Tok} {tkPUSHES_8 : Tok} {tkPUSHES_9 : Tok} {tkPUSHES_10 : Tok}
    {t_SENDS : Addr} {dd_SENDS : Option Addr} {ss_SENDS : Array (Option Value)} {nn_SENDS : Nat} {tkSENDS_0 : Tok} {tkSENDS_1 : Tok}
    {t_POPS : Addr} {dd_POPS : Option Addr} {ss_POPS : Array (Option Value)} {nn_POPS : Nat} {tkPOPS_0 : Tok} {tkPOPS_1 : Tok}
    {t_ENDS : Addr} {dd_ENDS : Option Addr} {ss_ENDS : Array (Option Value)} {nn_ENDS : Nat} {tkENDS_0 : Tok} {tkENDS_1 : Tok}
    (m_SaggarError : PySem.W.nsIn K mainGlobals "SaggarError" = some (some (.ref C_SaggarError)))
    (m_Oversized : PySem.W.nsIn K mainGlobals "Oversized" = some (some (.ref C_Oversized)))
    (m_Unknown : PySem.W.nsIn K mainGlobals "Unknown" = some (some (.ref C_Unknown)))
    (m_Twice : PySem.W.nsIn K mainGlobals "Twice" = some (some (.ref C_Twice)))
    (m_Fixed : PySem.W.nsIn K mainGlobals "Fixed" = some (some (.ref C_Fixed)))
    (m_Draft : PySem.W.nsIn K mainGlobals "Draft" = some (some (.ref C_Draft)))
    (m_Scope : PySem.W.nsIn K mainGlobals "Scope" = some (some (.ref C_Scope)))
    (m_Coder : PySem.W.nsIn K mainGlobals "Coder" = some (some (.ref C_Coder)))
    (xl_Oversized : K.lookup C_Oversized = some (excClassObj nm_Oversized q_Oversized C_Oversized N_Oversized bs_Oversized [.ref C_SaggarError, .type "ValueError", .type "Exception", .type "BaseException", .type "object"] true sn_Oversized sub_Oversized ab_Oversized col_Oversized dd_Oversized m0_Oversized m1_Oversized m2_Oversized m3_Oversized m5_Oversized "ValueError.__new__"))
    (sa_Oversized : PySem.W.findIn K (.ref C_Oversized) "__setattr__" = some (some (.builtin "object.__setattr__"))) (ga_Oversized : PySem.W.findIn K (.ref C_Oversized) "__getattribute__" = some (some (.builtin "BaseException.__getattribute__"))) (gg_Oversized : PySem.W.findIn K (.ref C_Oversized) "__getattr__" = some none) (ic_Oversized : PySem.W.findIn K (.ref C_Oversized) "__init__" = some (some (.ref f0))) (ti_Oversized : PySem.W.typeIn K (.ref f0) = some (.type "function"))
    (kc_Oversized : PySem.W.keepIn K (.ref C_Oversized) = true) (ec_Oversized : PySem.W.subIn K (.ref C_Oversized) (.type "BaseException") = some true) (tc_Oversized : PySem.W.typeIn K (.ref C_Oversized) = some (.type "type")) (hc_Oversized : PySem.W.hasDictIn K C_Oversized = true)
    (ha_Oversized : PySem.W.findIn K (.ref C_Oversized) "__class__" = some (some (.builtin "object.__class__"))) (hn_Oversized : PySem.W.specialIn K (.builtin "object.__class__") "__get__" = some (some (.builtin "getset_descriptor.__get__"))) (ht_Oversized : PySem.W.takesIn K (.builtin "object.__class__") = some true) (hm_Oversized : PySem.W.mroIn K C_Oversized (.type "object") = some true)
    (no_Oversized_limit : PySem.W.findIn K (.ref C_Oversized) "limit" = some none)
    (ex_Oversized_Oversized : PySem.W.exmOne K (.ref C_Oversized) (.ref C_Oversized) = some true)
    (ex_Oversized_Twice : PySem.W.exmOne K (.ref C_Oversized) (.ref C_Twice) = some false)
    (xl_Unknown : K.lookup C_Unknown = some (excClassObj nm_Unknown q_Unknown C_Unknown N_Unknown bs_Unknown [.ref C_SaggarError, .type "ValueError", .type "Exception", .type "BaseException", .type "object"] true sn_Unknown sub_Unknown ab_Unknown col_Unknown dd_Unknown m0_Unknown m1_Unknown m2_Unknown m3_Unknown m5_Unknown "ValueError.__new__"))
    (sa_Unknown : PySem.W.findIn K (.ref C_Unknown) "__setattr__" = some (some (.builtin "object.__setattr__"))) (ga_Unknown : PySem.W.findIn K (.ref C_Unknown) "__getattribute__" = some (some (.builtin "BaseException.__getattribute__"))) (gg_Unknown : PySem.W.findIn K (.ref C_Unknown) "__getattr__" = some none) (ic_Unknown : PySem.W.findIn K (.ref C_Unknown) "__init__" = some (some (.ref f1))) (ti_Unknown : PySem.W.typeIn K (.ref f1) = some (.type "function"))
    (kc_Unknown : PySem.W.keepIn K (.ref C_Unknown) = true) (ec_Unknown : PySem.W.subIn K (.ref C_Unknown) (.type "BaseException") = some true) (tc_Unknown : PySem.W.typeIn K (.ref C_Unknown) = some (.type "type")) (hc_Unknown : PySem.W.hasDictIn K C_Unknown = true)
    (ha_Unknown : PySem.W.findIn K (.ref C_Unknown) "__class__" = some (some (.builtin "object.__class__"))) (hn_Unknown : PySem.W.specialIn K (.builtin "object.__class__") "__get__" = some (some (.builtin "getset_descriptor.__get__"))) (ht_Unknown : PySem.W.takesIn K (.builtin "object.__class__") = some true) (hm_Unknown : PySem.W.mroIn K C_Unknown (.type "object") = some true)
    (no_Unknown_name : PySem.W.findIn K (.ref C_Unknown) "name" = some none)
    (no_Unknown_at : PySem.W.findIn K (.ref C_Unknown) "at" = some none)
    (ex_Unknown_Oversized : PySem.W.exmOne K (.ref C_Unknown) (.ref C_Oversized) = some false)
    (ex_Unknown_Twice : PySem.W.exmOne K (.ref C_Unknown) (.ref C_Twice) = some false)
    (xl_Twice : K.lookup C_Twice = some (excClassObj nm_Twice q_Twice C_Twice N_Twice bs_Twice [.ref C_SaggarError, .type "ValueError", .type "Exception", .type "BaseException", .type "object"] true sn_Twice sub_Twice ab_Twice col_Twice dd_Twice m0_Twice m1_Twice m2_Twice m3_Twice m5_Twice "ValueError.__new__"))
    (sa_Twice : PySem.W.findIn K (.ref C_Twice) "__setattr__" = some (some (.builtin "object.__setattr__"))) (ga_Twice : PySem.W.findIn K (.ref C_Twice) "__getattribute__" = some (some (.builtin "BaseException.__getattribute__"))) (gg_Twice : PySem.W.findIn K (.ref C_Twice) "__getattr__" = some none) (ic_Twice : PySem.W.findIn K (.ref C_Twice) "__init__" = some (some (.ref f2))) (ti_Twice : PySem.W.typeIn K (.ref f2) = some (.type "function"))
    (kc_Twice : PySem.W.keepIn K (.ref C_Twice) = true) (ec_Twice : PySem.W.subIn K (.ref C_Twice) (.type "BaseException") = some true) (tc_Twice : PySem.W.typeIn K (.ref C_Twice) = some (.type "type")) (hc_Twice : PySem.W.hasDictIn K C_Twice = true)
    (ha_Twice : PySem.W.findIn K (.ref C_Twice) "__class__" = some (some (.builtin "object.__class__"))) (hn_Twice : PySem.W.specialIn K (.builtin "object.__class__") "__get__" = some (some (.builtin "getset_descriptor.__get__"))) (ht_Twice : PySem.W.takesIn K (.builtin "object.__class__") = some true) (hm_Twice : PySem.W.mroIn K C_Twice (.type "object") = some true)
    (no_Twice_name : PySem.W.findIn K (.ref C_Twice) "name" = some none)
    (no_Twice_at : PySem.W.findIn K (.ref C_Twice) "at" = some none)
    (ex_Twice_Oversized : PySem.W.exmOne K (.ref C_Twice) (.ref C_Oversized) = some false)
    (ex_Twice_Twice : PySem.W.exmOne K (.ref C_Twice) (.ref C_Twice) = some true)
    (xl_Fixed : K.lookup C_Fixed = some (excClassObj nm_Fixed q_Fixed C_Fixed N_Fixed bs_Fixed [.ref C_SaggarError, .type "ValueError", .type "Exception", .type "BaseException", .type "object"] true sn_Fixed sub_Fixed ab_Fixed col_Fixed dd_Fixed m0_Fixed m1_Fixed m2_Fixed m3_Fixed m5_Fixed "ValueError.__new__"))
    (sa_Fixed : PySem.W.findIn K (.ref C_Fixed) "__setattr__" = some (some (.builtin "object.__setattr__"))) (ga_Fixed : PySem.W.findIn K (.ref C_Fixed) "__getattribute__" = some (some (.builtin "BaseException.__getattribute__"))) (gg_Fixed : PySem.W.findIn K (.ref C_Fixed) "__getattr__" = some none) (ic_Fixed : PySem.W.findIn K (.ref C_Fixed) "__init__" = some (some (.ref f3))) (ti_Fixed : PySem.W.typeIn K (.ref f3) = some (.type "function"))
    (kc_Fixed : PySem.W.keepIn K (.ref C_Fixed) = true) (ec_Fixed : PySem.W.subIn K (.ref C_Fixed) (.type "BaseException") = some true) (tc_Fixed : PySem.W.typeIn K (.ref C_Fixed) = some (.type "type")) (hc_Fixed : PySem.W.hasDictIn K C_Fixed = true)
    (ha_Fixed : PySem.W.findIn K (.ref C_Fixed) "__class__" = some (some (.builtin "object.__class__"))) (hn_Fixed : PySem.W.specialIn K (.builtin "object.__class__") "__get__" = some (some (.builtin "getset_descriptor.__get__"))) (ht_Fixed : PySem.W.takesIn K (.builtin "object.__class__") = some true) (hm_Fixed : PySem.W.mroIn K C_Fixed (.type "object") = some true)
    (no_Fixed_name : PySem.W.findIn K (.ref C_Fixed) "name" = some none)
    (no_Fixed_at : PySem.W.findIn K (.ref C_Fixed) "at" = some none)
    (ex_Fixed_Oversized : PySem.W.exmOne K (.ref C_Fixed) (.ref C_Oversized) = some false)
    (ex_Fixed_Twice : PySem.W.exmOne K (.ref C_Fixed) (.ref C_Twice) = some false)
    (pg_Draft : PySem.W.plainGet K C_Draft Str.empty = true) (hd_Draft : PySem.W.hasDictIn K C_Draft = true) (po_Draft : PySem.W.plainOver K C_Draft = true) (sa_Draft : PySem.W.findIn K (.ref C_Draft) "__setattr__" = some (some (.builtin "object.__setattr__")))
    (mi_Draft : PySem.W.makesIn K C_Draft = true) (kc_Draft : PySem.W.keepIn K (.ref C_Draft) = true)
    (no_Draft_selector : PySem.W.findIn K (.ref C_Draft) "selector" = some none)
    (no_Draft_argc : PySem.W.findIn K (.ref C_Draft) "argc" = some none)
    (no_Draft_locals : PySem.W.findIn K (.ref C_Draft) "locals" = some none)
    (no_Draft_stack : PySem.W.findIn K (.ref C_Draft) "stack" = some none)
    (no_Draft_code : PySem.W.findIn K (.ref C_Draft) "code" = some none)
    (no_Draft_literals : PySem.W.findIn K (.ref C_Draft) "literals" = some none)
    (pg_Scope : PySem.W.plainGet K C_Scope Str.empty = true) (hd_Scope : PySem.W.hasDictIn K C_Scope = true) (po_Scope : PySem.W.plainOver K C_Scope = true) (sa_Scope : PySem.W.findIn K (.ref C_Scope) "__setattr__" = some (some (.builtin "object.__setattr__")))
    (mi_Scope : PySem.W.makesIn K C_Scope = true) (kc_Scope : PySem.W.keepIn K (.ref C_Scope) = true)
    (no_Scope_indexes : PySem.W.findIn K (.ref C_Scope) "indexes" = some none)
    (no_Scope_argc : PySem.W.findIn K (.ref C_Scope) "argc" = some none)
    (pg_Coder : PySem.W.plainGet K C_Coder Str.empty = true) (hd_Coder : PySem.W.hasDictIn K C_Coder = true) (po_Coder : PySem.W.plainOver K C_Coder = true) (sa_Coder : PySem.W.findIn K (.ref C_Coder) "__setattr__" = some (some (.builtin "object.__setattr__")))
    (mi_Coder : PySem.W.makesIn K C_Coder = true) (kc_Coder : PySem.W.keepIn K (.ref C_Coder) = true)
    (no_Coder_code : PySem.W.findIn K (.ref C_Coder) "code" = some none)
    (no_Coder_literals : PySem.W.findIn K (.ref C_Coder) "literals" = some none)
    (no_Coder_known : PySem.W.findIn K (.ref C_Coder) "known" = some none)
    (no_Coder_scopes : PySem.W.findIn K (.ref C_Coder) "scopes" = some none)
    (no_Coder_fields : PySem.W.findIn K (.ref C_Coder) "fields" = some none)
    (no_Coder_shared : PySem.W.findIn K (.ref C_Coder) "shared" = some none)
    (l0 : K.lookup f0 = some ⟨oc0, od0, .func (PySem.W.fnOf "__init__" "Oversized.__init__" (defArgs s_Oversized___init__) (defBody s_Oversized___init__) (defScope s_Oversized___init__) .none kV0 dc0 pm0 an0 cd0 ct0), sl0⟩) (c0 : PySem.W.codeIn K cd0 "Oversized.__init__" = true) (k0 : PySem.W.keepIn K (.ref f0) = true)
    (l1 : K.lookup f1 = some ⟨oc1, od1, .func (PySem.W.fnOf "__init__" "Unknown.__init__" (defArgs s_Unknown___init__) (defBody s_Unknown___init__) (defScope s_Unknown___init__) .none kV1 dc1 pm1 an1 cd1 ct1), sl1⟩) (c1 : PySem.W.codeIn K cd1 "Unknown.__init__" = true) (k1 : PySem.W.keepIn K (.ref f1) = true)
    (l2 : K.lookup f2 = some ⟨oc2, od2, .func (PySem.W.fnOf "__init__" "Twice.__init__" (defArgs s_Twice___init__) (defBody s_Twice___init__) (defScope s_Twice___init__) .none kV2 dc2 pm2 an2 cd2 ct2), sl2⟩) (c2 : PySem.W.codeIn K cd2 "Twice.__init__" = true) (k2 : PySem.W.keepIn K (.ref f2) = true)
    (l3 : K.lookup f3 = some ⟨oc3, od3, .func (PySem.W.fnOf "__init__" "Fixed.__init__" (defArgs s_Fixed___init__) (defBody s_Fixed___init__) (defScope s_Fixed___init__) .none kV3 dc3 pm3 an3 cd3 ct3), sl3⟩) (c3 : PySem.W.codeIn K cd3 "Fixed.__init__" = true) (k3 : PySem.W.keepIn K (.ref f3) = true)
    (a4 : PySem.W.nsIn K mainGlobals "change_of" = some (some (.ref f4)))
    (l4 : K.lookup f4 = some ⟨oc4, od4, .func (PySem.W.fnOf "change_of" "change_of" (defArgs s_change_of) (defBody s_change_of) (defScope s_change_of) .none kV4 dc4 pm4 an4 cd4 ct4), sl4⟩) (c4 : PySem.W.codeIn K cd4 "change_of" = true) (k4 : PySem.W.keepIn K (.ref f4) = true)
    (a5 : PySem.W.nsIn K mainGlobals "places_behind" = some (some (.ref f5)))
    (l5 : K.lookup f5 = some ⟨oc5, od5, .func (PySem.W.fnOf "places_behind" "places_behind" (defArgs s_places_behind) (defBody s_places_behind) (defScope s_places_behind) .none kV5 dc5 pm5 an5 cd5 ct5), sl5⟩) (c5 : PySem.W.codeIn K cd5 "places_behind" = true) (k5 : PySem.W.keepIn K (.ref f5) = true)
    (a6 : PySem.W.nsIn K mainGlobals "heights_from" = some (some (.ref f6)))
    (l6 : K.lookup f6 = some ⟨oc6, od6, .func (PySem.W.fnOf "heights_from" "heights_from" (defArgs s_heights_from) (defBody s_heights_from) (defScope s_heights_from) .none kV6 dc6 pm6 an6 cd6 ct6), sl6⟩) (c6 : PySem.W.codeIn K cd6 "heights_from" = true) (k6 : PySem.W.keepIn K (.ref f6) = true)
    (a7 : PySem.W.nsIn K mainGlobals "greatest_heights" = some (some (.ref f7)))
    (l7 : K.lookup f7 = some ⟨oc7, od7, .func (PySem.W.fnOf "greatest_heights" "greatest_heights" (defArgs s_greatest_heights) (defBody s_greatest_heights) (defScope s_greatest_heights) .none kV7 dc7 pm7 an7 cd7 ct7), sl7⟩) (c7 : PySem.W.codeIn K cd7 "greatest_heights" = true) (k7 : PySem.W.keepIn K (.ref f7) = true)
    (a8 : PySem.W.findIn K (.ref C_Draft) "__init__" = some (some (.ref f8))) (i8 : PySem.W.isFn K (.ref f8) = true)
    (l8 : K.lookup f8 = some ⟨oc8, od8, .func (PySem.W.fnOf "__init__" "Draft.__init__" (defArgs s_Draft___init__) (defBody s_Draft___init__) (defScope s_Draft___init__) .none kV8 dc8 pm8 an8 cd8 ct8), sl8⟩) (c8 : PySem.W.codeIn K cd8 "Draft.__init__" = true) (k8 : PySem.W.keepIn K (.ref f8) = true)
    (a9 : PySem.W.nsIn K mainGlobals "compile_method" = some (some (.ref f9)))
    (l9 : K.lookup f9 = some ⟨oc9, od9, .func (PySem.W.fnOf "compile_method" "compile_method" (defArgs s_compile_method) (defBody s_compile_method) (defScope s_compile_method) .none kV9 dc9 pm9 an9 cd9 ct9), sl9⟩) (c9 : PySem.W.codeIn K cd9 "compile_method" = true) (k9 : PySem.W.keepIn K (.ref f9) = true)
    (a10 : PySem.W.nsIn K mainGlobals "measured" = some (some (.ref f10)))
    (l10 : K.lookup f10 = some ⟨oc10, od10, .func (PySem.W.fnOf "measured" "measured" (defArgs s_measured) (defBody s_measured) (defScope s_measured) .none kV10 dc10 pm10 an10 cd10 ct10), sl10⟩) (c10 : PySem.W.codeIn K cd10 "measured" = true) (k10 : PySem.W.keepIn K (.ref f10) = true)
    (a11 : PySem.W.nsIn K mainGlobals "declared" = some (some (.ref f11)))
    (l11 : K.lookup f11 = some ⟨oc11, od11, .func (PySem.W.fnOf "declared" "declared" (defArgs s_declared) (defBody s_declared) (defScope s_declared) .none kV11 dc11 pm11 an11 cd11 ct11), sl11⟩) (c11 : PySem.W.codeIn K cd11 "declared" = true) (k11 : PySem.W.keepIn K (.ref f11) = true)
    (a12 : PySem.W.nsIn K mainGlobals "carried_out" = some (some (.ref f12)))
    (l12 : K.lookup f12 = some ⟨oc12, od12, .func (PySem.W.fnOf "carried_out" "carried_out" (defArgs s_carried_out) (defBody s_carried_out) (defScope s_carried_out) .none kV12 dc12 pm12 an12 cd12 ct12), sl12⟩) (c12 : PySem.W.codeIn K cd12 "carried_out" = true) (k12 : PySem.W.keepIn K (.ref f12) = true)
    (a13 : PySem.W.nsIn K mainGlobals "returns" = some (some (.ref f13)))
    (l13 : K.lookup f13 = some ⟨oc13, od13, .func (PySem.W.fnOf "returns" "returns" (defArgs s_returns) (defBody s_returns) (defScope s_returns) .none kV13 dc13 pm13 an13 cd13 ct13), sl13⟩) (c13 : PySem.W.codeIn K cd13 "returns" = true) (k13 : PySem.W.keepIn K (.ref f13) = true)
    (a14 : PySem.W.nsIn K mainGlobals "is_plain_block" = some (some (.ref f14)))
    (l14 : K.lookup f14 = some ⟨oc14, od14, .func (PySem.W.fnOf "is_plain_block" "is_plain_block" (defArgs s_is_plain_block) (defBody s_is_plain_block) (defScope s_is_plain_block) .none kV14 dc14 pm14 an14 cd14 ct14), sl14⟩) (c14 : PySem.W.codeIn K cd14 "is_plain_block" = true) (k14 : PySem.W.keepIn K (.ref f14) = true)
    (a15 : PySem.W.findIn K (.ref C_Scope) "__init__" = some (some (.ref f15))) (i15 : PySem.W.isFn K (.ref f15) = true)
    (l15 : K.lookup f15 = some ⟨oc15, od15, .func (PySem.W.fnOf "__init__" "Scope.__init__" (defArgs s_Scope___init__) (defBody s_Scope___init__) (defScope s_Scope___init__) .none kV15 dc15 pm15 an15 cd15 ct15), sl15⟩) (c15 : PySem.W.codeIn K cd15 "Scope.__init__" = true) (k15 : PySem.W.keepIn K (.ref f15) = true)
    (a16 : PySem.W.findIn K (.ref C_Coder) "__init__" = some (some (.ref f16))) (i16 : PySem.W.isFn K (.ref f16) = true)
    (l16 : K.lookup f16 = some ⟨oc16, od16, .func (PySem.W.fnOf "__init__" "Coder.__init__" (defArgs s_Coder___init__) (defBody s_Coder___init__) (defScope s_Coder___init__) .none kV16 dc16 pm16 an16 cd16 ct16), sl16⟩) (c16 : PySem.W.codeIn K cd16 "Coder.__init__" = true) (k16 : PySem.W.keepIn K (.ref f16) = true)
    (a17 : PySem.W.findIn K (.ref C_Coder) "emit" = some (some (.ref f17))) (i17 : PySem.W.isFn K (.ref f17) = true)
    (l17 : K.lookup f17 = some ⟨oc17, od17, .func (PySem.W.fnOf "emit" "Coder.emit" (defArgs s_Coder_emit) (defBody s_Coder_emit) (defScope s_Coder_emit) (.ref T17) kV17 dc17 pm17 an17 cd17 ct17), sl17⟩) (c17 : PySem.W.codeIn K cd17 "Coder.emit" = true) (k17 : PySem.W.keepIn K (.ref f17) = true)
    (lT17 : K.lookup T17 = some ⟨cT17, dT17, .seq #[.int (0) tk17_0] nT17, sT17⟩)
    (a18 : PySem.W.findIn K (.ref C_Coder) "land" = some (some (.ref f18))) (i18 : PySem.W.isFn K (.ref f18) = true)
    (l18 : K.lookup f18 = some ⟨oc18, od18, .func (PySem.W.fnOf "land" "Coder.land" (defArgs s_Coder_land) (defBody s_Coder_land) (defScope s_Coder_land) .none kV18 dc18 pm18 an18 cd18 ct18), sl18⟩) (c18 : PySem.W.codeIn K cd18 "Coder.land" = true) (k18 : PySem.W.keepIn K (.ref f18) = true)
    (a19 : PySem.W.findIn K (.ref C_Coder) "literal" = some (some (.ref f19))) (i19 : PySem.W.isFn K (.ref f19) = true)
    (l19 : K.lookup f19 = some ⟨oc19, od19, .func (PySem.W.fnOf "literal" "Coder.literal" (defArgs s_Coder_literal) (defBody s_Coder_literal) (defScope s_Coder_literal) .none kV19 dc19 pm19 an19 cd19 ct19), sl19⟩) (c19 : PySem.W.codeIn K cd19 "Coder.literal" = true) (k19 : PySem.W.keepIn K (.ref f19) = true)
    (a20 : PySem.W.findIn K (.ref C_Coder) "method" = some (some (.ref f20))) (i20 : PySem.W.isFn K (.ref f20) = true)
    (l20 : K.lookup f20 = some ⟨oc20, od20, .func (PySem.W.fnOf "method" "Coder.method" (defArgs s_Coder_method) (defBody s_Coder_method) (defScope s_Coder_method) .none kV20 dc20 pm20 an20 cd20 ct20), sl20⟩) (c20 : PySem.W.codeIn K cd20 "Coder.method" = true) (k20 : PySem.W.keepIn K (.ref f20) = true)
    (a21 : PySem.W.findIn K (.ref C_Coder) "body" = some (some (.ref f21))) (i21 : PySem.W.isFn K (.ref f21) = true)
    (l21 : K.lookup f21 = some ⟨oc21, od21, .func (PySem.W.fnOf "body" "Coder.body" (defArgs s_Coder_body) (defBody s_Coder_body) (defScope s_Coder_body) .none kV21 dc21 pm21 an21 cd21 ct21), sl21⟩) (c21 : PySem.W.codeIn K cd21 "Coder.body" = true) (k21 : PySem.W.keepIn K (.ref f21) = true)
    (a22 : PySem.W.findIn K (.ref C_Coder) "statement" = some (some (.ref f22))) (i22 : PySem.W.isFn K (.ref f22) = true)
    (l22 : K.lookup f22 = some ⟨oc22, od22, .func (PySem.W.fnOf "statement" "Coder.statement" (defArgs s_Coder_statement) (defBody s_Coder_statement) (defScope s_Coder_statement) .none kV22 dc22 pm22 an22 cd22 ct22), sl22⟩) (c22 : PySem.W.codeIn K cd22 "Coder.statement" = true) (k22 : PySem.W.keepIn K (.ref f22) = true)
    (a23 : PySem.W.findIn K (.ref C_Coder) "expression" = some (some (.ref f23))) (i23 : PySem.W.isFn K (.ref f23) = true)
    (l23 : K.lookup f23 = some ⟨oc23, od23, .func (PySem.W.fnOf "expression" "Coder.expression" (defArgs s_Coder_expression) (defBody s_Coder_expression) (defScope s_Coder_expression) .none kV23 dc23 pm23 an23 cd23 ct23), sl23⟩) (c23 : PySem.W.codeIn K cd23 "Coder.expression" = true) (k23 : PySem.W.keepIn K (.ref f23) = true)
    (a24 : PySem.W.findIn K (.ref C_Coder) "located" = some (some (.ref f24))) (i24 : PySem.W.isFn K (.ref f24) = true)
    (l24 : K.lookup f24 = some ⟨oc24, od24, .func (PySem.W.fnOf "located" "Coder.located" (defArgs s_Coder_located) (defBody s_Coder_located) (defScope s_Coder_located) .none kV24 dc24 pm24 an24 cd24 ct24), sl24⟩) (c24 : PySem.W.codeIn K cd24 "Coder.located" = true) (k24 : PySem.W.keepIn K (.ref f24) = true)
    (a25 : PySem.W.findIn K (.ref C_Coder) "is_param" = some (some (.ref f25))) (i25 : PySem.W.isFn K (.ref f25) = true)
    (l25 : K.lookup f25 = some ⟨oc25, od25, .func (PySem.W.fnOf "is_param" "Coder.is_param" (defArgs s_Coder_is_param) (defBody s_Coder_is_param) (defScope s_Coder_is_param) .none kV25 dc25 pm25 an25 cd25 ct25), sl25⟩) (c25 : PySem.W.codeIn K cd25 "Coder.is_param" = true) (k25 : PySem.W.keepIn K (.ref f25) = true)
    (a26 : PySem.W.findIn K (.ref C_Coder) "setting" = some (some (.ref f26))) (i26 : PySem.W.isFn K (.ref f26) = true)
    (l26 : K.lookup f26 = some ⟨oc26, od26, .func (PySem.W.fnOf "setting" "Coder.setting" (defArgs s_Coder_setting) (defBody s_Coder_setting) (defScope s_Coder_setting) .none kV26 dc26 pm26 an26 cd26 ct26), sl26⟩) (c26 : PySem.W.codeIn K cd26 "Coder.setting" = true) (k26 : PySem.W.keepIn K (.ref f26) = true)
    (a27 : PySem.W.findIn K (.ref C_Coder) "send" = some (some (.ref f27))) (i27 : PySem.W.isFn K (.ref f27) = true)
    (l27 : K.lookup f27 = some ⟨oc27, od27, .func (PySem.W.fnOf "send" "Coder.send" (defArgs s_Coder_send) (defBody s_Coder_send) (defScope s_Coder_send) .none kV27 dc27 pm27 an27 cd27 ct27), sl27⟩) (c27 : PySem.W.codeIn K cd27 "Coder.send" = true) (k27 : PySem.W.keepIn K (.ref f27) = true)
    (a28 : PySem.W.findIn K (.ref C_Coder) "plain_send" = some (some (.ref f28))) (i28 : PySem.W.isFn K (.ref f28) = true)
    (l28 : K.lookup f28 = some ⟨oc28, od28, .func (PySem.W.fnOf "plain_send" "Coder.plain_send" (defArgs s_Coder_plain_send) (defBody s_Coder_plain_send) (defScope s_Coder_plain_send) .none kV28 dc28 pm28 an28 cd28 ct28), sl28⟩) (c28 : PySem.W.codeIn K cd28 "Coder.plain_send" = true) (k28 : PySem.W.keepIn K (.ref f28) = true)
    (a29 : PySem.W.findIn K (.ref C_Coder) "sent" = some (some (.ref f29))) (i29 : PySem.W.isFn K (.ref f29) = true)
    (l29 : K.lookup f29 = some ⟨oc29, od29, .func (PySem.W.fnOf "sent" "Coder.sent" (defArgs s_Coder_sent) (defBody s_Coder_sent) (defScope s_Coder_sent) .none kV29 dc29 pm29 an29 cd29 ct29), sl29⟩) (c29 : PySem.W.codeIn K cd29 "Coder.sent" = true) (k29 : PySem.W.keepIn K (.ref f29) = true)
    (a30 : PySem.W.findIn K (.ref C_Coder) "choice" = some (some (.ref f30))) (i30 : PySem.W.isFn K (.ref f30) = true)
    (l30 : K.lookup f30 = some ⟨oc30, od30, .func (PySem.W.fnOf "choice" "Coder.choice" (defArgs s_Coder_choice) (defBody s_Coder_choice) (defScope s_Coder_choice) .none kV30 dc30 pm30 an30 cd30 ct30), sl30⟩) (c30 : PySem.W.codeIn K cd30 "Coder.choice" = true) (k30 : PySem.W.keepIn K (.ref f30) = true)
    (a31 : PySem.W.findIn K (.ref C_Coder) "repeat" = some (some (.ref f31))) (i31 : PySem.W.isFn K (.ref f31) = true)
    (l31 : K.lookup f31 = some ⟨oc31, od31, .func (PySem.W.fnOf "repeat" "Coder.repeat" (defArgs s_Coder_repeat) (defBody s_Coder_repeat) (defScope s_Coder_repeat) .none kV31 dc31 pm31 an31 cd31 ct31), sl31⟩) (c31 : PySem.W.codeIn K cd31 "Coder.repeat" = true) (k31 : PySem.W.keepIn K (.ref f31) = true)
    (a32 : PySem.W.findIn K (.ref C_Coder) "block" = some (some (.ref f32))) (i32 : PySem.W.isFn K (.ref f32) = true)
    (l32 : K.lookup f32 = some ⟨oc32, od32, .func (PySem.W.fnOf "block" "Coder.block" (defArgs s_Coder_block) (defBody s_Coder_block) (defScope s_Coder_block) .none kV32 dc32 pm32 an32 cd32 ct32), sl32⟩) (c32 : PySem.W.codeIn K cd32 "Coder.block" = true) (k32 : PySem.W.keepIn K (.ref f32) = true)
    (a33 : PySem.W.nsIn K mainGlobals "_law_cell" = some (some (.ref f33)))
    (l33 : K.lookup f33 = some ⟨oc33, od33, .func (PySem.W.fnOf "_law_cell" "_law_cell" (defArgs s__law_cell) (defBody s__law_cell) (defScope s__law_cell) .none kV33 dc33 pm33 an33 cd33 ct33), sl33⟩) (c33 : PySem.W.codeIn K cd33 "_law_cell" = true) (k33 : PySem.W.keepIn K (.ref f33) = true)
    (a34 : PySem.W.nsIn K mainGlobals "_law_told" = some (some (.ref f34)))
    (l34 : K.lookup f34 = some ⟨oc34, od34, .func (PySem.W.fnOf "_law_told" "_law_told" (defArgs s__law_told) (defBody s__law_told) (defScope s__law_told) .none kV34 dc34 pm34 an34 cd34 ct34), sl34⟩) (c34 : PySem.W.codeIn K cd34 "_law_told" = true) (k34 : PySem.W.keepIn K (.ref f34) = true)
    (a35 : PySem.W.nsIn K mainGlobals "law" = some (some (.ref f35)))
    (l35 : K.lookup f35 = some ⟨oc35, od35, .func (PySem.W.fnOf "law" "law" (defArgs s_law) (defBody s_law) (defScope s_law) .none kV35 dc35 pm35 an35 cd35 ct35), sl35⟩) (c35 : PySem.W.codeIn K cd35 "law" = true) (k35 : PySem.W.keepIn K (.ref f35) = true)
    (q_MOST_LOCALS : PySem.W.nsIn K mainGlobals "MOST_LOCALS" = some (some (.int (255) t_MOST_LOCALS)))
    (q_PUSHES : PySem.W.nsIn K mainGlobals "PUSHES" = some (some (.ref t_PUSHES))) (lq_PUSHES : K.lookup t_PUSHES = some ⟨.type "tuple", dd_PUSHES, .seq #[.str "local" tkPUSHES_0, .str "outer" tkPUSHES_1, .str "field" tkPUSHES_2, .str "literal" tkPUSHES_3, .str "global" tkPUSHES_4, .str "self" tkPUSHES_5, .str "nil" tkPUSHES_6, .str "true" tkPUSHES_7, .str "false" tkPUSHES_8, .str "dup" tkPUSHES_9, .str "block" tkPUSHES_10] nn_PUSHES, ss_PUSHES⟩)
    (q_SENDS : PySem.W.nsIn K mainGlobals "SENDS" = some (some (.ref t_SENDS))) (lq_SENDS : K.lookup t_SENDS = some ⟨.type "tuple", dd_SENDS, .seq #[.str "send" tkSENDS_0, .str "super_send" tkSENDS_1] nn_SENDS, ss_SENDS⟩)
    (q_POPS : PySem.W.nsIn K mainGlobals "POPS" = some (some (.ref t_POPS))) (lq_POPS : K.lookup t_POPS = some ⟨.type "tuple", dd_POPS, .seq #[.str "pop" tkPOPS_0, .str "jump_false" tkPOPS_1] nn_POPS, ss_POPS⟩)
    (q_ENDS : PySem.W.nsIn K mainGlobals "ENDS" = some (some (.ref t_ENDS))) (lq_ENDS : K.lookup t_ENDS = some ⟨.type "tuple", dd_ENDS, .seq #[.str "return" tkENDS_0, .str "leave" tkENDS_1] nn_ENDS, ss_ENDS⟩)
    (z_ValueError : PySem.W.nsIn K mainGlobals "ValueError" = some none)
    (z_all : PySem.W.nsIn K mainGlobals "all" = some none)
    (z_any : PySem.W.nsIn K mainGlobals "any" = some none)
    (z_enumerate : PySem.W.nsIn K mainGlobals "enumerate" = some none)
    (z_int : PySem.W.nsIn K mainGlobals "int" = some none)
    (z_isinstance : PySem.W.nsIn K mainGlobals "isinstance" = some none)
    (z_len : PySem.W.nsIn K mainGlobals "len" = some none)
    (z_list : PySem.W.nsIn K mainGlobals "list" = some none)
    (z_max : PySem.W.nsIn K mainGlobals "max" = some none)
    (z_range : PySem.W.nsIn K mainGlobals "range" = some none)
    (z_str : PySem.W.nsIn K mainGlobals "str" = some none)
    (z_tuple : PySem.W.nsIn K mainGlobals "tuple" = some none) :
    ∃ fd : FuncData, (∀ (s : Shared) (v : Value), BindsTo s fd ⟨[v], []⟩ [("script", v)]) ∧ ∀ base : Heap, K.In base → base.Ns mainGlobals mg → FnOk l.prog w K mg base CX0 12 fa fd ["script"] (sp_law K) := by
  have e : fa = f35 := Value.ref.inj (Option.some.inj (hfa.symm.trans (PySem.W.mg_of X G a35)))
  rw [e]
  have T : Txt K mg { C_SaggarError := C_SaggarError, C_Oversized := C_Oversized, C_Unknown := C_Unknown, C_Twice := C_Twice, C_Fixed := C_Fixed, C_Draft := C_Draft, C_Scope := C_Scope, C_Coder := C_Coder, f_Oversized___init__ := f0, d_Oversized___init__ := _, f_Unknown___init__ := f1, d_Unknown___init__ := _, f_Twice___init__ := f2, d_Twice___init__ := _, f_Fixed___init__ := f3, d_Fixed___init__ := _, f_change_of := f4, d_change_of := _, f_places_behind := f5, d_places_behind := _, f_heights_from := f6, d_heights_from := _, f_greatest_heights := f7, d_greatest_heights := _, f_Draft___init__ := f8, d_Draft___init__ := _, f_compile_method := f9, d_compile_method := _, f_measured := f10, d_measured := _, f_declared := f11, d_declared := _, f_carried_out := f12, d_carried_out := _, f_returns := f13, d_returns := _, f_is_plain_block := f14, d_is_plain_block := _, f_Scope___init__ := f15, d_Scope___init__ := _, f_Coder___init__ := f16, d_Coder___init__ := _, f_Coder_emit := f17, d_Coder_emit := _, f_Coder_land := f18, d_Coder_land := _, f_Coder_literal := f19, d_Coder_literal := _, f_Coder_method := f20, d_Coder_method := _, f_Coder_body := f21, d_Coder_body := _, f_Coder_statement := f22, d_Coder_statement := _, f_Coder_expression := f23, d_Coder_expression := _, f_Coder_located := f24, d_Coder_located := _, f_Coder_is_param := f25, d_Coder_is_param := _, f_Coder_setting := f26, d_Coder_setting := _, f_Coder_send := f27, d_Coder_send := _, f_Coder_plain_send := f28, d_Coder_plain_send := _, f_Coder_sent := f29, d_Coder_sent := _, f_Coder_choice := f30, d_Coder_choice := _, f_Coder_repeat := f31, d_Coder_repeat := _, f_Coder_block := f32, d_Coder_block := _, f__law_cell := f33, d__law_cell := _, f__law_told := f34, d__law_told := _, f_law := f35, d_law := _, t_MOST_LOCALS := t_MOST_LOCALS, t_PUSHES := t_PUSHES, t_SENDS := t_SENDS, t_POPS := t_POPS, t_ENDS := t_ENDS } := {
      m_SaggarError := PySem.W.mg_of X G m_SaggarError,
      m_Oversized := PySem.W.mg_of X G m_Oversized,
      m_Unknown := PySem.W.mg_of X G m_Unknown,
      m_Twice := PySem.W.mg_of X G m_Twice,
      m_Fixed := PySem.W.mg_of X G m_Fixed,
      m_Draft := PySem.W.mg_of X G m_Draft,
      m_Scope := PySem.W.mg_of X G m_Scope,
      m_Coder := PySem.W.mg_of X G m_Coder,
      x_Oversized := ⟨⟨⟨_, _, _, _, _, _, _, _, _, _, _, _, _, _, _, xl_Oversized, by rfl⟩, sa_Oversized, ec_Oversized, tc_Oversized, kc_Oversized⟩, ⟨ga_Oversized, gg_Oversized, ec_Oversized, hc_Oversized⟩, ic_Oversized, ti_Oversized, ha_Oversized, hn_Oversized, ht_Oversized, hm_Oversized⟩,
      no_Oversized_limit := no_Oversized_limit,
      ex_Oversized_Oversized := ex_Oversized_Oversized,
      ex_Oversized_Twice := ex_Oversized_Twice,
      x_Unknown := ⟨⟨⟨_, _, _, _, _, _, _, _, _, _, _, _, _, _, _, xl_Unknown, by rfl⟩, sa_Unknown, ec_Unknown, tc_Unknown, kc_Unknown⟩, ⟨ga_Unknown, gg_Unknown, ec_Unknown, hc_Unknown⟩, ic_Unknown, ti_Unknown, ha_Unknown, hn_Unknown, ht_Unknown, hm_Unknown⟩,
      no_Unknown_name := no_Unknown_name,
      no_Unknown_at := no_Unknown_at,
      ex_Unknown_Oversized := ex_Unknown_Oversized,
      ex_Unknown_Twice := ex_Unknown_Twice,
      x_Twice := ⟨⟨⟨_, _, _, _, _, _, _, _, _, _, _, _, _, _, _, xl_Twice, by rfl⟩, sa_Twice, ec_Twice, tc_Twice, kc_Twice⟩, ⟨ga_Twice, gg_Twice, ec_Twice, hc_Twice⟩, ic_Twice, ti_Twice, ha_Twice, hn_Twice, ht_Twice, hm_Twice⟩,
      no_Twice_name := no_Twice_name,
      no_Twice_at := no_Twice_at,
      ex_Twice_Oversized := ex_Twice_Oversized,
      ex_Twice_Twice := ex_Twice_Twice,
      x_Fixed := ⟨⟨⟨_, _, _, _, _, _, _, _, _, _, _, _, _, _, _, xl_Fixed, by rfl⟩, sa_Fixed, ec_Fixed, tc_Fixed, kc_Fixed⟩, ⟨ga_Fixed, gg_Fixed, ec_Fixed, hc_Fixed⟩, ic_Fixed, ti_Fixed, ha_Fixed, hn_Fixed, ht_Fixed, hm_Fixed⟩,
      no_Fixed_name := no_Fixed_name,
      no_Fixed_at := no_Fixed_at,
      ex_Fixed_Oversized := ex_Fixed_Oversized,
      ex_Fixed_Twice := ex_Fixed_Twice,
      cl_Draft := ⟨pg_Draft, hd_Draft, po_Draft, sa_Draft⟩,
      mk_Draft := ⟨mi_Draft, a8, i8, kc_Draft⟩,
      no_Draft_selector := no_Draft_selector,
      no_Draft_argc := no_Draft_argc,
      no_Draft_locals := no_Draft_locals,
      no_Draft_stack := no_Draft_stack,
      no_Draft_code := no_Draft_code,
      no_Draft_literals := no_Draft_literals,
      cl_Scope := ⟨pg_Scope, hd_Scope, po_Scope, sa_Scope⟩,
      mk_Scope := ⟨mi_Scope, a15, i15, kc_Scope⟩,
      no_Scope_indexes := no_Scope_indexes,
      no_Scope_argc := no_Scope_argc,
      cl_Coder := ⟨pg_Coder, hd_Coder, po_Coder, sa_Coder⟩,
      mk_Coder := ⟨mi_Coder, a16, i16, kc_Coder⟩,
      no_Coder_code := no_Coder_code,
      no_Coder_literals := no_Coder_literals,
      no_Coder_known := no_Coder_known,
      no_Coder_scopes := no_Coder_scopes,
      no_Coder_fields := no_Coder_fields,
      no_Coder_shared := no_Coder_shared,
      k_Oversized___init__ := k0,
      F_Oversized___init__ := fun_mk (st := s_Oversized___init__) l0 c0 k0,
      b_Oversized___init__ := (fun_mk (st := s_Oversized___init__) l0 c0 k0).binds (fun _ _ _ _ _ _ us hl => match us, hl with | [_, _], _ => rfl),
      k_Unknown___init__ := k1,
      F_Unknown___init__ := fun_mk (st := s_Unknown___init__) l1 c1 k1,
      b_Unknown___init__ := (fun_mk (st := s_Unknown___init__) l1 c1 k1).binds (fun _ _ _ _ _ _ us hl => match us, hl with | [_, _, _], _ => rfl),
      k_Twice___init__ := k2,
      F_Twice___init__ := fun_mk (st := s_Twice___init__) l2 c2 k2,
      b_Twice___init__ := (fun_mk (st := s_Twice___init__) l2 c2 k2).binds (fun _ _ _ _ _ _ us hl => match us, hl with | [_, _, _], _ => rfl),
      k_Fixed___init__ := k3,
      F_Fixed___init__ := fun_mk (st := s_Fixed___init__) l3 c3 k3,
      b_Fixed___init__ := (fun_mk (st := s_Fixed___init__) l3 c3 k3).binds (fun _ _ _ _ _ _ us hl => match us, hl with | [_, _, _], _ => rfl),
      g_change_of := PySem.W.mg_of X G a4,
      k_change_of := k4,
      F_change_of := fun_mk (st := s_change_of) l4 c4 k4,
      b_change_of := (fun_mk (st := s_change_of) l4 c4 k4).binds (fun _ _ _ _ _ _ us hl => match us, hl with | [_, _], _ => rfl),
      g_places_behind := PySem.W.mg_of X G a5,
      k_places_behind := k5,
      F_places_behind := fun_mk (st := s_places_behind) l5 c5 k5,
      b_places_behind := (fun_mk (st := s_places_behind) l5 c5 k5).binds (fun _ _ _ _ _ _ us hl => match us, hl with | [_, _, _], _ => rfl),
      g_heights_from := PySem.W.mg_of X G a6,
      k_heights_from := k6,
      F_heights_from := fun_mk (st := s_heights_from) l6 c6 k6,
      b_heights_from := (fun_mk (st := s_heights_from) l6 c6 k6).binds (fun _ _ _ _ _ _ us hl => match us, hl with | [_, _], _ => rfl),
      g_greatest_heights := PySem.W.mg_of X G a7,
      k_greatest_heights := k7,
      F_greatest_heights := fun_mk (st := s_greatest_heights) l7 c7 k7,
      b_greatest_heights := (fun_mk (st := s_greatest_heights) l7 c7 k7).binds (fun _ _ _ _ _ _ us hl => match us, hl with | [_, _], _ => rfl),
      k_Draft___init__ := k8,
      F_Draft___init__ := fun_mk (st := s_Draft___init__) l8 c8 k8,
      b_Draft___init__ := (fun_mk (st := s_Draft___init__) l8 c8 k8).binds (fun _ _ _ _ _ _ us hl => match us, hl with | [_, _, _, _, _, _, _], _ => rfl),
      g_compile_method := PySem.W.mg_of X G a9,
      k_compile_method := k9,
      F_compile_method := fun_mk (st := s_compile_method) l9 c9 k9,
      b_compile_method := (fun_mk (st := s_compile_method) l9 c9 k9).binds (fun _ _ _ _ _ _ us hl => match us, hl with | [_, _, _], _ => rfl),
      g_measured := PySem.W.mg_of X G a10,
      k_measured := k10,
      F_measured := fun_mk (st := s_measured) l10 c10 k10,
      b_measured := (fun_mk (st := s_measured) l10 c10 k10).binds (fun _ _ _ _ _ _ us hl => match us, hl with | [_, _], _ => rfl),
      g_declared := PySem.W.mg_of X G a11,
      k_declared := k11,
      F_declared := fun_mk (st := s_declared) l11 c11 k11,
      b_declared := (fun_mk (st := s_declared) l11 c11 k11).binds (fun _ _ _ _ _ _ us hl => match us, hl with | [_, _], _ => rfl),
      g_carried_out := PySem.W.mg_of X G a12,
      k_carried_out := k12,
      F_carried_out := fun_mk (st := s_carried_out) l12 c12 k12,
      b_carried_out := (fun_mk (st := s_carried_out) l12 c12 k12).binds (fun _ _ _ _ _ _ us hl => match us, hl with | [_], _ => rfl),
      g_returns := PySem.W.mg_of X G a13,
      k_returns := k13,
      F_returns := fun_mk (st := s_returns) l13 c13 k13,
      b_returns := (fun_mk (st := s_returns) l13 c13 k13).binds (fun _ _ _ _ _ _ us hl => match us, hl with | [_], _ => rfl),
      g_is_plain_block := PySem.W.mg_of X G a14,
      k_is_plain_block := k14,
      F_is_plain_block := fun_mk (st := s_is_plain_block) l14 c14 k14,
      b_is_plain_block := (fun_mk (st := s_is_plain_block) l14 c14 k14).binds (fun _ _ _ _ _ _ us hl => match us, hl with | [_], _ => rfl),
      k_Scope___init__ := k15,
      F_Scope___init__ := fun_mk (st := s_Scope___init__) l15 c15 k15,
      b_Scope___init__ := (fun_mk (st := s_Scope___init__) l15 c15 k15).binds (fun _ _ _ _ _ _ us hl => match us, hl with | [_, _, _], _ => rfl),
      k_Coder___init__ := k16,
      F_Coder___init__ := fun_mk (st := s_Coder___init__) l16 c16 k16,
      b_Coder___init__ := (fun_mk (st := s_Coder___init__) l16 c16 k16).binds (fun _ _ _ _ _ _ us hl => match us, hl with | [_, _, _], _ => rfl),
      me_Coder_emit := ⟨a17, i17, k17⟩,
      k_Coder_emit := k17,
      F_Coder_emit := (show FunD K "emit" "Coder.emit" (defArgs s_Coder_emit) (defBody s_Coder_emit) (defScope s_Coder_emit) [.int (0)] [] f17 _ from ⟨⟨_, _, _, _, _, _, _, _, _, _, rfl, l17, c17, .inr ⟨by simp, T17, _, [.int (0) tk17_0], nT17, rfl, lT17, rfl, (.cons ⟨_, rfl⟩ .nil)⟩, .inl rfl⟩, k17⟩),
      b_Coder_emit := (by
        obtain ⟨ds, hv, hb⟩ := FunD.binds1 (ps := ["self", "op", "arg"]) (show FunD K "emit" "Coder.emit" (defArgs s_Coder_emit) (defBody s_Coder_emit) (defScope s_Coder_emit) [.int (0)] [] f17 _ from ⟨⟨_, _, _, _, _, _, _, _, _, _, rfl, l17, c17, .inr ⟨by simp, T17, _, [.int (0) tk17_0], nT17, rfl, lT17, rfl, (.cons ⟨_, rfl⟩ .nil)⟩, .inl rfl⟩, k17⟩) 3 1 (by simp) (by decide) (fun _ _ _ _ _ _ _ us its h1 h2 => match us, its, h1, h2 with | [_, _, _], [_], _, _ => ⟨_, rfl, rfl⟩)
        cases hv
        exact hb),
      bd_Coder_emit := FunD.binds1 (ps := ["self", "op", "arg"]) (show FunD K "emit" "Coder.emit" (defArgs s_Coder_emit) (defBody s_Coder_emit) (defScope s_Coder_emit) [.int (0)] [] f17 _ from ⟨⟨_, _, _, _, _, _, _, _, _, _, rfl, l17, c17, .inr ⟨by simp, T17, _, [.int (0) tk17_0], nT17, rfl, lT17, rfl, (.cons ⟨_, rfl⟩ .nil)⟩, .inl rfl⟩, k17⟩) 2 0 (by simp) (by decide) (fun _ _ _ _ _ _ _ us its h1 h2 => match us, its, h1, h2 with | [_, _], [_], _, _ => ⟨_, rfl, rfl⟩),
      me_Coder_land := ⟨a18, i18, k18⟩,
      k_Coder_land := k18,
      F_Coder_land := fun_mk (st := s_Coder_land) l18 c18 k18,
      b_Coder_land := (fun_mk (st := s_Coder_land) l18 c18 k18).binds (fun _ _ _ _ _ _ us hl => match us, hl with | [_, _], _ => rfl),
      me_Coder_literal := ⟨a19, i19, k19⟩,
      k_Coder_literal := k19,
      F_Coder_literal := fun_mk (st := s_Coder_literal) l19 c19 k19,
      b_Coder_literal := (fun_mk (st := s_Coder_literal) l19 c19 k19).binds (fun _ _ _ _ _ _ us hl => match us, hl with | [_, _], _ => rfl),
      me_Coder_method := ⟨a20, i20, k20⟩,
      k_Coder_method := k20,
      F_Coder_method := fun_mk (st := s_Coder_method) l20 c20 k20,
      b_Coder_method := (fun_mk (st := s_Coder_method) l20 c20 k20).binds (fun _ _ _ _ _ _ us hl => match us, hl with | [_, _], _ => rfl),
      me_Coder_body := ⟨a21, i21, k21⟩,
      k_Coder_body := k21,
      F_Coder_body := fun_mk (st := s_Coder_body) l21 c21 k21,
      b_Coder_body := (fun_mk (st := s_Coder_body) l21 c21 k21).binds (fun _ _ _ _ _ _ us hl => match us, hl with | [_, _], _ => rfl),
      me_Coder_statement := ⟨a22, i22, k22⟩,
      k_Coder_statement := k22,
      F_Coder_statement := fun_mk (st := s_Coder_statement) l22 c22 k22,
      b_Coder_statement := (fun_mk (st := s_Coder_statement) l22 c22 k22).binds (fun _ _ _ _ _ _ us hl => match us, hl with | [_, _], _ => rfl),
      me_Coder_expression := ⟨a23, i23, k23⟩,
      k_Coder_expression := k23,
      F_Coder_expression := fun_mk (st := s_Coder_expression) l23 c23 k23,
      b_Coder_expression := (fun_mk (st := s_Coder_expression) l23 c23 k23).binds (fun _ _ _ _ _ _ us hl => match us, hl with | [_, _], _ => rfl),
      me_Coder_located := ⟨a24, i24, k24⟩,
      k_Coder_located := k24,
      F_Coder_located := fun_mk (st := s_Coder_located) l24 c24 k24,
      b_Coder_located := (fun_mk (st := s_Coder_located) l24 c24 k24).binds (fun _ _ _ _ _ _ us hl => match us, hl with | [_, _, _], _ => rfl),
      me_Coder_is_param := ⟨a25, i25, k25⟩,
      k_Coder_is_param := k25,
      F_Coder_is_param := fun_mk (st := s_Coder_is_param) l25 c25 k25,
      b_Coder_is_param := (fun_mk (st := s_Coder_is_param) l25 c25 k25).binds (fun _ _ _ _ _ _ us hl => match us, hl with | [_, _], _ => rfl),
      me_Coder_setting := ⟨a26, i26, k26⟩,
      k_Coder_setting := k26,
      F_Coder_setting := fun_mk (st := s_Coder_setting) l26 c26 k26,
      b_Coder_setting := (fun_mk (st := s_Coder_setting) l26 c26 k26).binds (fun _ _ _ _ _ _ us hl => match us, hl with | [_, _], _ => rfl),
      me_Coder_send := ⟨a27, i27, k27⟩,
      k_Coder_send := k27,
      F_Coder_send := fun_mk (st := s_Coder_send) l27 c27 k27,
      b_Coder_send := (fun_mk (st := s_Coder_send) l27 c27 k27).binds (fun _ _ _ _ _ _ us hl => match us, hl with | [_, _], _ => rfl),
      me_Coder_plain_send := ⟨a28, i28, k28⟩,
      k_Coder_plain_send := k28,
      F_Coder_plain_send := fun_mk (st := s_Coder_plain_send) l28 c28 k28,
      b_Coder_plain_send := (fun_mk (st := s_Coder_plain_send) l28 c28 k28).binds (fun _ _ _ _ _ _ us hl => match us, hl with | [_, _], _ => rfl),
      me_Coder_sent := ⟨a29, i29, k29⟩,
      k_Coder_sent := k29,
      F_Coder_sent := fun_mk (st := s_Coder_sent) l29 c29 k29,
      b_Coder_sent := (fun_mk (st := s_Coder_sent) l29 c29 k29).binds (fun _ _ _ _ _ _ us hl => match us, hl with | [_, _, _, _], _ => rfl),
      me_Coder_choice := ⟨a30, i30, k30⟩,
      k_Coder_choice := k30,
      F_Coder_choice := fun_mk (st := s_Coder_choice) l30 c30 k30,
      b_Coder_choice := (fun_mk (st := s_Coder_choice) l30 c30 k30).binds (fun _ _ _ _ _ _ us hl => match us, hl with | [_, _, _, _], _ => rfl),
      me_Coder_repeat := ⟨a31, i31, k31⟩,
      k_Coder_repeat := k31,
      F_Coder_repeat := fun_mk (st := s_Coder_repeat) l31 c31 k31,
      b_Coder_repeat := (fun_mk (st := s_Coder_repeat) l31 c31 k31).binds (fun _ _ _ _ _ _ us hl => match us, hl with | [_, _, _], _ => rfl),
      me_Coder_block := ⟨a32, i32, k32⟩,
      k_Coder_block := k32,
      F_Coder_block := fun_mk (st := s_Coder_block) l32 c32 k32,
      b_Coder_block := (fun_mk (st := s_Coder_block) l32 c32 k32).binds (fun _ _ _ _ _ _ us hl => match us, hl with | [_, _], _ => rfl),
      g__law_cell := PySem.W.mg_of X G a33,
      k__law_cell := k33,
      F__law_cell := fun_mk (st := s__law_cell) l33 c33 k33,
      b__law_cell := (fun_mk (st := s__law_cell) l33 c33 k33).binds (fun _ _ _ _ _ _ us hl => match us, hl with | [_, _], _ => rfl),
      g__law_told := PySem.W.mg_of X G a34,
      k__law_told := k34,
      F__law_told := fun_mk (st := s__law_told) l34 c34 k34,
      b__law_told := (fun_mk (st := s__law_told) l34 c34 k34).binds (fun _ _ _ _ _ _ us hl => match us, hl with | [_], _ => rfl),
      g_law := PySem.W.mg_of X G a35,
      k_law := k35,
      F_law := fun_mk (st := s_law) l35 c35 k35,
      b_law := (fun_mk (st := s_law) l35 c35 k35).binds (fun _ _ _ _ _ _ us hl => match us, hl with | [_], _ => rfl),
      c_MOST_LOCALS := PySem.W.mg_of X G q_MOST_LOCALS,
      c_PUSHES := PySem.W.mg_of X G q_PUSHES,
      q_PUSHES := fun H => .inr ⟨_, _, _, lq_PUSHES, rfl, rfl, (by show 11 ≤ sizeLine; decide), (.cons ⟨_, rfl⟩ (.cons ⟨_, rfl⟩ (.cons ⟨_, rfl⟩ (.cons ⟨_, rfl⟩ (.cons ⟨_, rfl⟩ (.cons ⟨_, rfl⟩ (.cons ⟨_, rfl⟩ (.cons ⟨_, rfl⟩ (.cons ⟨_, rfl⟩ (.cons ⟨_, rfl⟩ (.cons ⟨_, rfl⟩ .nil)))))))))))⟩,
      c_SENDS := PySem.W.mg_of X G q_SENDS,
      q_SENDS := fun H => .inr ⟨_, _, _, lq_SENDS, rfl, rfl, (by show 2 ≤ sizeLine; decide), (.cons ⟨_, rfl⟩ (.cons ⟨_, rfl⟩ .nil))⟩,
      c_POPS := PySem.W.mg_of X G q_POPS,
      q_POPS := fun H => .inr ⟨_, _, _, lq_POPS, rfl, rfl, (by show 2 ≤ sizeLine; decide), (.cons ⟨_, rfl⟩ (.cons ⟨_, rfl⟩ .nil))⟩,
      c_ENDS := PySem.W.mg_of X G q_ENDS,
      q_ENDS := fun H => .inr ⟨_, _, _, lq_ENDS, rfl, rfl, (by show 2 ≤ sizeLine; decide), (.cons ⟨_, rfl⟩ (.cons ⟨_, rfl⟩ .nil))⟩,
      z_ValueError := PySem.W.mg_none_of X G z_ValueError,
      z_all := PySem.W.mg_none_of X G z_all,
      z_any := PySem.W.mg_none_of X G z_any,
      z_enumerate := PySem.W.mg_none_of X G z_enumerate,
      z_int := PySem.W.mg_none_of X G z_int,
      z_isinstance := PySem.W.mg_none_of X G z_isinstance,
      z_len := PySem.W.mg_none_of X G z_len,
      z_list := PySem.W.mg_none_of X G z_list,
      z_max := PySem.W.mg_none_of X G z_max,
      z_range := PySem.W.mg_none_of X G z_range,
      z_str := PySem.W.mg_none_of X G z_str,
      z_tuple := PySem.W.mg_none_of X G z_tuple }
  exact ⟨_, fun s v => .of_eq rfl, fun base _ _ => ok_law T⟩
theorem walk {l : PySem.W.OpenLaw} {q : Program} {loose : List Str} {XP : (Str → Option Value) → Heap → Prop} {YP : World → Heap → Prop} {d : DefRec} {K : Params → PySem.W.Frag} (hn : l.most = some 63) (hdf : d.params.defaults = [])
    (hY : ∀ (w : World) (h : Heap), YP w h → (K w.params).In h)
    (F : ∀ (w : World) (mg : Str → Option Value) (fa : Addr) (h : Heap), (K w.params).In h → h.Ns mainGlobals mg → mg d.name = some (.ref fa) →
      ∃ fd : FuncData, (∀ (s : Shared) (u : Value), BindsTo s fd ⟨[u], []⟩ [("script", u)]) ∧ ∀ base : Heap, (K w.params).In base → base.Ns mainGlobals mg → FnOk l.prog w (K w.params) mg base CX0 12 fa fd ["script"] (sp_law (K w.params))) :
    PySem.W.WalkO q loose XP YP l.row.toRowW d [] (fun f vs => PySem.call f vs) :=
  L2.walk_of (n := 63) (k := 12) (x := "script") (CX := fun _ => CX0) (sp := fun w => sp_law (K w.params)) hn (by decide) hdf ⟨rfl, by decide, by decide⟩ hY F (fun _ _ a ns hl _ hS => ⟨a, ns, rfl, hS, hl, fun _ => rfl⟩) fun _ _ _ _ _ z => z

end My
open PySem PySem.W PyProof.Rows
set_option maxRecDepth 100000 in
set_option maxHeartbeats 0 in
theorem PySem.Challenge.cw_saggar_k17_many_locals_holds : PySem.Challenge.rw_saggar_k17_many_locals.Holds := by
  w_on; o_law; k_head; (case hw => w_witness2)
  k_fill
  refine My.walk (l := PySem.Challenge.rw_saggar_k17_many_locals) rfl rfl (fun w h Y => PySem.W.kIn_of Y) ?F
  case F =>
    intro w mg fa h KX G hmg
    refine' My.all_mk KX G hmg ?m_SaggarError ?m_Oversized ?m_Unknown ?m_Twice ?m_Fixed ?m_Draft ?m_Scope ?m_Coder ?xl_Oversized ?sa_Oversized ?ga_Oversized ?gg_Oversized ?ic_Oversized ?ti_Oversized ?kc_Oversized ?ec_Oversized ?tc_Oversized ?hc_Oversized ?ha_Oversized ?hn_Oversized ?ht_Oversized ?hm_Oversized ?no_Oversized_limit ?ex_Oversized_Oversized ?ex_Oversized_Twice ?xl_Unknown ?sa_Unknown ?ga_Unknown ?gg_Unknown ?ic_Unknown ?ti_Unknown ?kc_Unknown ?ec_Unknown ?tc_Unknown ?hc_Unknown ?ha_Unknown ?hn_Unknown ?ht_Unknown ?hm_Unknown ?no_Unknown_name ?no_Unknown_at ?ex_Unknown_Oversized ?ex_Unknown_Twice ?xl_Twice ?sa_Twice ?ga_Twice ?gg_Twice ?ic_Twice ?ti_Twice ?kc_Twice ?ec_Twice ?tc_Twice ?hc_Twice ?ha_Twice ?hn_Twice ?ht_Twice ?hm_Twice ?no_Twice_name ?no_Twice_at ?ex_Twice_Oversized ?ex_Twice_Twice ?xl_Fixed ?sa_Fixed ?ga_Fixed ?gg_Fixed ?ic_Fixed ?ti_Fixed ?kc_Fixed ?ec_Fixed ?tc_Fixed ?hc_Fixed ?ha_Fixed ?hn_Fixed ?ht_Fixed ?hm_Fixed ?no_Fixed_name ?no_Fixed_at ?ex_Fixed_Oversized ?ex_Fixed_Twice ?pg_Draft ?hd_Draft ?po_Draft ?sa_Draft ?mi_Draft ?kc_Draft ?no_Draft_selector ?no_Draft_argc ?no_Draft_locals ?no_Draft_stack ?no_Draft_code ?no_Draft_literals ?pg_Scope ?hd_Scope ?po_Scope ?sa_Scope ?mi_Scope ?kc_Scope ?no_Scope_indexes ?no_Scope_argc ?pg_Coder ?hd_Coder ?po_Coder ?sa_Coder ?mi_Coder ?kc_Coder ?no_Coder_code ?no_Coder_literals ?no_Coder_known ?no_Coder_scopes ?no_Coder_fields ?no_Coder_shared ?l0 ?c0 ?k0 ?l1 ?c1 ?k1 ?l2 ?c2 ?k2 ?l3 ?c3 ?k3 ?a4 ?l4 ?c4 ?k4 ?a5 ?l5 ?c5 ?k5 ?a6 ?l6 ?c6 ?k6 ?a7 ?l7 ?c7 ?k7 ?a8 ?i8 ?l8 ?c8 ?k8 ?a9 ?l9 ?c9 ?k9 ?a10 ?l10 ?c10 ?k10 ?a11 ?l11 ?c11 ?k11 ?a12 ?l12 ?c12 ?k12 ?a13 ?l13 ?c13 ?k13 ?a14 ?l14 ?c14 ?k14 ?a15 ?i15 ?l15 ?c15 ?k15 ?a16 ?i16 ?l16 ?c16 ?k16 ?a17 ?i17 ?l17 ?c17 ?k17 ?lT17 ?a18 ?i18 ?l18 ?c18 ?k18 ?a19 ?i19 ?l19 ?c19 ?k19 ?a20 ?i20 ?l20 ?c20 ?k20 ?a21 ?i21 ?l21 ?c21 ?k21 ?a22 ?i22 ?l22 ?c22 ?k22 ?a23 ?i23 ?l23 ?c23 ?k23 ?a24 ?i24 ?l24 ?c24 ?k24 ?a25 ?i25 ?l25 ?c25 ?k25 ?a26 ?i26 ?l26 ?c26 ?k26 ?a27 ?i27 ?l27 ?c27 ?k27 ?a28 ?i28 ?l28 ?c28 ?k28 ?a29 ?i29 ?l29 ?c29 ?k29 ?a30 ?i30 ?l30 ?c30 ?k30 ?a31 ?i31 ?l31 ?c31 ?k31 ?a32 ?i32 ?l32 ?c32 ?k32 ?a33 ?l33 ?c33 ?k33 ?a34 ?l34 ?c34 ?k34 ?a35 ?l35 ?c35 ?k35 ?q_MOST_LOCALS ?q_PUSHES ?lq_PUSHES ?q_SENDS ?lq_SENDS ?q_POPS ?lq_POPS ?q_ENDS ?lq_ENDS ?z_ValueError ?z_all ?z_any ?z_enumerate ?z_int ?z_isinstance ?z_len ?z_list ?z_max ?z_range ?z_str ?z_tuple
    (case m_SaggarError => first | k_is | kit_is | kts_exm)
    (case m_Oversized => first | k_is | kit_is | kts_exm)
    (case m_Unknown => first | k_is | kit_is | kts_exm)
    (case m_Twice => first | k_is | kit_is | kts_exm)
    (case m_Fixed => first | k_is | kit_is | kts_exm)
    (case m_Draft => first | k_is | kit_is | kts_exm)
    (case m_Scope => first | k_is | kit_is | kts_exm)
    (case m_Coder => first | k_is | kit_is | kts_exm)
    (case xl_Oversized => first | k_is | kit_is | kts_exm)
    (case sa_Oversized => first | k_is | kit_is | kts_exm)
    (case ga_Oversized => first | k_is | kit_is | kts_exm)
    (case gg_Oversized => first | k_is | kit_is | kts_exm)
    (case ic_Oversized => first | k_is | kit_is | kts_exm)
    (case ti_Oversized => first | k_is | kit_is | kts_exm)
    (case kc_Oversized => first | k_is | kit_is | kts_exm)
    (case ec_Oversized => first | k_is | kit_is | kts_exm)
    (case tc_Oversized => first | k_is | kit_is | kts_exm)
    (case hc_Oversized => first | k_is | kit_is | kts_exm)
    (case ha_Oversized => first | k_is | kit_is | kts_exm)
    (case hn_Oversized => first | k_is | kit_is | kts_exm)
    (case ht_Oversized => first | k_is | kit_is | kts_exm)
    (case hm_Oversized => first | k_is | kit_is | kts_exm)
    (case no_Oversized_limit => first | k_is | kit_is | kts_exm)
    (case ex_Oversized_Oversized => first | k_is | kit_is | kts_exm)
    (case ex_Oversized_Twice => first | k_is | kit_is | kts_exm)
    (case xl_Unknown => first | k_is | kit_is | kts_exm)
    (case sa_Unknown => first | k_is | kit_is | kts_exm)
    (case ga_Unknown => first | k_is | kit_is | kts_exm)
    (case gg_Unknown => first | k_is | kit_is | kts_exm)
    (case ic_Unknown => first | k_is | kit_is | kts_exm)
    (case ti_Unknown => first | k_is | kit_is | kts_exm)
    (case kc_Unknown => first | k_is | kit_is | kts_exm)
    (case ec_Unknown => first | k_is | kit_is | kts_exm)
    (case tc_Unknown => first | k_is | kit_is | kts_exm)
    (case hc_Unknown => first | k_is | kit_is | kts_exm)
    (case ha_Unknown => first | k_is | kit_is | kts_exm)
    (case hn_Unknown => first | k_is | kit_is | kts_exm)
    (case ht_Unknown => first | k_is | kit_is | kts_exm)
    (case hm_Unknown => first | k_is | kit_is | kts_exm)
    (case no_Unknown_name => first | k_is | kit_is | kts_exm)
    (case no_Unknown_at => first | k_is | kit_is | kts_exm)
    (case ex_Unknown_Oversized => first | k_is | kit_is | kts_exm)
    (case ex_Unknown_Twice => first | k_is | kit_is | kts_exm)
    (case xl_Twice => first | k_is | kit_is | kts_exm)
    (case sa_Twice => first | k_is | kit_is | kts_exm)
    (case ga_Twice => first | k_is | kit_is | kts_exm)
    (case gg_Twice => first | k_is | kit_is | kts_exm)
    (case ic_Twice => first | k_is | kit_is | kts_exm)
    (case ti_Twice => first | k_is | kit_is | kts_exm)
    (case kc_Twice => first | k_is | kit_is | kts_exm)
    (case ec_Twice => first | k_is | kit_is | kts_exm)
    (case tc_Twice => first | k_is | kit_is | kts_exm)
    (case hc_Twice => first | k_is | kit_is | kts_exm)
    (case ha_Twice => first | k_is | kit_is | kts_exm)
    (case hn_Twice => first | k_is | kit_is | kts_exm)
    (case ht_Twice => first | k_is | kit_is | kts_exm)
    (case hm_Twice => first | k_is | kit_is | kts_exm)
    (case no_Twice_name => first | k_is | kit_is | kts_exm)
    (case no_Twice_at => first | k_is | kit_is | kts_exm)
    (case ex_Twice_Oversized => first | k_is | kit_is | kts_exm)
    (case ex_Twice_Twice => first | k_is | kit_is | kts_exm)
    (case xl_Fixed => first | k_is | kit_is | kts_exm)
    (case sa_Fixed => first | k_is | kit_is | kts_exm)
    (case ga_Fixed => first | k_is | kit_is | kts_exm)
    (case gg_Fixed => first | k_is | kit_is | kts_exm)
    (case ic_Fixed => first | k_is | kit_is | kts_exm)
    (case ti_Fixed => first | k_is | kit_is | kts_exm)
    (case kc_Fixed => first | k_is | kit_is | kts_exm)
    (case ec_Fixed => first | k_is | kit_is | kts_exm)
    (case tc_Fixed => first | k_is | kit_is | kts_exm)
    (case hc_Fixed => first | k_is | kit_is | kts_exm)
    (case ha_Fixed => first | k_is | kit_is | kts_exm)
    (case hn_Fixed => first | k_is | kit_is | kts_exm)
    (case ht_Fixed => first | k_is | kit_is | kts_exm)
    (case hm_Fixed => first | k_is | kit_is | kts_exm)
    (case no_Fixed_name => first | k_is | kit_is | kts_exm)
    (case no_Fixed_at => first | k_is | kit_is | kts_exm)
    (case ex_Fixed_Oversized => first | k_is | kit_is | kts_exm)
    (case ex_Fixed_Twice => first | k_is | kit_is | kts_exm)
    (case pg_Draft => first | k_is | kit_is | kts_exm)
    (case hd_Draft => first | k_is | kit_is | kts_exm)
    (case po_Draft => first | k_is | kit_is | kts_exm)
    (case sa_Draft => first | k_is | kit_is | kts_exm)
    (case mi_Draft => first | k_is | kit_is | kts_exm)
    (case kc_Draft => first | k_is | kit_is | kts_exm)
    (case no_Draft_selector => first | k_is | kit_is | kts_exm)
    (case no_Draft_argc => first | k_is | kit_is | kts_exm)
    (case no_Draft_locals => first | k_is | kit_is | kts_exm)
    (case no_Draft_stack => first | k_is | kit_is | kts_exm)
    (case no_Draft_code => first | k_is | kit_is | kts_exm)
    (case no_Draft_literals => first | k_is | kit_is | kts_exm)
    (case pg_Scope => first | k_is | kit_is | kts_exm)
    (case hd_Scope => first | k_is | kit_is | kts_exm)
    (case po_Scope => first | k_is | kit_is | kts_exm)
    (case sa_Scope => first | k_is | kit_is | kts_exm)
    (case mi_Scope => first | k_is | kit_is | kts_exm)
    (case kc_Scope => first | k_is | kit_is | kts_exm)
    (case no_Scope_indexes => first | k_is | kit_is | kts_exm)
    (case no_Scope_argc => first | k_is | kit_is | kts_exm)
    (case pg_Coder => first | k_is | kit_is | kts_exm)
    (case hd_Coder => first | k_is | kit_is | kts_exm)
    (case po_Coder => first | k_is | kit_is | kts_exm)
    (case sa_Coder => first | k_is | kit_is | kts_exm)
    (case mi_Coder => first | k_is | kit_is | kts_exm)
    (case kc_Coder => first | k_is | kit_is | kts_exm)
    (case no_Coder_code => first | k_is | kit_is | kts_exm)
    (case no_Coder_literals => first | k_is | kit_is | kts_exm)
    (case no_Coder_known => first | k_is | kit_is | kts_exm)
    (case no_Coder_scopes => first | k_is | kit_is | kts_exm)
    (case no_Coder_fields => first | k_is | kit_is | kts_exm)
    (case no_Coder_shared => first | k_is | kit_is | kts_exm)
    (case l0 => first | k_is | kit_is | kts_exm)
    (case c0 => first | k_is | kit_is | kts_exm)
    (case k0 => first | k_is | kit_is | kts_exm)
    (case l1 => first | k_is | kit_is | kts_exm)
    (case c1 => first | k_is | kit_is | kts_exm)
    (case k1 => first | k_is | kit_is | kts_exm)
    (case l2 => first | k_is | kit_is | kts_exm)
    (case c2 => first | k_is | kit_is | kts_exm)
    (case k2 => first | k_is | kit_is | kts_exm)
    (case l3 => first | k_is | kit_is | kts_exm)
    (case c3 => first | k_is | kit_is | kts_exm)
    (case k3 => first | k_is | kit_is | kts_exm)
    (case a4 => first | k_is | kit_is | kts_exm)
    (case l4 => first | k_is | kit_is | kts_exm)
    (case c4 => first | k_is | kit_is | kts_exm)
    (case k4 => first | k_is | kit_is | kts_exm)
    (case a5 => first | k_is | kit_is | kts_exm)
    (case l5 => first | k_is | kit_is | kts_exm)
    (case c5 => first | k_is | kit_is | kts_exm)
    (case k5 => first | k_is | kit_is | kts_exm)
    (case a6 => first | k_is | kit_is | kts_exm)
    (case l6 => first | k_is | kit_is | kts_exm)
    (case c6 => first | k_is | kit_is | kts_exm)
    (case k6 => first | k_is | kit_is | kts_exm)
    (case a7 => first | k_is | kit_is | kts_exm)
    (case l7 => first | k_is | kit_is | kts_exm)
    (case c7 => first | k_is | kit_is | kts_exm)
    (case k7 => first | k_is | kit_is | kts_exm)
    (case a8 => first | k_is | kit_is | kts_exm)
    (case i8 => first | k_is | kit_is | kts_exm)
    (case l8 => first | k_is | kit_is | kts_exm)
    (case c8 => first | k_is | kit_is | kts_exm)
    (case k8 => first | k_is | kit_is | kts_exm)
    (case a9 => first | k_is | kit_is | kts_exm)
    (case l9 => first | k_is | kit_is | kts_exm)
    (case c9 => first | k_is | kit_is | kts_exm)
    (case k9 => first | k_is | kit_is | kts_exm)
    (case a10 => first | k_is | kit_is | kts_exm)
    (case l10 => first | k_is | kit_is | kts_exm)
    (case c10 => first | k_is | kit_is | kts_exm)
    (case k10 => first | k_is | kit_is | kts_exm)
    (case a11 => first | k_is | kit_is | kts_exm)
    (case l11 => first | k_is | kit_is | kts_exm)
    (case c11 => first | k_is | kit_is | kts_exm)
    (case k11 => first | k_is | kit_is | kts_exm)
    (case a12 => first | k_is | kit_is | kts_exm)
    (case l12 => first | k_is | kit_is | kts_exm)
    (case c12 => first | k_is | kit_is | kts_exm)
    (case k12 => first | k_is | kit_is | kts_exm)
    (case a13 => first | k_is | kit_is | kts_exm)
    (case l13 => first | k_is | kit_is | kts_exm)
    (case c13 => first | k_is | kit_is | kts_exm)
    (case k13 => first | k_is | kit_is | kts_exm)
    (case a14 => first | k_is | kit_is | kts_exm)
    (case l14 => first | k_is | kit_is | kts_exm)
    (case c14 => first | k_is | kit_is | kts_exm)
    (case k14 => first | k_is | kit_is | kts_exm)
    (case a15 => first | k_is | kit_is | kts_exm)
    (case i15 => first | k_is | kit_is | kts_exm)
    (case l15 => first | k_is | kit_is | kts_exm)
    (case c15 => first | k_is | kit_is | kts_exm)
    (case k15 => first | k_is | kit_is | kts_exm)
    (case a16 => first | k_is | kit_is | kts_exm)
    (case i16 => first | k_is | kit_is | kts_exm)
    (case l16 => first | k_is | kit_is | kts_exm)
    (case c16 => first | k_is | kit_is | kts_exm)
    (case k16 => first | k_is | kit_is | kts_exm)
    (case a17 => first | k_is | kit_is | kts_exm)
    (case i17 => first | k_is | kit_is | kts_exm)
    (case l17 => first | k_is | kit_is | kts_exm)
    (case c17 => first | k_is | kit_is | kts_exm)
    (case k17 => first | k_is | kit_is | kts_exm)
    (case lT17 => first | k_is | kit_is | kts_exm)
    (case a18 => first | k_is | kit_is | kts_exm)
    (case i18 => first | k_is | kit_is | kts_exm)
    (case l18 => first | k_is | kit_is | kts_exm)
    (case c18 => first | k_is | kit_is | kts_exm)
    (case k18 => first | k_is | kit_is | kts_exm)
    (case a19 => first | k_is | kit_is | kts_exm)
    (case i19 => first | k_is | kit_is | kts_exm)
    (case l19 => first | k_is | kit_is | kts_exm)
    (case c19 => first | k_is | kit_is | kts_exm)
    (case k19 => first | k_is | kit_is | kts_exm)
    (case a20 => first | k_is | kit_is | kts_exm)
    (case i20 => first | k_is | kit_is | kts_exm)
    (case l20 => first | k_is | kit_is | kts_exm)
    (case c20 => first | k_is | kit_is | kts_exm)
    (case k20 => first | k_is | kit_is | kts_exm)
    (case a21 => first | k_is | kit_is | kts_exm)
    (case i21 => first | k_is | kit_is | kts_exm)
    (case l21 => first | k_is | kit_is | kts_exm)
    (case c21 => first | k_is | kit_is | kts_exm)
    (case k21 => first | k_is | kit_is | kts_exm)
    (case a22 => first | k_is | kit_is | kts_exm)
    (case i22 => first | k_is | kit_is | kts_exm)
    (case l22 => first | k_is | kit_is | kts_exm)
    (case c22 => first | k_is | kit_is | kts_exm)
    (case k22 => first | k_is | kit_is | kts_exm)
    (case a23 => first | k_is | kit_is | kts_exm)
    (case i23 => first | k_is | kit_is | kts_exm)
    (case l23 => first | k_is | kit_is | kts_exm)
    (case c23 => first | k_is | kit_is | kts_exm)
    (case k23 => first | k_is | kit_is | kts_exm)
    (case a24 => first | k_is | kit_is | kts_exm)
    (case i24 => first | k_is | kit_is | kts_exm)
    (case l24 => first | k_is | kit_is | kts_exm)
    (case c24 => first | k_is | kit_is | kts_exm)
    (case k24 => first | k_is | kit_is | kts_exm)
    (case a25 => first | k_is | kit_is | kts_exm)
    (case i25 => first | k_is | kit_is | kts_exm)
    (case l25 => first | k_is | kit_is | kts_exm)
    (case c25 => first | k_is | kit_is | kts_exm)
    (case k25 => first | k_is | kit_is | kts_exm)
    (case a26 => first | k_is | kit_is | kts_exm)
    (case i26 => first | k_is | kit_is | kts_exm)
    (case l26 => first | k_is | kit_is | kts_exm)
    (case c26 => first | k_is | kit_is | kts_exm)
    (case k26 => first | k_is | kit_is | kts_exm)
    (case a27 => first | k_is | kit_is | kts_exm)
    (case i27 => first | k_is | kit_is | kts_exm)
    (case l27 => first | k_is | kit_is | kts_exm)
    (case c27 => first | k_is | kit_is | kts_exm)
    (case k27 => first | k_is | kit_is | kts_exm)
    (case a28 => first | k_is | kit_is | kts_exm)
    (case i28 => first | k_is | kit_is | kts_exm)
    (case l28 => first | k_is | kit_is | kts_exm)
    (case c28 => first | k_is | kit_is | kts_exm)
    (case k28 => first | k_is | kit_is | kts_exm)
    (case a29 => first | k_is | kit_is | kts_exm)
    (case i29 => first | k_is | kit_is | kts_exm)
    (case l29 => first | k_is | kit_is | kts_exm)
    (case c29 => first | k_is | kit_is | kts_exm)
    (case k29 => first | k_is | kit_is | kts_exm)
    (case a30 => first | k_is | kit_is | kts_exm)
    (case i30 => first | k_is | kit_is | kts_exm)
    (case l30 => first | k_is | kit_is | kts_exm)
    (case c30 => first | k_is | kit_is | kts_exm)
    (case k30 => first | k_is | kit_is | kts_exm)
    (case a31 => first | k_is | kit_is | kts_exm)
    (case i31 => first | k_is | kit_is | kts_exm)
    (case l31 => first | k_is | kit_is | kts_exm)
    (case c31 => first | k_is | kit_is | kts_exm)
    (case k31 => first | k_is | kit_is | kts_exm)
    (case a32 => first | k_is | kit_is | kts_exm)
    (case i32 => first | k_is | kit_is | kts_exm)
    (case l32 => first | k_is | kit_is | kts_exm)
    (case c32 => first | k_is | kit_is | kts_exm)
    (case k32 => first | k_is | kit_is | kts_exm)
    (case a33 => first | k_is | kit_is | kts_exm)
    (case l33 => first | k_is | kit_is | kts_exm)
    (case c33 => first | k_is | kit_is | kts_exm)
    (case k33 => first | k_is | kit_is | kts_exm)
    (case a34 => first | k_is | kit_is | kts_exm)
    (case l34 => first | k_is | kit_is | kts_exm)
    (case c34 => first | k_is | kit_is | kts_exm)
    (case k34 => first | k_is | kit_is | kts_exm)
    (case a35 => first | k_is | kit_is | kts_exm)
    (case l35 => first | k_is | kit_is | kts_exm)
    (case c35 => first | k_is | kit_is | kts_exm)
    (case k35 => first | k_is | kit_is | kts_exm)
    (case q_MOST_LOCALS => first | k_is | kit_is | kts_exm)
    (case q_PUSHES => first | k_is | kit_is | kts_exm)
    (case lq_PUSHES => first | k_is | kit_is | kts_exm)
    (case q_SENDS => first | k_is | kit_is | kts_exm)
    (case lq_SENDS => first | k_is | kit_is | kts_exm)
    (case q_POPS => first | k_is | kit_is | kts_exm)
    (case lq_POPS => first | k_is | kit_is | kts_exm)
    (case q_ENDS => first | k_is | kit_is | kts_exm)
    (case lq_ENDS => first | k_is | kit_is | kts_exm)
    (case z_ValueError => first | k_is | kit_is | kts_exm)
    (case z_all => first | k_is | kit_is | kts_exm)
    (case z_any => first | k_is | kit_is | kts_exm)
    (case z_enumerate => first | k_is | kit_is | kts_exm)
    (case z_int => first | k_is | kit_is | kts_exm)
    (case z_isinstance => first | k_is | kit_is | kts_exm)
    (case z_len => first | k_is | kit_is | kts_exm)
    (case z_list => first | k_is | kit_is | kts_exm)
    (case z_max => first | k_is | kit_is | kts_exm)
    (case z_range => first | k_is | kit_is | kts_exm)
    (case z_str => first | k_is | kit_is | kts_exm)
    (case z_tuple => first | k_is | kit_is | kts_exm)
#print axioms PySem.Challenge.cw_saggar_k17_many_locals_holds
