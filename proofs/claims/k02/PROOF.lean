import PyProof.Rows.All
import Wide.All
import OpenK.AllK
import Wide.FinOn
import HandS.ForMost
import HandS.ForExc
import HandS.IsInst
import HandS.TupLe
import HandS.Evl
import HandS.ExcInit
import HandS.ExcField
import KE.KExcIs
import HandS.ExcCtx
import HandS.HotCalls
import HandS.Defaults
import HandS.SortInts
import HandS.Struct
import HandS.DictComp
import HandS.Wide
import PyProof.StrOps2
import PySem.Challenge.RW_saggar_k02_store_is_a_list
set_option Elab.async false
set_option linter.all false
set_option maxRecDepth 100000
set_option maxHeartbeats 4000000

namespace My
open PySem PySem.Spec PyProof.Rows L2
/-! ### the text by places -/
def top (i : Nat) : Stmt := PySem.Challenge.pw_saggar_k02_store_is_a_list.main.body.getD i (.Pass ⟨0, 0, 0, 0⟩)
abbrev s_NoRoom___init__ : Stmt := inClass (top 3) 0
abbrev s_NoNumber___init__ : Stmt := inClass (top 4) 0
abbrev s_Store___init__ : Stmt := inClass (top 8) 0
abbrev s_Store_used : Stmt := inClass (top 8) 1
abbrev s_Store_exists : Stmt := inClass (top 8) 2
abbrev s_Store_numbers : Stmt := inClass (top 8) 3
abbrev s_Store_free_number : Stmt := inClass (top 8) 4
abbrev s_Store_allocate : Stmt := inClass (top 8) 5
abbrev s_Store_size : Stmt := inClass (top 8) 6
abbrev s_Store_kind : Stmt := inClass (top 8) 7
abbrev s_Store_set_kind : Stmt := inClass (top 8) 8
abbrev s_Store_get : Stmt := inClass (top 8) 9
abbrev s_Store_put : Stmt := inClass (top 8) 10
abbrev s_Store_slots : Stmt := inClass (top 8) 11
abbrev s_Store_drop : Stmt := inClass (top 8) 12
abbrev s_Store_close_up : Stmt := inClass (top 8) 13
abbrev s_Store_snapshot : Stmt := inClass (top 8) 14
abbrev s_Store_restore : Stmt := inClass (top 8) 15
abbrev s_Store_exchange : Stmt := inClass (top 8) 16
abbrev s__law_number : Stmt := top 10
abbrev s__law_deeds : Stmt := top 11
abbrev s__law_word : Stmt := top 12
abbrev s__law_is : Stmt := top 13
abbrev s__law_same : Stmt := top 14
abbrev s__law_flat : Stmt := top 15
abbrev s__law_living : Stmt := top 16
abbrev s__law_free : Stmt := top 17
abbrev s__law_copy : Stmt := top 18
abbrev s__law_allocated : Stmt := top 19
abbrev s__law_changed : Stmt := top 20
abbrev s__law_agrees : Stmt := top 21
abbrev s__law_deed : Stmt := top 22
abbrev s_law : Stmt := top 23
theorem sc_NoRoom___init__ : FnScope ["self", "need"] ["self", "need"] (defScope s_NoRoom___init__) := ⟨rfl, rfl, rfl, by decide +kernel, rfl, by decide +kernel, by decide +kernel⟩
theorem sc_NoNumber___init__ : FnScope ["self", "limit"] ["self", "limit"] (defScope s_NoNumber___init__) := ⟨rfl, rfl, rfl, by decide +kernel, rfl, by decide +kernel, by decide +kernel⟩
theorem sc_Store___init__ : FnScope ["self", "room", "entries"] ["self", "room", "entries"] (defScope s_Store___init__) := ⟨rfl, rfl, rfl, by decide +kernel, rfl, by decide +kernel, by decide +kernel⟩
theorem sc_Store_used : FnScope ["self"] ["self"] (defScope s_Store_used) := ⟨rfl, rfl, rfl, by decide +kernel, rfl, by decide +kernel, by decide +kernel⟩
theorem sc_Store_exists : FnScope ["self", "number"] ["self", "number"] (defScope s_Store_exists) := ⟨rfl, rfl, rfl, by decide +kernel, rfl, by decide +kernel, by decide +kernel⟩
theorem sc_Store_numbers : FnScope ["self"] ["self"] (defScope s_Store_numbers) := ⟨rfl, rfl, rfl, by decide +kernel, rfl, by decide +kernel, by decide +kernel⟩
theorem sc_Store_free_number : FnScope ["self"] ["self"] (defScope s_Store_free_number) := ⟨rfl, rfl, rfl, by decide +kernel, rfl, by decide +kernel, by decide +kernel⟩
theorem sc_Store_allocate : FnScope ["self", "kind", "size", "need", "number"] ["self", "kind", "size"] (defScope s_Store_allocate) := ⟨rfl, rfl, rfl, by decide +kernel, rfl, by decide +kernel, by decide +kernel⟩
theorem sc_Store_size : FnScope ["self", "number"] ["self", "number"] (defScope s_Store_size) := ⟨rfl, rfl, rfl, by decide +kernel, rfl, by decide +kernel, by decide +kernel⟩
theorem sc_Store_kind : FnScope ["self", "number"] ["self", "number"] (defScope s_Store_kind) := ⟨rfl, rfl, rfl, by decide +kernel, rfl, by decide +kernel, by decide +kernel⟩
theorem sc_Store_set_kind : FnScope ["self", "number", "word"] ["self", "number", "word"] (defScope s_Store_set_kind) := ⟨rfl, rfl, rfl, by decide +kernel, rfl, by decide +kernel, by decide +kernel⟩
theorem sc_Store_get : FnScope ["self", "number", "at"] ["self", "number", "at"] (defScope s_Store_get) := ⟨rfl, rfl, rfl, by decide +kernel, rfl, by decide +kernel, by decide +kernel⟩
theorem sc_Store_put : FnScope ["self", "number", "at", "word"] ["self", "number", "at", "word"] (defScope s_Store_put) := ⟨rfl, rfl, rfl, by decide +kernel, rfl, by decide +kernel, by decide +kernel⟩
theorem sc_Store_slots : FnScope ["self", "number", "first"] ["self", "number"] (defScope s_Store_slots) := ⟨rfl, rfl, rfl, by decide +kernel, rfl, by decide +kernel, by decide +kernel⟩
theorem sc_Store_drop : FnScope ["self", "number"] ["self", "number"] (defScope s_Store_drop) := ⟨rfl, rfl, rfl, by decide +kernel, rfl, by decide +kernel, by decide +kernel⟩
theorem sc_Store_close_up : FnScope ["self", "kept", "places", "at", "number", "end"] ["self"] (defScope s_Store_close_up) := ⟨rfl, rfl, rfl, by decide +kernel, rfl, by decide +kernel, by decide +kernel⟩
theorem sc_Store_snapshot : FnScope ["self", "places", "number", "at"] ["self"] (defScope s_Store_snapshot) := ⟨rfl, rfl, rfl, by decide +kernel, rfl, by decide +kernel, by decide +kernel⟩
theorem sc_Store_restore : FnScope ["self", "snapshot", "words", "places", "free", "fresh", "number", "at"] ["self", "snapshot"] (defScope s_Store_restore) := ⟨rfl, rfl, rfl, by decide +kernel, rfl, by decide +kernel, by decide +kernel⟩
theorem sc_Store_exchange : FnScope ["self", "first", "second", "here", "there"] ["self", "first", "second"] (defScope s_Store_exchange) := ⟨rfl, rfl, rfl, by decide +kernel, rfl, by decide +kernel, by decide +kernel⟩
theorem sc__law_number : FnScope ["cell", "k", "mixed"] ["cell", "k"] (defScope s__law_number) := ⟨rfl, rfl, rfl, by decide +kernel, rfl, by decide +kernel, by decide +kernel⟩
theorem sc__law_deeds : FnScope ["cell", "k"] ["cell", "k"] (defScope s__law_deeds) := ⟨rfl, rfl, rfl, by decide +kernel, rfl, by decide +kernel, by decide +kernel⟩
theorem sc__law_word : FnScope ["x", "rest"] ["x"] (defScope s__law_word) := ⟨rfl, rfl, rfl, by decide +kernel, rfl, by decide +kernel, by decide +kernel⟩
theorem sc__law_is : FnScope ["actual", "due"] ["actual", "due"] (defScope s__law_is) := ⟨rfl, rfl, rfl, by decide +kernel, rfl, by decide +kernel, by decide +kernel⟩
theorem sc__law_same : FnScope ["actual", "due", "k"] ["actual", "due"] (defScope s__law_same) := ⟨rfl, rfl, rfl, by decide +kernel, rfl, by decide +kernel, by decide +kernel⟩
theorem sc__law_flat : FnScope ["row", "flat", "one"] ["row"] (defScope s__law_flat) := ⟨rfl, rfl, rfl, by decide +kernel, rfl, by decide +kernel, by decide +kernel⟩
theorem sc__law_living : FnScope ["row", "k"] ["row"] (defScope s__law_living) := ⟨rfl, rfl, rfl, by decide +kernel, rfl, by decide +kernel, by decide +kernel⟩
theorem sc__law_free : FnScope ["row", "taken", "number", "one"] ["row"] (defScope s__law_free) := ⟨rfl, rfl, rfl, by decide +kernel, rfl, by decide +kernel, by decide +kernel⟩
theorem sc__law_copy : FnScope ["row", "one"] ["row"] (defScope s__law_copy) := ⟨rfl, rfl, rfl, by decide +kernel, rfl, by decide +kernel, by decide +kernel⟩
theorem sc__law_allocated : FnScope ["store", "row", "limits", "kind", "size", "free", "need", "due", "told", "e"] ["store", "row", "limits", "kind", "size"] (defScope s__law_allocated) := ⟨rfl, rfl, rfl, by decide +kernel, rfl, by decide +kernel, by decide +kernel⟩
theorem sc__law_changed : FnScope ["store", "row", "taken", "deed", "x", "rest", "one", "kept", "pick", "living", "other", "at", "number"] ["store", "row", "taken", "deed", "x"] (defScope s__law_changed) := ⟨rfl, rfl, rfl, by decide +kernel, rfl, by decide +kernel, by decide +kernel⟩
theorem sc__law_agrees : FnScope ["store", "row", "entries", "x", "flat", "living", "free", "e", "one", "number", "contents", "at", "k"] ["store", "row", "entries", "x"] (defScope s__law_agrees) := ⟨rfl, rfl, rfl, by decide +kernel, rfl, by decide +kernel, by decide +kernel⟩
theorem sc__law_deed : FnScope ["store", "row", "taken", "limits", "x", "size"] ["store", "row", "taken", "limits", "x"] (defScope s__law_deed) := ⟨rfl, rfl, rfl, by decide +kernel, rfl, by decide +kernel, by decide +kernel⟩
theorem sc_law : FnScope ["script", "cells", "room", "entries", "store", "row", "taken", "k", "x", "cell"] ["script"] (defScope s_law) := ⟨rfl, rfl, rfl, by decide +kernel, rfl, by decide +kernel, by decide +kernel⟩

/-! ### words for all laws -/
abbrev cl (x : Str) : List Nat := x.cps.toList
theorem str1 {a c : Nat} : ((⟨#[a]⟩ : Str) = ⟨#[c]⟩) = (a = c) := by
  apply propext
  constructor
  · intro h
    have h2 := congrArg (fun x : Str => x.cps.toList) h
    simpa using h2
  · intro h
    rw [h]
theorem len_cl (x : Str) : x.length = (cl x).length := by
  show x.cps.size = x.cps.toList.length
  simp
theorem cl_append (x y : Str) : cl (x ++ y) = cl x ++ cl y := by
  show (x.cps ++ y.cps).toList = _
  simp
theorem at_cl (x : Str) (n : Nat) : x.cps[n]? = (cl x)[n]? := by
  show x.cps[n]? = x.cps.toList[n]?
  simp
theorem cl_nil {x : Str} : x = "" ↔ cl x = [] := by
  constructor
  · intro h
    rw [h]
    rfl
  · intro h
    have e : x.cps = #[] := by
      have := congrArg List.toArray h
      simpa using this
    have : x = ⟨x.cps⟩ := rfl
    rw [this, e]
    rfl
theorem sc_ii {i j : Int} : scal (.int i) (.int j) = true := rfl
theorem sc_ss {x y : Str} : scal (.str x) (.str y) = true := rfl
theorem sc_bb {a b : Bool} : scal (.bl a) (.bl b) = true := rfl
theorem cx_K {CX : CXT} {P : Program} {w : World} {K : PySem.W.Frag} {mg : Str → Option Value} {base : Heap} {N : List Str} {qual : Str} {scope : Scope} {f : Addr} {cd : Value} {A : Around} {outer : List Env} {s : Shared} {H : Hp} {E : XK} : (cxOf CX P w K mg base N qual scope f cd A outer s H E).K = K := rfl
/-! ### rules told over a tracked list as it stands: H p is looked up -/
def lstAt (H : Hp) (p : Addr) (R : List V → Prop) : Prop := match H p with
  | some (.lst xs) => R xs
  | _ => False
theorem lstAt_of {H : Hp} {p : Addr} {xs : List V} {R : List V → Prop} (h : H p = some (.lst xs)) : lstAt H p R = R xs := by
  unfold lstAt
  rw [h]
theorem lstAt_get {H : Hp} {p : Addr} {R : List V → Prop} (h : lstAt H p R) : ∃ xs, H p = some (.lst xs) ∧ R xs := by
  unfold lstAt at h
  split at h
  · rename_i xs e
    exact ⟨xs, e, h⟩
  · exact h.elim
def setI (xs : List V) (i : Int) (v : V) : Option (List V) := (ixN xs.length i).map fun j => xs.set j v
def rIxM : R2 := fun x y H Q => ∃ p i, x = .ref p ∧ y = .int i ∧ lstAt H p fun xs => ∃ v, atI xs i = some v ∧ Q v H
def rSetM : V → V → V → Hp → (Hp → Prop) → Prop := fun o i v H Q => ∃ p k, o = .ref p ∧ i = .int k ∧ lstAt H p fun xs => ∃ ys, setI xs k v = some ys ∧ Q (upd H p (.lst ys))
def rLenM : List V → Hp → VK → Prop := fun vs H Q => ∃ p, vs = [.ref p] ∧ lstAt H p fun xs => Q (.int xs.length) H
theorem atI_0 {α : Type} {a : α} {l : List α} : atI (a :: l) 0 = some a := by simp [atI, ixN]
theorem atI_1 {α : Type} {a b : α} {l : List α} : atI (a :: b :: l) 1 = some b := by
  have : ixN (a :: b :: l).length 1 = some 1 := by
    unfold ixN
    rw [if_pos (by omega), if_pos (by simp only [List.length_cons]; omega)]
    rfl
  unfold atI
  rw [this]
  rfl
theorem atI_2 {α : Type} {a b c : α} {l : List α} : atI (a :: b :: c :: l) 2 = some c := by
  have : ixN (a :: b :: c :: l).length 2 = some 2 := by
    unfold ixN
    rw [if_pos (by omega), if_pos (by simp only [List.length_cons]; omega)]
    rfl
  unfold atI
  rw [this]
  rfl
theorem atI_3 {α : Type} {a b c d : α} {l : List α} : atI (a :: b :: c :: d :: l) 3 = some d := by
  have : ixN (a :: b :: c :: d :: l).length 3 = some 3 := by
    unfold ixN
    rw [if_pos (by omega), if_pos (by simp only [List.length_cons]; omega)]
    rfl
  unfold atI
  rw [this]
  rfl
theorem setI_0 {a v : V} {l : List V} : setI (a :: l) 0 v = some (v :: l) := by simp [setI, ixN]
theorem setI_1 {a b v : V} {l : List V} : setI (a :: b :: l) 1 v = some (a :: v :: l) := by
  have : ixN (a :: b :: l).length 1 = some 1 := by
    unfold ixN
    rw [if_pos (by omega), if_pos (by simp only [List.length_cons]; omega)]
    rfl
  unfold setI
  rw [this]
  rfl
theorem setI_2 {a b c v : V} {l : List V} : setI (a :: b :: c :: l) 2 v = some (a :: b :: v :: l) := by
  have : ixN (a :: b :: c :: l).length 2 = some 2 := by
    unfold ixN
    rw [if_pos (by omega), if_pos (by simp only [List.length_cons]; omega)]
    rfl
  unfold setI
  rw [this]
  rfl
theorem setI_3 {a b c d v : V} {l : List V} : setI (a :: b :: c :: d :: l) 3 v = some (a :: b :: c :: v :: l) := by
  have : ixN (a :: b :: c :: d :: l).length 3 = some 3 := by
    unfold ixN
    rw [if_pos (by omega), if_pos (by simp only [List.length_cons]; omega)]
    rfl
  unfold setI
  rw [this]
  rfl
/-- isinstance of a plain value and a built-in type -/
def isTy : V → String → Option Bool
  | .bl _, T => L2.kitB "bool" T
  | .int _, T => L2.kitB "int" T
  | .str _, T => L2.kitB "str" T
  | .non, T => L2.kitB "NoneType" T
  | _, _ => none
def rIsS : List V → Hp → VK → Prop := fun xs H Q => ∃ x T, xs = [x, .ty T] ∧ ∃ b, isTy x T = some b ∧ Q (.bl b) H
theorem isTy_bb {b : Bool} : isTy (.bl b) "bool" = some true := by
  show L2.kitB "bool" "bool" = some true
  decide +kernel
theorem isTy_bi {b : Bool} : isTy (.bl b) "int" = some true := by
  show L2.kitB "bool" "int" = some true
  decide +kernel
theorem isTy_ib {i : Int} : isTy (.int i) "bool" = some false := by
  show L2.kitB "int" "bool" = some false
  decide +kernel
theorem isTy_ii {i : Int} : isTy (.int i) "int" = some true := by
  show L2.kitB "int" "int" = some true
  decide +kernel
theorem isTy_ss {x : Str} : isTy (.str x) "str" = some true := by
  show L2.kitB "str" "str" = some true
  decide +kernel
theorem isTy_nb : isTy .non "bool" = some false := by
  show L2.kitB "NoneType" "bool" = some false
  decide +kernel
theorem isTy_ni : isTy .non "int" = some false := by
  show L2.kitB "NoneType" "int" = some false
  decide +kernel
section
variable {X : Cx}
theorem call_isS : CallR X (.builtin "isinstance") rIsS := by
  intro pins s σ H xs us Q I r h
  obtain ⟨x, T, rfl, b, e, q⟩ := h
  have ty : ∃ t, TyX X.K H x (.type t) ∧ L2.kitB t T = some b := by
    cases x with
    | bl k => exact ⟨_, .base (.bl k), e⟩
    | int k => exact ⟨_, .base (.int k), e⟩
    | str k => exact ⟨_, .base (.str k), e⟩
    | non => exact ⟨_, .base .non, e⟩
    | byt k => cases e
    | flt k => cases e
    | ref k => cases e
    | ty k => cases e
  obtain ⟨t, ht, hk⟩ := ty
  exact call_isi pins s σ H _ us Q I r ⟨x, .ty T, .type t, .type T, b, rfl, .ty T, ht, kit_ty hk, q⟩
theorem ix_lstM : IxR X rIxM := by
  intro value slice pins s σ H x y v u Q I rx ry h hs
  obtain ⟨p, i, e1, e2, h⟩ := h
  obtain ⟨xs, hp, z, hz, q⟩ := lstAt_get h
  exact ix_list value slice pins s σ H x y v u Q I rx ry ⟨p, xs, i, z, e1, e2, .inl (.inl hp), hz, q⟩ hs
theorem set_lstM : PSet X rSetM := by
  intro pins s σ H o i v ov iv u Q I ro ri rv h
  obtain ⟨p, k, e1, e2, h⟩ := h
  obtain ⟨xs, hp, ys, hy, q⟩ := lstAt_get h
  unfold setI at hy
  cases hj : ixN xs.length k with
  | none =>
    rw [hj] at hy
    cases hy
  | some j =>
    rw [hj] at hy
    have hy2 : xs.set j v = ys := Option.some.inj hy
    subst hy2
    exact set_list pins s σ H o i v ov iv u Q I ro ri rv ⟨p, xs, k, j, e1, e2, hp, hj, q⟩
theorem call_lenM : CallR X (.builtin "len") rLenM := by
  intro pins s σ H xs us Q I r h
  obtain ⟨p, e, h⟩ := h
  obtain ⟨ys, hp, q⟩ := lstAt_get h
  exact call_len_seq pins s σ H xs us Q I r ⟨p, ys, e, .inl (.inl (.inl hp)), q⟩
/-- int(n) of an int -/
theorem call_intI : CallR X (.type "int") (fun xs H Q => ∃ i, xs = [.int i] ∧ Q (.int i) H) := fun pins s σ H xs us Q I r h => call_int1 pins s σ H xs us Q I r (Or.inl h)
end
theorem same_new {H : Hp} {p : Addr} {o : HO} (h : H p = none) : Same H (upd H p o) := fun b x e => by
  rw [upd_ne (ne_of_none e h)]
  exact e
/-! ### loops by an invariant, told over the loop's own reading -/
theorem for_rng {ta : TA} {g : TG} {tb : TS} {D : Ends} {σ : L2.St} {H : Hp} (j : Int) (hta : ∀ R : List V → Hp → Prop, R [.int j] H → ta σ H R) (h0 : 0 ≤ j) (h1 : j < 2 ^ 62) (Pv : Nat → L2.St → Hp → Prop) (hp : Pv 0 σ H)
    (hs : ∀ (i : Nat) σ H, (i : Int) < j → Pv i σ H → g (.int (i : Int)) σ H fun σ2 H2 => tb { D with nx := Pv (i + 1), ct := Pv (i + 1), bk := D.nx } σ2 H2) (hd : ∀ σ H, Pv j.toNat σ H → D.nx σ H) : tFor (iRng1 ta) g tb D σ H := by
  refine hta _ ⟨j, rfl, by omega, h1, for_range (lo := 0) (n := j.toNat) Pv hp (fun i σ H hi pv => ?_) hd⟩
  rw [Int.zero_add]
  exact hs i σ H (by omega) pv
theorem for_rng2 {ta : TA} {g : TG} {tb : TS} {D : Ends} {σ : L2.St} {H : Hp} (l j : Int) (hta : ∀ R : List V → Hp → Prop, R [.int l, .int j] H → ta σ H R) (h0 : -(2 ^ 62) ≤ l) (h2 : l < 2 ^ 62) (h3 : -(2 ^ 62) ≤ j) (h1 : j < 2 ^ 62) (Pv : Nat → L2.St → Hp → Prop) (hp : Pv 0 σ H)
    (hs : ∀ (i : Nat) σ H, l + (i : Int) < j → Pv i σ H → g (.int (l + (i : Int))) σ H fun σ2 H2 => tb { D with nx := Pv (i + 1), ct := Pv (i + 1), bk := D.nx } σ2 H2) (hd : ∀ σ H, Pv (j - l).toNat σ H → D.nx σ H) : tFor (iRng2 ta) g tb D σ H :=
  hta _ ⟨l, j, rfl, ⟨h0, h2, h3, h1⟩, for_range (lo := l) (n := (j - l).toNat) Pv hp (fun i σ H hi pv => hs i σ H (by omega) pv) hd⟩
theorem for_lst {K : PySem.W.Frag} {tl : TE} {g : TG} {tb : TS} {D : Ends} {σ : L2.St} {H H0 : Hp} {a : Addr} (xs : List V) (htl : ∀ R : V → Hp → Prop, R (.ref a) H0 → tl σ H R) (Pv : Nat → L2.St → Hp → Prop) (hp : Pv 0 σ H0) (hl : ∀ i σ H, i ≤ xs.length → Pv i σ H → SqL K H a xs)
    (hs : ∀ i x σ H, xs[i]? = some x → Pv i σ H → g x σ H fun σ2 H2 => tb { D with nx := Pv (i + 1), ct := Pv (i + 1), bk := D.nx } σ2 H2) (hd : ∀ σ H, Pv xs.length σ H → D.nx σ H) : tFor (iList K tl) g tb D σ H :=
  htl _ ⟨a, rfl, ⟨xs, hl 0 σ H0 (Nat.zero_le _) hp⟩, L2.for_list (K := K) (a := a) (xs := xs) Pv hp hl hs hd⟩
/-- [f(x) for x in a list of ints], the element an int that is reckoned from x alone -/
theorem lc_ints {K : PySem.W.Frag} {tl te : TE} {c : Nat} {σ : L2.St} {H : Hp} {Q : VK} {a : Addr} {ns : List Int} (f : Int → Int) (htl : ∀ R : V → Hp → Prop, R (.ref a) H → tl σ H R) (ha : SqL K H a (ns.map V.int)) (hc : c < σ.length) (hn : ns.length ≤ 100000)
    (hte : ∀ (σ' : L2.St) (H' : Hp) (z : Int) (R : VK), σ'[c]? = some (some (.int z)) → R (.int (f z)) H' → te σ' H' R) (k : ∀ D, H D = none → Q (.ref D) (upd H D (.lst (ns.map fun z => .int (f z))))) : tLc (iList K tl) (gName c) tYes te [c] σ H Q := by
  refine htl _ ⟨a, rfl, ⟨_, ha⟩, fun D hD => lc_list (K := K) (a := a) (xs := ns.map V.int) (fun i H' => H' = upd H D (.lst ((ns.take i).map fun z => .int (f z)))) (by rw [List.take_zero]; rfl) (fun i H' _ e => ?_) ?_ ?_⟩
  · rw [e]
    exact (same_new hD).seq ha
  · rintro i x H' hx rfl
    rw [List.getElem?_map] at hx
    cases hz : ns[i]? with
    | none =>
      rw [hz] at hx
      cases hx
    | some z =>
      rw [hz] at hx
      have ex : V.int z = x := Option.some.inj hx
      subst ex
      have hlt : i < ns.length := (List.getElem?_eq_some_iff.mp hz).1
      refine ⟨?_, ?_⟩
      · show List.set (List.set (List.set σ c none) c _) c none = List.set σ c none
        rw [List.set_set, List.set_set]
      · simp only [tYes, if_true]
        refine hte _ _ z _ ?_ ⟨_, upd_same, ?_, ?_⟩
        · show (List.set (List.set σ c none) c _)[c]? = _
          rw [List.getElem?_set_self (by rw [List.length_set]; exact hc)]
        · rw [List.length_map, List.length_take]
          exact Nat.lt_of_le_of_lt (Nat.min_le_left _ _) (Nat.lt_of_lt_of_le (by omega : i < 100000) (by decide))
        · rw [upd_upd, List.take_add_one, hz, List.map_append]
          rfl
  · rintro H' rfl
    rw [List.length_map, List.take_length]
    exact k D hD

/-! ### dicts, told over a tracked dict as it stands -/
def dcAt (H : Hp) (p : Addr) (R : List (Key × V) → Prop) : Prop := match H p with
  | some (.dK kvs) => R kvs
  | _ => False
theorem dcAt_get {H : Hp} {p : Addr} {R : List (Key × V) → Prop} (h : dcAt H p R) : ∃ kvs, H p = some (.dK kvs) ∧ R kvs := by
  unfold dcAt at h
  split at h
  · rename_i kvs e
    exact ⟨kvs, e, h⟩
  · exact h.elim
def keyOf : V → Option Key
  | .int i => some (Sum.inl i)
  | .str x => some (Sum.inr x)
  | _ => none
theorem keyOf_kV {y : V} {k : Key} (h : keyOf y = some k) : y = kV k := by
  cases y <;> first | (cases h; rfl) | cases h
theorem keyOf_int {i : Int} : keyOf (.int i) = some (Sum.inl i) := rfl
theorem keyOf_str {x : Str} : keyOf (.str x) = some (Sum.inr x) := rfl
theorem kV_int {i : Int} {k : Key} : (V.int i = kV k) = (Sum.inl i = k) := by
  apply propext
  cases k with
  | inl j => exact ⟨(fun h => by cases h; rfl), (fun h => by cases h; rfl)⟩
  | inr x => exact ⟨(fun h => by cases h), (fun h => by cases h)⟩
theorem kV_str {x : Str} {k : Key} : (V.str x = kV k) = (Sum.inr x = k) := by
  apply propext
  cases k with
  | inl j => exact ⟨(fun h => by cases h), (fun h => by cases h)⟩
  | inr y => exact ⟨(fun h => by cases h; rfl), (fun h => by cases h; rfl)⟩
def rDInM (neg : Bool) : R2 := fun y x H Q => ∃ a, x = .ref a ∧ ∃ k, keyOf y = some k ∧ dcAt H a fun kvs => Q (.bl (if neg then !(valV kvs k).isSome else (valV kvs k).isSome)) H
def rDGetM : R2 := fun x y H Q => ∃ a, x = .ref a ∧ ∃ k, keyOf y = some k ∧ dcAt H a fun kvs => ∃ v, valV kvs k = some v ∧ Q v H
def rDSetM : V → V → V → Hp → (Hp → Prop) → Prop := fun o i v H Q => ∃ a, o = .ref a ∧ ∃ k, keyOf i = some k ∧ dcAt H a fun kvs => kvs.length < sizeLine ∧ Q (upd H a (.dK (putK kvs k v)))
def rDLenM : List V → Hp → VK → Prop := fun vs H Q => ∃ a, vs = [.ref a] ∧ dcAt H a fun kvs => Q (.int kvs.length) H
section
variable {X : Cx}
theorem op_dinM (hu : X.A.units + 1 < cLine) : OpR X (compareOp .In) (rDInM false) := by
  intro pins s σ H y x u v Q I ry rx h
  obtain ⟨a, rfl, k, hk, h⟩ := h
  obtain ⟨kvs, hp, q⟩ := dcAt_get h
  obtain rfl : v = Value.ref a := rx
  have e := keyOf_kV hk
  subst e
  exact d_in hu I (.k hp) ry fun s3 I3 => ⟨.bl (valV kvs k).isSome, H, I3, rfl, q⟩
theorem op_dnotinM (hu : X.A.units + 1 < cLine) : OpR X (compareOp .NotIn) (rDInM true) := by
  intro pins s σ H y x u v Q I ry rx h
  obtain ⟨a, rfl, k, hk, h⟩ := h
  obtain ⟨kvs, hp, q⟩ := dcAt_get h
  obtain rfl : v = Value.ref a := rx
  have e := keyOf_kV hk
  subst e
  exact d_notIn hu I (.k hp) ry fun s3 I3 => ⟨.bl (!(valV kvs k).isSome), H, I3, rfl, q⟩
theorem ix_dictM (hu : X.A.units + 1 < cLine) : IxR X rDGetM := by
  intro value slice pins s σ H x y v u Q I rx ry h hs
  obtain ⟨a, rfl, k, hk, h⟩ := h
  obtain ⟨kvs, hp, z, hz, q⟩ := dcAt_get h
  obtain rfl : v = Value.ref a := rx
  have e := keyOf_kV hk
  subst e
  have g : DGet H a (kV k) (some z) := by
    rw [← hz]
    exact .k hp
  exact tail_any (dict_typeIs I g) PySem.F.slot_dict_getitem.lookup (d_getItem hu I g ry fun w' s3 I3 rw' => ⟨z, H, I3, rw', q⟩) hs
theorem set_dictM (hu : X.A.units + 1 < cLine) : PSet X rDSetM := by
  intro pins s σ H o i v ov iv u Q I ro ri rv h
  obtain ⟨a, rfl, k, hk, h⟩ := h
  obtain ⟨kvs, hp, hl, q⟩ := dcAt_get h
  obtain rfl : ov = Value.ref a := ro
  have e := keyOf_kV hk
  subst e
  exact d_setItem hu I (.k hp hl) ri rv fun s4 I4 => ⟨_, I4, q⟩
theorem call_lenDM : CallR X (.builtin "len") rDLenM := by
  intro pins s σ H xs us Q I r h
  obtain ⟨a, e, h⟩ := h
  obtain ⟨kvs, hp, q⟩ := dcAt_get h
  exact call_lenD pins s σ H xs us Q I r ⟨a, kvs, e, hp, q⟩
end
/-! ### own errors with fields -/
/-- what the written part says of an own error class at C, its __init__ at fI -/
structure ExF (K : PySem.W.Frag) (C fI : Addr) : Prop where
  o : OexC K C
  x : XfC K C
  ic : PySem.W.findIn K (.ref C) "__init__" = some (some (.ref fI))
  ti : PySem.W.typeIn K (.ref fI) = some (.type "function")
  ha : PySem.W.findIn K (.ref C) "__class__" = some (some (.builtin "object.__class__"))
  hn : PySem.W.specialIn K (.builtin "object.__class__") "__get__" = some (some (.builtin "getset_descriptor.__get__"))
  ht : PySem.W.takesIn K (.builtin "object.__class__") = some true
  hm : PySem.W.mroIn K C (.type "object") = some true
/-- __init__ of an error with one field, with two -/
def sp_ex1 (C : Addr) (f : Str) : Sp := fun vs H Q _ => ∃ (a : Addr) (v : V), vs = [.ref a, v] ∧ H a = some (exo a C none) ∧ ∀ dx, H dx = none → dx ≠ a → Q .non (upd (upd H dx (exd dx [(f, v)])) a (exo a C (some dx)))
def sp_ex2 (C : Addr) (f g : Str) : Sp := fun vs H Q _ => ∃ (a : Addr) (v w : V), vs = [.ref a, v, w] ∧ H a = some (exo a C none) ∧
  ∀ dx, H dx = none → dx ≠ a → Q .non (upd (upd (upd H dx (exd dx [(f, v)])) a (exo a C (some dx))) dx (exd dx [(g, w), (f, v)]))
/-- raise C(e), raise C(e, e2) -/
def tRz1 (C : Addr) (f : Str) (W : WX) (ta : TA) : TS := fun _ σ H => ta σ H fun vs H1 => ∃ v, vs = [v] ∧ ∀ d, H1 d = none → W (.ref C) (some d) σ (upd H1 d (.xd [(f, v)]))
def tRz2 (C : Addr) (f g : Str) (W : WX) (ta : TA) : TS := fun _ σ H => ta σ H fun vs H1 => ∃ v w, vs = [v, w] ∧ ∀ d, H1 d = none → W (.ref C) (some d) σ (upd H1 d (.xd [(g, w), (f, v)]))
theorem del_upd_upd {H : Hp} {a dx : Addr} {o1 o2 : HO} {o3 : HO} {o0 : HO} (ha : H a = none) (ne : dx ≠ a) : upd (del (upd (upd (upd H a o0) dx o1) a o2) a) dx o3 = upd H dx o3 := by
  funext b
  by_cases hb : b = dx
  · subst hb
    rw [upd_same, upd_same]
  · rw [upd_ne hb, upd_ne hb]
    by_cases hba : b = a
    · subst hba
      rw [del_same, ha]
    · rw [del_ne hba, upd_ne hba, upd_ne hb, upd_ne hba]
theorem del_upd_upd2 {H : Hp} {a dx : Addr} {o0 o1 o2 o3 o4 : HO} (ha : H a = none) (ne : dx ≠ a) : upd (del (upd (upd (upd (upd H a o0) dx o1) a o2) dx o3) a) dx o4 = upd H dx o4 := by
  funext b
  by_cases hb : b = dx
  · subst hb
    rw [upd_same, upd_same]
  · rw [upd_ne hb, upd_ne hb]
    by_cases hba : b = a
    · subst hba
      rw [del_same, ha]
    · rw [del_ne hba, upd_ne hb, upd_ne hba, upd_ne hb, upd_ne hba]
theorem pa_at {X : Cx} {es : List Expr} {ta : TA} {σ0 : L2.St} {H0 : Hp} {R : List V → Hp → Prop} (ha : PA X es ta) (h0 : ta σ0 H0 R) : PA X es (fun σ H Q => σ = σ0 ∧ H = H0 ∧ ∀ vs H1, R vs H1 → Q vs H1) := by
  refine ⟨fun pos pins s σ H Q I h => ?_⟩
  obtain ⟨e1, e2, hk⟩ := h
  subst e1 e2
  exact thn (ha.run pos pins s σ H _ I h0) fun us s1 ⟨vs, H1, I1, r, q⟩ => ⟨vs, H1, I1, r, hk vs H1 q⟩
section
variable {X : Cx} {C fI : Addr} {k : Nat} {fd : FuncData} {x f g : Str} {W : WX} {ta : TA} {e : Expr} {es : List Expr} {p pos pos2 : Pos}
/-- C(e, ..) where nothing is handled: the error that comes has no context -/
theorem pmkN {CX0' : CXT} {ps : List Str} {sp : Sp} (T : ExF X.K C fI) (F1 : FnOk X.prog X.w X.K X.mg X.base CX0' k fI fd ps sp) (hr : Room (k + 1) X.A) (hb : Binds X.K fd ps []) (hx : Passes CX0' X (fun _ _ _ => False)) (hg : Gl X x) (hm : X.mg x = some (.ref C)) (ha : PA X (e :: es) ta)
    (hdb : (x == ("__debug__" : Str)) = false) (he : starEach (e :: es) X.env = (false, eval e X.env) :: starEach es X.env) (hpl : (backTo pos (starEach es X.env)).any (·.1) = false) :
    L2N.PMk X (.Call (.Name x p) (e :: es) [] pos) (tMkO C sp [] ta) := by
  intro pn0 st sg Hh Qq J hh
  obtain ⟨_, _, _, _, lb, _, _, _, _, _, _, _, _, _, _, hCl, hRef⟩ := T.o.cls
  refine wpAny_Call_Name_kw (ld_glob J hg hm ?_ hdb)
  refine PySem.W.callWith_K (h₀ := X.base) J.ok.mod.kin T.o.kC (thn (ha.run pos pn0 st sg Hh _ J hh) fun us st1 hx1 => ?_) he hpl
  obtain ⟨vs, G1, J1, rl, hz, hq0⟩ := hx1
  refine ⟨J1.kIn, ?_⟩
  show wpAny _ _ (call (.ref C) us) _ _ _
  obtain ⟨hp, gs, dr, tks, osx⟩ := st1
  have two : ∀ b o, hp.get? b = some o → ((hp.push (PySem.W.kdv_tup us)).push (PySem.HandSPX.excO C hp.objs.size)).get? b = some o := fun b o q => Heap.get?_push_of_some _ (Heap.get?_push_of_some _ q)
  have here : ((hp.push (PySem.W.kdv_tup us)).push (PySem.HandSPX.excO C hp.objs.size)).get? (hp.objs.size + 1) = some (PySem.HandSPX.excO C hp.objs.size) := by heap_get
  generalize hN : hp.objs.size + 1 = n at here
  have big : hp.objs.size ≤ n := by omega
  have hq := hq0 n (J1.hok.fresh big)
  rw [List.append_nil] at hq
  have J2 := J1.laid (t' := tks) (a := n) (o := exo n C none) two big (exo_ok here)
  have rl2 : Vals (V.ref n :: vs) (Value.ref n :: us) := .cons rfl rl
  have len2 : (Value.ref n :: us ++ []).length = ps.length := by
    rw [List.append_nil, ← rl2.length]
    exact F1.len _ _ _ _ hq
  have few : us.length ≤ sizeLine := by
    have := Paired.length rl
    rw [sizeLine_eq]
    omega
  have bnd := hb _ (Value.ref n :: us) J2.kIn len2
  rw [List.append_nil] at bnd
  have run := F1.run _ X.stack _ _ ⟨Value.ref n :: us, []⟩ (Value.ref n :: us) _ _ (fun _ _ _ => False) (hr.make C us []) (J2.env0.make C us []) bnd rl2 hq
  subst hN
  refine wpAny_call (PySem.HandSPX.call_own F.excBase_ValueError (fun Y => PySem.HandSPX.refsVE_contains Y lb hRef) (J1.kIn _ _ hCl) (PySem.W.looks_findIn J1.kIn T.ic) (fun me => PySem.W.bind_fn J1.kIn me T.ti) few (codeAny_mono run fun res st2 hres => ?_))
  cases res with
  | error er => exact hx pn0 sg _ _ er st2 J2 hres
  | ok fl =>
    cases fl with
    | next => exact hres.elim
    | brk => exact hres.elim
    | cont => exact hres.elim
    | ret u =>
      obtain ⟨v, G2, o2, b2, u2, k2, rv, ev, d, fs, ea, ed, hd1, q2⟩ := hres
      subst ev
      obtain ⟨hp2, gs2, dr2, tk2, os2⟩ := st2
      obtain ⟨t0, G, J3, kG, ge, hoe, na⟩ := mk_end0 (d2 := dr2) (t2 := tk2) J1 big two u2 k2 o2 b2 ea ed hd1
      exact ⟨rv, _, _, _, ⟨G, gs2, dr2, tk2, os2⟩, _, .ref C, some d, rfl, J3, kG, ge, hoe, ⟨rfl, rfl, fun ws hw => by cases hw; rfl⟩, rfl, rfl, na, rfl, b2, raises_own T.o.exC T.o.tyC, q2⟩
theorem ps_rz1 {ps : List Str} (hc : X.calm = true) (T : ExF X.K C fI) (F : FnOk X.prog X.w X.K X.mg X.base CX0 k fI fd ps (sp_ex1 C f)) (hr : Room (k + 1) X.A) (hb : Binds X.K fd ps []) (tk : L2N.Takes X W) (hg : Gl X x) (hm : X.mg x = some (.ref C)) (ha : PA X (e :: es) ta)
    (hdb : (x == ("__debug__" : Str)) = false := by decide) (he : starEach (e :: es) X.env = (false, eval e X.env) :: starEach es X.env := by rfl) (hpl : (backTo pos (starEach es X.env)).any (·.1) = false := by rfl) :
    PS X (.Raise (some (.Call (.Name x p) (e :: es) [] pos)) none pos2) (tRz1 C f W ta) := by
  refine ⟨fun pins s σ H D I h => ?_⟩
  have key := L2N.ps_raise (pos := pos2) hc tk (pmkN (p := p) T F hr hb pass0 hg hm (pa_at ha h) hdb he hpl)
  refine key.run pins s σ H D I ⟨rfl, rfl, fun vs H1 hk => ?_⟩
  obtain ⟨v, rfl, hw⟩ := hk
  refine ⟨by show 1 ≤ 1000; decide, fun a ha2 => ⟨a, v, rfl, upd_same, fun dx hdx ne => ⟨rfl, dx, [(f, v)], upd_same, ?_, ?_, ?_⟩⟩⟩
  · rw [upd_ne ne, upd_same]
  · rw [upd_ne ne] at hdx
    exact hdx
  · rw [upd_ne ne] at hdx
    rw [del_upd_upd ha2 ne]
    exact hw dx hdx
theorem ps_rz2 {ps : List Str} (hc : X.calm = true) (T : ExF X.K C fI) (F : FnOk X.prog X.w X.K X.mg X.base CX0 k fI fd ps (sp_ex2 C f g)) (hr : Room (k + 1) X.A) (hb : Binds X.K fd ps []) (tk : L2N.Takes X W) (hg : Gl X x) (hm : X.mg x = some (.ref C)) (ha : PA X (e :: es) ta)
    (hdb : (x == ("__debug__" : Str)) = false := by decide) (he : starEach (e :: es) X.env = (false, eval e X.env) :: starEach es X.env := by rfl) (hpl : (backTo pos (starEach es X.env)).any (·.1) = false := by rfl) :
    PS X (.Raise (some (.Call (.Name x p) (e :: es) [] pos)) none pos2) (tRz2 C f g W ta) := by
  refine ⟨fun pins s σ H D I h => ?_⟩
  have key := L2N.ps_raise (pos := pos2) hc tk (pmkN (p := p) T F hr hb pass0 hg hm (pa_at ha h) hdb he hpl)
  refine key.run pins s σ H D I ⟨rfl, rfl, fun vs H1 hk => ?_⟩
  obtain ⟨v, w, rfl, hw⟩ := hk
  refine ⟨by show 2 ≤ 1000; decide, fun a ha2 => ⟨a, v, w, rfl, upd_same, fun dx hdx ne => ⟨rfl, dx, [(g, w), (f, v)], ?_, upd_same, ?_, ?_⟩⟩⟩
  · rw [upd_ne (Ne.symm ne), upd_same]
  · rw [upd_ne ne] at hdx
    exact hdx
  · rw [upd_ne ne] at hdx
    rw [del_upd_upd2 ha2 ne]
    exact hw dx hdx
end
/-! ### an error that an except suite holds: isinstance, fields -/
def rIsX (K : PySem.W.Frag) (a : Addr) (cls : Value) (d : Option Addr) : List V → Hp → VK → Prop := fun xs H Q => ∃ (c : V) (cv : Value) (C fI dd : Addr) (fs : List (Str × V)) (b : Bool),
  xs = [.ref a, c] ∧ ClsV c cv ∧ cls = .ref C ∧ d = some dd ∧ H dd = some (.xd fs) ∧ ExF K C fI ∧ PySem.W.kitOne K (.ref C) cv = some b ∧ Q (.bl b) H
theorem call_isX {X : Cx} {a : Addr} {oe : Obj} {cls : Value} {d : Option Addr} (hp : (a, oe) ∈ X.pn) (hz : Zc cls d oe) (hf : ∃ vs, oe.data = .fields vs) : CallR X (.builtin "isinstance") (rIsX X.K a cls d) := by
  intro pins s σ H xs us Q I r h
  obtain ⟨c, cv, C, fI, dd, fs, b, rfl, hcv, rfl, rfl, hdd, T, hk, q⟩ := h
  obtain ⟨u1, u2, rfl, r1, r2⟩ := vals2 r
  have e2 := hcv.eq r2
  subst e2
  cases (show u1 = Value.ref a from r1)
  obtain ⟨hget, _⟩ := I.pin (a, oe) (List.mem_append_left _ hp)
  obtain ⟨vs, hv⟩ := hf
  obtain ⟨mA, hns, _⟩ := (show ObjOk X.prog X.w H s.heap dd (.xd fs) from I.hok dd _ hdd)
  obtain ⟨od, ho, _⟩ := lookIn_ns hns
  have J : PySem.W.InstAt s.heap a oe C (some od) := ⟨hget, hz.1, by unfold PySem.W.notCls; rw [hv] <;> rfl, by rw [hz.2]; exact ho⟩
  have hcl : (PySem.W.clsIn X.K C).isSome = true := by
    obtain ⟨nm, q, N, bs, bm, sn, sub, ab, col, dD, k0, k1, k2, k3, k5, hC, _⟩ := T.o.cls
    unfold PySem.W.clsIn
    rw [hC] <;> rfl
  exact PySem.W.kia_one (PySem.W.kitx_exc hcl T.x.ga T.x.gg T.x.exC T.ha T.hn T.ht T.hm) I.kIn J hk (fun z => nomatch z) fun tk => ⟨.bl b, H, I.kept (t' := tk) fun _ _ z => z, rfl, q⟩
/-- e.f, e the error at a -/
def tFx (a : Addr) (cls : Value) (d : Option Addr) (f : Str) (K : PySem.W.Frag) (te : TE) : TE := fun σ H Q => te σ H fun x H1 => x = .ref a ∧ ∃ (C fI dd : Addr) (fs : List (Str × V)) (v : V), cls = .ref C ∧ ExF K C fI ∧ PySem.W.findIn K (.ref C) f = some none ∧ d = some dd ∧ H1 dd = some (.xd fs) ∧ fs.lookup f = some v ∧ Q v H1
theorem pe_fx {X : Cx} {a : Addr} {oe : Obj} {cls : Value} {d : Option Addr} {e : Expr} {te : TE} {pos : Pos} {n : Str} (hp : (a, oe) ∈ X.pn) (hz : Zc cls d oe) (hf : ∃ vs, oe.data = .fields vs) (he : PE X e te)
    (hb : attributeBase e n X.env (eval e X.env) = eval e X.env := by rfl) : PE X (.Attribute e n pos) (tFx a cls d n X.K te) := by
  refine ⟨fun pins s σ H Q I h => ?_⟩
  refine attr_of hb (thn (he.run pins s σ H _ I h) fun u s1 hh => ?_)
  obtain ⟨x, H1, I1, rx, ex, C, fI, dd, fs, v, rfl, T, hno, rfl, ea, l, q⟩ := hh
  subst ex
  obtain rfl : u = Value.ref a := rx
  obtain ⟨hget, _⟩ := I1.pin (a, oe) (List.mem_append_left _ hp)
  obtain ⟨vs, hv⟩ := hf
  obtain ⟨mA, hns, hr⟩ := (show ObjOk X.prog X.w H1 s1.heap dd (.xd fs) from I1.hok dd _ ea)
  obtain ⟨od, ho, hl⟩ := lookIn_ns hns
  obtain ⟨w1, hw1, rw1⟩ := RelO.some_of (v := v) (o := mA n) (by rw [← l]; exact hr n)
  have J : PySem.W.InstAt s1.heap a oe C (some od) := ⟨hget, hz.1, by unfold PySem.W.notCls; rw [hv] <;> rfl, by rw [hz.2]; exact ho⟩
  exact HandSPX.exc_get I1.kIn J T.x.ga T.x.gg T.x.exC (PySem.W.findObj_own T.x.hdC hno rfl (by rw [hl, hw1])) (handed_of rw1) ⟨v, H1, I1.tok _, rw1, q⟩
/-- o.m(e, ..) that may raise, within a try -/
def tMethE (C : Addr) (m : Str) (sp : Sp) (E : L2.St → XK) (ta : TE) (t : TA) : TE := fun σ H Q => ta σ H fun x H1 => ∃ a dx fs, x = .ref a ∧ H1 a = some (.ins C dx fs) ∧ fs.lookup m = none ∧ t σ H1 fun vs H2 => sp (x :: vs) H2 Q (E σ)
theorem pe_methE {X : Cx} {CX : CXT} {k : Nat} {C f : Addr} {fd : FuncData} {ps : List Str} {m : Str} {sp : Sp} {E : L2.St → XK} {o e : Expr} {es : List Expr} {ta : TE} {t : TA} {apos pos : Pos} {pl : Sem Bool} (he : PE X o ta) (c : Cls X.K C) (hm : Meth X.K C m f)
    (F : FnOk X.prog X.w X.K X.mg X.base CX k f fd ps sp) (hr : Room k X.A) (hb : Binds X.K fd ps []) (hx : ∀ σ, PassesAt CX X σ (E σ)) (ha : PA X (e :: es) t)
    (hst : starEach (e :: es) X.env = (false, eval e X.env) :: starEach es X.env := by rfl) (hpl : (backTo pos (starEach es X.env)).any (·.1) = false := by rfl)
    (ht : eval (.Call (.Attribute o m apos) (e :: es) [] pos) X.env = (do
      let ov ← eval o X.env
      standAt apos.atName
      let (f, first) ← holding [ov] (getMethod ov m pl)
      callWith pos f first (backTo pos (starEach (e :: es) X.env)) (backToKw pos (keywordEach [] X.env))) := by rfl) :
    PE X (.Call (.Attribute o m apos) (e :: es) [] pos) (tMethE C m sp E ta t) := by
  refine ⟨fun pins s σ H Q I h => ?_⟩
  refine PySem.W.methodCall_KW (pl := pl) (thn (he.run pins s σ H _ I h) fun u1 s1 hh => ?_) ht
  obtain ⟨x, H1, I1, rx, a, dx, fs, ex, ea, l, q⟩ := hh
  subst ex
  obtain rfl : u1 = Value.ref a := rx
  refine getmeth_ok I1 ea c hm l ?_
  refine PySem.W.callWith_K (first := [.ref a]) (h₀ := X.base) I.ok.mod.kin hm.kp (thn (ha.run pos pins s1 σ H1 _ I1 q) fun us s2 hh2 => ?_) hst hpl
  obtain ⟨vs, H2, I2, r, q2⟩ := hh2
  exact ⟨I2.kIn, run_fnS (us := .ref a :: us) (vs := .ref a :: vs) F hr hb (hx σ) I2 (.cons rfl r) q2⟩
/-- a def that may raise -/
theorem okN {P : Program} {w : World} {K : PySem.W.Frag} {mg : Str → Option Value} {base : Heap} {CXx : CXT} {x qual : Str} {st : Stmt} {f : Addr} {fd : FuncData} {N ps : List Str} {k : Nat} {sp : Sp} (F : Fun K x qual st f fd) (S : FnScope N ps (defScope st)) (len : ∀ vs H Q E, sp vs H Q E → vs.length = ps.length)
    (body : ∀ (cdv : Value) (A : Around) (outer : List Env) (s : Shared) (H : Hp) (vs : List V) (Q : VK) (E : XK), Room k (A.deeper (envOfC qual (defScope st) s.heap.objs.size f cdv)) → sp vs H Q E →
      ∃ t, PSs (cxOf CXx P w K mg base N qual (defScope st) f cdv A outer s H E) (defBody st) t ∧ t { nx := fun _ H' => Q .non H', rt := Q } (L2.start N vs) H) : FnOk P w K mg base CXx (k + 1) f fd ps sp := by
  obtain ⟨_, _, _, _, _, _, cdv, _, _, rfl, lk, hcd⟩ := F.ex
  exact fn_of lk hcd S len (body cdv)
/-- a def as it is called where an error is handled -/
theorem okH {P : Program} {w : World} {K : PySem.W.Frag} {mg : Str → Option Value} {base : Heap} {CXx : CXT} {x qual : Str} {st : Stmt} {f : Addr} {fd : FuncData} {N ps : List Str} {k : Nat} {sp : Sp} (F : Fun K x qual st f fd) (S : FnScope N ps (defScope st)) (len : ∀ vs H Q E, sp vs H Q E → vs.length = ps.length)
    (body : ∀ (cdv : Value) (A : Around) (outer : List Env) (s : Shared) (H : Hp) (vs : List V) (Q : VK) (E : XK) (p : Addr × Obj), L2H.Hot1 A p → L2H.RoomH k (A.deeper (envOfC qual (defScope st) s.heap.objs.size f cdv)) → sp vs H Q E →
      ∃ t, PSs (L2H.cxH CXx P w K mg base N qual (defScope st) f cdv A outer s H E p) (defBody st) t ∧ t { nx := fun _ H' => Q .non H', rt := Q } (L2.start N vs) H) : L2H.FnH P w K mg base CXx (k + 1) f fd ps sp := by
  obtain ⟨_, _, _, _, _, _, cdv, _, _, rfl, lk, hcd⟩ := F.ex
  exact L2H.fn_ofH lk hcd S len (body cdv)
theorem takesN {X : Cx} : L2N.Takes X (fun _ _ _ _ => False) := fun _ _ x => by
  obtain ⟨_, _, _, _, _, _, _, _, _, _, _, _, _, _, _, _, z⟩ := x
  exact z.elim
theorem passAt0 {X : Cx} {σ : L2.St} : PassesAt CX0 X σ E0 := fun _ _ _ _ _ _ h => h.elim
theorem hotC_suite {X : Cx} {a : Addr} {oe : Obj} {cls : Value} {d : Option Addr} {pn : List (Addr × Obj)} (hz : L2N.Zn cls d oe) (hf : ∃ vs, oe.data = .fields vs) : L2H.HotC (X.suite a ((a, oe) :: pn)) := by
  obtain ⟨vs, hv⟩ := hf
  exact ⟨(a, oe), ⟨rfl, vs, hv, hz.2.2 vs hv⟩, List.mem_cons_self ..⟩
theorem roomH_suite {k : Nat} {A : Around} {h : Option Value} (r : Room k A) : L2H.RoomH k (A.mark h) := ⟨r.dp, r.un⟩
theorem tt_true {a : Prop} (h : a) : (a = True) := propext ⟨fun _ => trivial, fun _ => h⟩
/-! ### x is True, of a plain value -/
def plainV : V → Bool
  | .bl _ => true
  | .int _ => true
  | .non => true
  | .str _ => true
  | _ => false
def rIsBM (neg : Bool) : R2 := fun x y H Q => ∃ b, y = .bl b ∧ plainV x = true ∧ Q (.bl (if neg then !decide (x = .bl b) else decide (x = .bl b))) H
theorem plainV_b {b : Bool} : plainV (.bl b) = true := rfl
theorem plainV_i {i : Int} : plainV (.int i) = true := rfl
theorem plainV_n : plainV .non = true := rfl
theorem plainV_s {x : Str} : plainV (.str x) = true := rfl
section
variable {X : Cx}
theorem op_isBM : OpR X (compareOp .Is) (rIsBM false) := by
  intro pins s σ H x y v u Q I rx ry h
  obtain ⟨b, rfl, hx, q⟩ := h
  cases (show u = Value.bool b from ry)
  by_cases e : x = .bl b
  · subst e
    cases (show v = Value.bool b from rx)
    exact wpAny_is_self rfl ⟨.bl true, H, I, rfl, by simpa using q⟩
  · have ne : v ≠ Value.bool b := fun z => by
      subst z
      cases x with
      | bl a => exact e (by rw [Value.bool.inj (show Value.bool b = Value.bool a from rx)])
      | int i =>
        obtain ⟨t, z⟩ := rx
        cases z
      | str i =>
        obtain ⟨t, z⟩ := rx
        cases z
      | non => cases (show Value.bool b = Value.none from rx)
      | byt k => cases hx
      | flt k => cases hx
      | ref k => cases hx
      | ty k => cases hx
    have pl : PySem.plainIs v (Value.bool b) = true := by
      cases x with
      | bl a =>
        cases (show v = Value.bool a from rx)
        rfl
      | int i =>
        obtain ⟨t, rfl⟩ := rx
        rfl
      | str i =>
        obtain ⟨t, rfl⟩ := rx
        rfl
      | non =>
        cases (show v = Value.none from rx)
        rfl
      | byt k => cases hx
      | flt k => cases hx
      | ref k => cases hx
      | ty k => cases hx
    exact wpAny_is_other pl ne ⟨.bl false, H, I, rfl, by simpa [e] using q⟩
end
/-! ### in, methods, slices of a tracked list -/
def rInM (neg : Bool) : R2 := fun x y H Q => ∃ p, y = .ref p ∧ lstAt H p fun xs => flatV x = true ∧ xs.all flatV = true ∧ Q (.bl (if neg then !inV x xs else inV x xs)) H
def tBMM (r : V → List V → Hp → VK → Prop) (to : TE) (t : TA) : TE := fun σ H Q => to σ H fun x H1 => ∃ p, x = .ref p ∧ lstAt H1 p fun _ => t σ H1 fun xs H2 => r x xs H2 Q
def tBM0M (r : V → List V → Hp → VK → Prop) (to : TE) : TE := fun σ H Q => to σ H fun x H1 => ∃ p, x = .ref p ∧ lstAt H1 p fun _ => r x [] H1 Q
def rSlM : V → Option Int → Option Int → Hp → VK → Prop := fun x lo hi H Q => ∃ p, x = .ref p ∧ lstAt H p fun xs => ∀ l, H l = none → Q (.ref l) (upd H l (.lst (cutV xs lo hi)))
theorem pe_at {X : Cx} {e : Expr} {te : TE} {σ0 : L2.St} {H0 : Hp} {R : V → Hp → Prop} (ha : PE X e te) (h0 : te σ0 H0 R) : PE X e (fun σ H Q => σ = σ0 ∧ H = H0 ∧ ∀ v H1, R v H1 → Q v H1) := by
  refine ⟨fun pins s σ H Q I h => ?_⟩
  obtain ⟨e1, e2, hk⟩ := h
  subst e1 e2
  exact thn (ha.run pins s σ H _ I h0) fun u s1 ⟨v, H1, I1, r, q⟩ => ⟨v, H1, I1, r, hk v H1 q⟩
section
variable {X : Cx}
theorem op_inM : OpR X (compareOp .In) (rInM false) := by
  intro pins s σ H x y v u Q I rx ry h
  obtain ⟨p, e, h⟩ := h
  obtain ⟨xs, hp, h1, h2, q⟩ := lstAt_get h
  exact op_in_seq pins s σ H x y v u Q I rx ry ⟨p, xs, e, .inl (.inl (.inl hp)), h1, h2, q⟩
theorem op_notInM : OpR X (compareOp .NotIn) (rInM true) := by
  intro pins s σ H x y v u Q I rx ry h
  obtain ⟨p, e, h⟩ := h
  obtain ⟨xs, hp, h1, h2, q⟩ := lstAt_get h
  exact op_notIn_seq pins s σ H x y v u Q I rx ry ⟨p, xs, e, .inl (.inl (.inl hp)), h1, h2, q⟩
theorem sl_listM : SlR X rSlM := by
  intro pins s σ H x v vl vu lo hi sl Q I rx hs pl pu h
  obtain ⟨p, e, h⟩ := h
  obtain ⟨xs, hp, q⟩ := lstAt_get h
  exact sl_list pins s σ H x v vl vu lo hi sl Q I rx hs pl pu ⟨p, xs, e, .inl (.inl hp), q⟩
theorem pe_bmM {name : Str} {id : String} {r : V → List V → Hp → VK → Prop} {o e : Expr} {es : List Expr} {to : TE} {t : TA} {apos cpos : Pos} (slot : Slot "list" name id) (hty : typeOf (.builtin id) = pure (.type "method_descriptor")) (hm : MtR X id r) (ho : PE X o to) (ha : PA X (e :: es) t)
    (hbase : attributeBase o name X.env (eval o X.env) = eval o X.env := by rfl)
    (hfew : ((backTo cpos (starEach (e :: es) X.env)).all (fun x => !x.1) && (backToKw cpos (keywordEach [] X.env)).all (fun x => x.1.isSome)
      && decide ((e :: es).length + ([] : List Keyword).length + (if ([] : List Keyword).isEmpty then 0 else 1) < 30)) = true := by rfl)
    (hline : (apos.endLine == cpos.line) = true := by rfl) (hs : starEach (e :: es) X.env = (false, eval e X.env) :: starEach es X.env := by rfl) (hplain : (backTo cpos (starEach es X.env)).any (·.1) = false := by rfl) :
    PE X (.Call (.Attribute o name apos) (e :: es) [] cpos) (tBMM r to t) := by
  refine ⟨fun pins s σ H Q I h => ?_⟩
  refine (pe_bm PySem.F.plainAttrs_list slot hty hm (pe_at ho h) ha hbase hfew hline hs hplain).run pins s σ H Q I ⟨rfl, rfl, fun v H1 hv => ?_⟩
  obtain ⟨p, rfl, hv⟩ := hv
  obtain ⟨xs, hp, q⟩ := lstAt_get hv
  exact ⟨.inl ⟨rfl, xs, .inl (.inl hp)⟩, q⟩
theorem pe_bm0M {name : Str} {id : String} {r : V → List V → Hp → VK → Prop} {o : Expr} {to : TE} {apos cpos : Pos} (slot : Slot "list" name id) (hty : typeOf (.builtin id) = pure (.type "method_descriptor")) (hm : MtR X id r) (ho : PE X o to)
    (hbase : attributeBase o name X.env (eval o X.env) = eval o X.env := by rfl) (hline : (apos.endLine == cpos.line) = true := by rfl) : PE X (.Call (.Attribute o name apos) [] [] cpos) (tBM0M r to) := by
  refine ⟨fun pins s σ H Q I h => ?_⟩
  refine (pe_bm0 PySem.F.plainAttrs_list slot hty hm (pe_at ho h) hbase hline).run pins s σ H Q I ⟨rfl, rfl, fun v H1 hv => ?_⟩
  obtain ⟨p, rfl, hv⟩ := hv
  obtain ⟨xs, hp, q⟩ := lstAt_get hv
  exact ⟨.inl ⟨rfl, xs, .inl (.inl hp)⟩, q⟩
end
theorem lkc {a k : Str} {b : V} {es : List (Str × V)} : List.lookup a ((k, b) :: es) = if a = k then some b else List.lookup a es := by
  by_cases h : a = k
  · subst h
    simp [List.lookup]
  · have e : (a == k) = false := by simpa using h
    rw [if_neg h]
    simp [List.lookup, e]
theorem lkn {a : Str} : List.lookup a ([] : List (Str × V)) = none := rfl
theorem pfn {f : Str} {v : V} : putF f v [] = [(f, v)] := rfl
theorem pfc {f g : Str} {v x : V} {r : List (Str × V)} : putF f v ((g, x) :: r) = if g = f then (g, v) :: r else (g, x) :: putF f v r := rfl
theorem cxH_K {CX : CXT} {P : Program} {w : World} {K : PySem.W.Frag} {mg : Str → Option Value} {base : Heap} {N : List Str} {qual : Str} {scope : Scope} {f : Addr} {cd : Value} {A : Around} {outer : List Env} {s : Shared} {H : Hp} {E : XK} {p : Addr × Obj} : (L2H.cxH CX P w K mg base N qual scope f cd A outer s H E p).K = K := rfl
theorem clsV_ref {C : Addr} {u : Value} : ClsV (.ref C) u = (Value.ref C = u) := by
  apply propext
  constructor
  · intro h
    cases h
    rfl
  · intro h
    subst h
    exact .own C
theorem clsV_ty {n : String} {u : Value} : ClsV (.ty n) u = (Value.type n = u) := by
  apply propext
  constructor
  · intro h
    cases h
    rfl
  · intro h
    subst h
    exact .ty n

/-! ### a def that is handed the error that is handled: its promise speaks of the pinned object -/
structure FnE (P : Program) (w : World) (K : PySem.W.Frag) (mg : Str → Option Value) (base : Heap) (CXx : CXT) (k : Nat) (f : Addr) (fd : FuncData) (ps : List Str) (sp : Addr × Obj → Sp) : Prop where
  len : ∀ p vs H Q E, sp p vs H Q E → vs.length = ps.length
  run : ∀ (p : Addr × Obj) (A : Around) (outer : List Env) (s : Shared) (H : Hp) (args : Args) (us : List Value) (vs : List V) (Q : VK) (E : XK), L2H.RoomH k A → L2H.Hot1 A p → L2H.PinOk outer H s p → Env0 P w K mg base A outer s H → BindsTo s fd args (ps.zip us) →
    Vals vs us → sp p vs H Q E → codeAny (model P w) A (.call (.ref f) args) (CR CXx outer P w H s Q E) s
theorem okE {P : Program} {w : World} {K : PySem.W.Frag} {mg : Str → Option Value} {base : Heap} {CXx : CXT} {x qual : Str} {st : Stmt} {f : Addr} {fd : FuncData} {N ps : List Str} {k : Nat} {sp : Addr × Obj → Sp} (F : Fun K x qual st f fd) (S : FnScope N ps (defScope st))
    (len : ∀ p vs H Q E, sp p vs H Q E → vs.length = ps.length)
    (body : ∀ (p : Addr × Obj) (cdv : Value) (A : Around) (outer : List Env) (s : Shared) (H : Hp) (vs : List V) (Q : VK) (E : XK), L2H.Hot1 A p → L2H.RoomH k (A.deeper (envOfC qual (defScope st) s.heap.objs.size f cdv)) → sp p vs H Q E →
      ∃ t, PSs (L2H.cxH CXx P w K mg base N qual (defScope st) f cdv A outer s H E p) (defBody st) t ∧ t { nx := fun _ H' => Q .non H', rt := Q } (L2.start N vs) H) : FnE P w K mg base CXx (k + 1) f fd ps sp := by
  obtain ⟨_, _, _, _, _, _, cdv, _, _, rfl, lk, hcd⟩ := F.ex
  refine ⟨len, fun p A outer s H args us vs Q E hr hot pin e0 bnd rv hsp => ?_⟩
  have kin : K.In s.heap := e0.mod.kin.keeps fun b o q => (e0.bs b o q).1
  have own : ∀ y ∈ ps.zip us, (defScope st).names.lookup y.1 = some .local ∨ ((defScope st).names.lookup y.1 = some .cell ∧ ((cellsFrom (s.heap.objs.size + 1) (defScope st).names []).lookup y.1).isSome = true) := by
    intro y hy
    rcases S.par y.1 (List.of_mem_zip (a := y.1) (b := y.2) hy).1 with h | h
    · exact .inl h
    · exact .inr ⟨h, PySem.W.cellsFrom_some _ _ _ (.inl h)⟩
  refine codeAny_call_function hr.depth (kin _ _ lk) rfl S.co S.gen rfl (PySem.W.codeRec_of kin hcd) (bnd _ _ _ _ (wpAny_newFunctionEnv_cells S.kind own fun env he s1 z => ?_))
  subst he
  refine ⟨(e0.mod.nolimit.keeps fun b o q => (e0.bs b o q).1).keeps z.toInCall.keep, codeAny_func ?_⟩
  obtain ⟨t, ht, hq⟩ := body p cdv A outer s H vs Q E hot (hr.deeper _) hsp
  have I := L2H.inv_startH (CX := CXx) (P := P) (w := w) (mg := mg) (base := base) (E := E) S pin e0 (len _ _ _ _ _ hsp) rv z
  refine wpAny_mono (ht.run [] s1 (L2.start N vs) H _ I hq) (fun fl s2 h2 => ?_) fun _ _ h2 => h2
  cases fl with
  | brk =>
    obtain ⟨_, _, _, h2⟩ := h2
    exact h2.elim
  | cont =>
    obtain ⟨_, _, _, h2⟩ := h2
    exact h2.elim
  | next =>
    obtain ⟨_, H2, J, q⟩ := h2
    exact ⟨V.non, H2, J.os, J.bare, J.base, J.hok, rfl, q⟩
  | ret u =>
    obtain ⟨v, _, H2, J, r, q⟩ := h2
    exact ⟨v, H2, J.os, J.bare, J.base, J.hok, r, q⟩
def tCallZ (sp : Addr × Obj → Sp) (a : Addr) (cls : Value) (d : Option Addr) (t : TA) : TE := fun σ H Q => t σ H fun vs H1 => ∀ oe, L2N.Zn cls d oe → (∃ ws, oe.data = .fields ws) → sp (a, oe) vs H1 Q E0
theorem pe_callE {X : Cx} {k : Nat} {f : Addr} {fd : FuncData} {ps : List Str} {sp : Addr × Obj → Sp} {x : Str} {q pos : Pos} {e : Expr} {es : List Expr} {t : TA} {a : Addr} {oe : Obj} {cls : Value} {d : Option Addr} (F : FnE X.prog X.w X.K X.mg X.base CX0 k f fd ps sp) (hr : L2H.RoomH k X.A) (hot : L2H.Hot1 X.A (a, oe)) (hp : (a, oe) ∈ X.pn) (hz : L2N.Zn cls d oe) (hf : ∃ ws, oe.data = .fields ws)
    (hg : Gl X x) (hm : X.mg x = some (.ref f)) (hk : PySem.W.keepIn X.K (.ref f) = true) (hb : Binds X.K fd ps []) (ha : PA X (e :: es) t) (hdb : (x == ("__debug__" : Str)) = false := by decide)
    (he : starEach (e :: es) X.env = (false, eval e X.env) :: starEach es X.env := by rfl) (hpl : (backTo pos (starEach es X.env)).any (·.1) = false := by rfl) : PE X (.Call (.Name x q) (e :: es) [] pos) (tCallZ sp a cls d t) := by
  refine ⟨fun pins s σ H Q I h => ?_⟩
  refine wpAny_Call_Name_kw (ld_glob I hg hm ?_ hdb)
  refine PySem.W.callWith_K (h₀ := X.base) I.ok.mod.kin hk (thn (ha.run pos pins s σ H _ I h) fun us s1 z => ?_) he hpl
  obtain ⟨vs, H1, I1, r, hsp0⟩ := z
  have hsp := hsp0 oe hz hf
  refine ⟨I1.kIn, ?_⟩
  have n : us.length = ps.length := r.length.symm.trans (F.len _ _ _ _ _ hsp)
  have b := hb s1 us I1.kIn (by rw [List.append_nil]; exact n)
  rw [List.append_nil] at b
  have at1 := I1.pin (a, oe) (List.mem_append_left _ hp)
  have pin : L2H.PinOk X.stack H1 s1 (a, oe) := ⟨at1.1, at1.2.1, fun hx => (List.mem_cons.mp (I1.stkSub a hx)).elim at1.2.2.1 at1.2.2.2.1, at1.2.2.2.2⟩
  refine wpAny_call (codeAny_mono (F.run (a, oe) X.A X.stack s1 H1 ⟨us, []⟩ us vs Q E0 hr hot pin I1.env0 b r hsp) fun res s2 hres => ?_)
  cases res with
  | error er => exact hres.elim
  | ok fl =>
    cases fl with
    | ret u => exact I1.after hres
    | next => exact hres.elim
    | brk => exact hres.elim
    | cont => exact hres.elim
theorem hot_suite {X : Cx} {a : Addr} {oe : Obj} {cls : Value} {d : Option Addr} {pn : List (Addr × Obj)} (hz : L2N.Zn cls d oe) (hf : ∃ vs, oe.data = .fields vs) : L2H.Hot1 (X.suite a ((a, oe) :: pn)).A (a, oe) := by
  obtain ⟨vs, hv⟩ := hf
  exact ⟨rfl, vs, hv, hz.2.2 vs hv⟩

/-! ### more small rules -/
theorem passN0 {P : Program} {w : World} {X : Cx} : Passes (L2N.CX P w) X E0 := fun _ _ _ _ _ _ _ ⟨_, _, _, _, _, _, _, _, _, _, _, _, h⟩ => h.elim
theorem isTy_si {x : Str} : isTy (.str x) "int" = some false := by
  show L2.kitB "str" "int" = some false
  decide +kernel
theorem isTy_is {i : Int} : isTy (.int i) "str" = some false := by
  show L2.kitB "int" "str" = some false
  decide +kernel
theorem isTy_sb {x : Str} : isTy (.str x) "bool" = some false := by
  show L2.kitB "str" "bool" = some false
  decide +kernel
/-- isinstance(x, list), x a tracked list -/
def rIsL : List V → Hp → VK → Prop := fun xs H Q => ∃ p, xs = [.ref p, .ty "list"] ∧ lstAt H p fun _ => Q (.bl true) H
theorem call_isL {X : Cx} : CallR X (.builtin "isinstance") rIsL := by
  intro pins s σ H xs us Q I r h
  obtain ⟨p, rfl, h⟩ := h
  obtain ⟨ys, hp, q⟩ := lstAt_get h
  exact call_isi pins s σ H _ us Q I r ⟨.ref p, .ty "list", .type "list", .type "list", true, rfl, .ty "list", .base (.lst hp), kit_ty rfl, q⟩
/-- a str times an int that is more than one -/
def rRepS : R2 := fun x y H Q => ∃ (i : Str) (n : Int), x = .str i ∧ y = .int n ∧ 1 < n ∧ n ≤ 100000 ∧ 0 < i.length ∧ i.length ≤ 10 ∧ ∀ z : Str, z.length = i.length * n.toNat → Q (.str z) H
theorem size_foldl_rep (b : Array Nat) : ∀ (n : Nat) (a : Array Nat), (List.foldl (fun x1 x2 => x1 ++ x2) a (List.replicate n b)).size = a.size + b.size * n
  | 0, a => by simp
  | n + 1, a => by
    rw [List.replicate_succ, List.foldl_cons, size_foldl_rep b n, Array.size_append, Nat.mul_succ]
    omega
theorem op_repS {X : Cx} : OpR X (binaryOp .Mult) rRepS := by
  intro pins s σ H x y v u Q I rx ry h
  obtain ⟨i, n, rfl, rfl, h1, h2, h3, h4, q⟩ := h
  obtain ⟨t, rfl⟩ := rx
  obtain ⟨t', rfl⟩ := ry
  have hl : i.length * n.toNat ≤ 1000000 := by
    have := Nat.mul_le_mul h4 (show n.toNat ≤ 100000 by omega)
    omega
  have c0 : ¬ n < 1 := by omega
  have c1 : (n == 1 || i.length == 0) = false := by
    have a1 : (n == 1) = false := by simp; omega
    have a2 : (i.length == 0) = false := by simp; omega
    rw [a1, a2] <;> rfl
  have hs : (⟨(List.replicate n.toNat i.cps).foldl (· ++ ·) #[]⟩ : Str).length = i.length * n.toNat := by
    show Array.size _ = _
    rw [size_foldl_rep]
    simp [Str.length]
  have hsl : i.length * n.toNat ≤ sizeLine := Nat.le_trans hl (by decide)
  have ns : PySem.Builtin.Str.tooLong (i.length * n.toNat) = false := decide_eq_false (by omega)
  refine PySem.P.mul_str ?_ (fun _ _ => ?_) (fun _ _ => ns) ?_
  · have a1 : ¬ n < -(2 ^ 63 : Int) := by omega
    have a2 : ¬ n ≥ 2 ^ 63 := by omega
    rw [decide_eq_false a1, decide_eq_false a2] <;> rfl
  · have a1 : (100 : Int) ≤ (2 ^ 63 - 1) / n := by
      refine Int.le_ediv_of_mul_le (by omega) ?_
      omega
    omega
  · rw [if_neg c0, if_neg (by rw [c1]; decide)]
    exact ⟨by rw [hs]; exact hsl, ⟨.str _, H, I.tok _, ⟨_, rfl⟩, q _ hs⟩⟩
/-- a loop over a list that is made for it -/
theorem for_lstN {K : PySem.W.Frag} {tl : TE} {g : TG} {tb : TS} {D : Ends} {σ : L2.St} {H : Hp} (xs : List V) (htl : ∀ R : V → Hp → Prop, (∀ p, H p = none → R (.ref p) (upd H p (.lst xs))) → tl σ H R) (Pv : Addr → Nat → L2.St → Hp → Prop)
    (hp : ∀ p, H p = none → Pv p 0 σ (upd H p (.lst xs))) (hl : ∀ p i σ' H', H p = none → Pv p i σ' H' → H' p = some (.lst xs))
    (hs : ∀ p i x σ' H', H p = none → xs[i]? = some x → Pv p i σ' H' → g x σ' H' fun σ2 H2 => tb { D with nx := Pv p (i + 1), ct := Pv p (i + 1), bk := D.nx } σ2 H2) (hd : ∀ p σ' H', H p = none → Pv p xs.length σ' H' → D.nx σ' H') : tFor (iList K tl) g tb D σ H :=
  htl _ fun p h0 => ⟨p, rfl, ⟨xs, .inl (.inl upd_same)⟩, L2.for_list (K := K) (a := p) (xs := xs) (Pv p) (hp p h0) (fun i σ' H' _ h => .inl (.inl (hl p i σ' H' h0 h))) (fun i x σ' H' hx h => hs p i x σ' H' h0 hx h) (fun σ' H' h => hd p σ' H' h0 h)⟩
theorem cutV_from {xs : List V} {c : Nat} : cutV xs (some (c : Int)) none = xs.drop c := by
  unfold cutV
  rw [HT.sIx_none, HT.sIx_nat]
  by_cases h : c ≤ xs.length
  · rw [Nat.min_eq_left h]
    exact List.take_of_length_le (by rw [List.length_drop]; exact Nat.le_refl _)
  · rw [Nat.min_eq_right (by omega), List.drop_length, List.take_nil, List.drop_eq_nil_of_le (by omega)]
theorem cutV_to {xs : List V} {c : Nat} : cutV xs none (some (c : Int)) = xs.take c := by
  unfold cutV
  rw [HT.sIx_none, HT.sIx_nat, List.drop_zero, Nat.sub_zero]
  by_cases h : c ≤ xs.length
  · rw [Nat.min_eq_left h]
  · rw [Nat.min_eq_right (by omega), List.take_length, List.take_of_length_le (by omega)]
theorem suite_mem {X : Cx} {a : Addr} {oe : Obj} {pn : List (Addr × Obj)} : (a, oe) ∈ (X.suite a ((a, oe) :: pn)).pn := List.mem_cons_self ..
theorem call_isXs {X : Cx} {a : Addr} {oe : Obj} {pn : List (Addr × Obj)} {cls : Value} {d : Option Addr} (hz : L2N.Zn cls d oe) (hf : ∃ vs, oe.data = .fields vs) : CallR (X.suite a ((a, oe) :: pn)) (.builtin "isinstance") (rIsX X.K a cls d) :=
  call_isX (X := X.suite a ((a, oe) :: pn)) suite_mem (L2N.Zn.zc hz) hf
theorem pe_fxs {X : Cx} {a : Addr} {oe : Obj} {pn : List (Addr × Obj)} {cls : Value} {d : Option Addr} {e : Expr} {te : TE} {pos : Pos} {n : Str} (hz : L2N.Zn cls d oe) (hf : ∃ vs, oe.data = .fields vs) (he : PE (X.suite a ((a, oe) :: pn)) e te)
    (hb : attributeBase e n (X.suite a ((a, oe) :: pn)).env (eval e (X.suite a ((a, oe) :: pn)).env) = eval e (X.suite a ((a, oe) :: pn)).env := by rfl) : PE (X.suite a ((a, oe) :: pn)) (.Attribute e n pos) (tFx a cls d n X.K te) :=
  pe_fx (X := X.suite a ((a, oe) :: pn)) suite_mem (L2N.Zn.zc hz) hf he hb
/-- for k in range(j), j maybe less than nothing -/
theorem for_rngT {ta : TA} {g : TG} {tb : TS} {D : Ends} {σ : L2.St} {H : Hp} (j : Int) (hta : ∀ R : List V → Hp → Prop, R [.int j] H → ta σ H R) (h0 : -(2 ^ 62) ≤ j) (h1 : j < 2 ^ 62) (Pv : Nat → L2.St → Hp → Prop) (hp : Pv 0 σ H)
    (hs : ∀ (i : Nat) σ H, (i : Int) < j → Pv i σ H → g (.int (i : Int)) σ H fun σ2 H2 => tb { D with nx := Pv (i + 1), ct := Pv (i + 1), bk := D.nx } σ2 H2) (hd : ∀ σ H, Pv j.toNat σ H → D.nx σ H) : tFor (iRng1 ta) g tb D σ H :=
  hta _ ⟨j, rfl, h0, h1, for_range (lo := 0) (n := j.toNat) Pv hp (fun i σ H hi pv => by
    rw [Int.zero_add]
    exact hs i σ H (by omega) pv) hd⟩

/-! ### heappush, heappop over lists of ints -/
section
open PySem.AutoSeq1 PySem.MeetsSeq
def vals (ps : Array (Int × Tok)) : Array Value := ps.map fun p => Value.int p.1 p.2
theorem vals_size {ps : Array (Int × Tok)} : (vals ps).size = ps.size := Array.size_map ..
theorem vals_get {ps : Array (Int × Tok)} {i : Nat} (h : i < ps.size) : (vals ps)[i]? = some (Value.int ps[i].1 ps[i].2) := by
  unfold vals
  rw [Array.getElem?_map, Array.getElem?_eq_getElem h]
  rfl
theorem plain_sift : plainId "_heapq.heapify.sift" = true := by decide +kernel
theorem entry_sift : entryFor table "_heapq.heapify.sift" = some Builtin.«_heapq.heapify.sift» := entryFor_of_fast (by kernel_rfl)
def upS (l : Addr) (r : Value) (ps qs : Array (Int × Tok)) (n : Nat) : PySem.Spec := fun _ R s => s.heap.get? l = some { cls := .type "list", dict := none, data := .seq (vals ps) n, slots := #[] } ∧
  ∀ h' n' t', h'.get? l = some { cls := .type "list", dict := none, data := .seq (vals qs) n', slots := #[] } → (∀ b u, b ≠ l → s.heap.get? b = some u → h'.get? b = some u) → h'.objs.size = s.heap.objs.size → R (.ok (.ret r)) { s with heap := h', toks := t' }
def up (ps : Array (Int × Tok)) (pos : Nat) : Array (Int × Tok) :=
  if h : 0 < pos ∧ pos < ps.size then
    if ps[pos].1 < (ps[(pos - 1) / 2]'(by omega)).1 then up ((ps.setIfInBounds ((pos - 1) / 2) ps[pos]).setIfInBounds pos (ps[(pos - 1) / 2]'(by omega))) ((pos - 1) / 2) else ps
  else ps
termination_by pos
decreasing_by omega
theorem rc_lt {prog : Program} {w : World} {A : Around} {Q : Value → Shared → Prop} {E : Value → Shared → Prop} {s : Shared} {a b : Int} {t u : Tok} (h : Q (.bool (decide (a < b))) s) : wpAny (model prog w) A (richCompare .Lt (.int a t) (.int b u)) Q E s := PySem.P.lt_int h
theorem sift_up (l : Addr) (r : Value) (pos : Nat) : ∀ (ps : Array (Int × Tok)) (n : Nat), pos < ps.size → ps.size ≤ 100001 → Meets (Builtin.«_heapq.heapify.sift» ⟨[.ref l, .bool false, .bool false, rawInt (pos : Nat), rawInt (0 : Nat), r, rawInt (-1)], []⟩) (upS l r ps (up ps pos) n) := by
  induction pos using Nat.strongRecOn with
  | ind pos ih =>
    intro ps n hps hz prog w A R s h
    obtain ⟨hp, g, d, tk, os⟩ := s
    obtain ⟨hl, h⟩ := h
    have hz2 : (vals ps).size ≤ sizeLine := by rw [vals_size, sizeLine_eq]; omega
    wp_walk using wpAny_loadPart' hl
    by_cases hpos : 0 < pos
    · rw [if_pos (show ((pos : Nat) : Int).toNat > ((0 : Nat) : Int).toNat by rw [Int.toNat_natCast, Int.toNat_natCast]; exact hpos)]
      have hpar : (pos - 1) / 2 < ps.size := by omega
      simp only [Int.toNat_natCast]
      wp_walk
      rw [vals_get hps]
      wp_walk
      rw [vals_get hpar]
      wp_walk using rc_lt, wpAny_loadPart' hl
      by_cases c : ps[pos].1 < (ps[(pos - 1) / 2]).1
      · rw [if_pos (decide_eq_true c)]
        have e : up ps pos = up ((ps.setIfInBounds ((pos - 1) / 2) ps[pos]).setIfInBounds pos ps[(pos - 1) / 2]) ((pos - 1) / 2) := by
          rw [up, dif_pos ⟨hpos, hps⟩, if_pos c]
        have hz3 : (((vals ps).setIfInBounds ((pos - 1) / 2) (Value.int ps[pos].1 ps[pos].2)).setIfInBounds pos (Value.int (ps[(pos - 1) / 2]).1 (ps[(pos - 1) / 2]).2)).size ≤ sizeLine + 1 := by
          rw [Array.size_setIfInBounds, Array.size_setIfInBounds]
          omega
        wp_walk using wpAny_loadPart' hl
        rw [vals_get hpar]
        wp_walk
        rw [vals_get hps]
        wp_walk using (wpAny_updateSeq hl rfl (hz := hz2) (_hz' := hz3))
        have ev : vals ((ps.setIfInBounds ((pos - 1) / 2) ps[pos]).setIfInBounds pos ps[(pos - 1) / 2]) = ((vals ps).setIfInBounds ((pos - 1) / 2) (Value.int ps[pos].1 ps[pos].2)).setIfInBounds pos (Value.int (ps[(pos - 1) / 2]).1 (ps[(pos - 1) / 2]).2) := by
          unfold vals
          rw [Array.map_setIfInBounds, Array.map_setIfInBounds]
        have g1 := PySem.IsL.update hl (fun xs => (xs.setIfInBounds ((pos - 1) / 2) (Value.int ps[pos].1 ps[pos].2)).setIfInBounds pos (Value.int (ps[(pos - 1) / 2]).1 (ps[(pos - 1) / 2]).2))
        rw [← ev] at g1
        rw [e] at h
        exact ⟨plainId_quiet plain_sift _, codeAny_builtin entry_sift (by
          rw [Around.under_plainId plain_sift _]
          exact ih ((pos - 1) / 2) (by omega) _ _ (by rw [Array.size_setIfInBounds, Array.size_setIfInBounds]; exact hpar) (by rw [Array.size_setIfInBounds, Array.size_setIfInBounds]; exact hz) prog w A R _
            ⟨g1, fun h' n' t' a1 a2 a3 => h h' n' t' a1 (fun b u hb hu => a2 b u hb ((Heap.get?_update_other hp _ (Ne.symm hb)).trans hu)) (a3.trans (by simp [Heap.update]))⟩)⟩
      · rw [if_neg (by rw [decide_eq_true_eq]; exact c)]
        have e : up ps pos = ps := by
          rw [up, dif_pos ⟨hpos, hps⟩, if_neg c]
        rw [e] at h
        wp_walk
        exact h hp n tk hl (fun _ _ _ z => z) rfl
    · rw [if_neg (show ¬ ((pos : Nat) : Int).toNat > ((0 : Nat) : Int).toNat by rw [Int.toNat_natCast, Int.toNat_natCast]; exact hpos)]
      have e : up ps pos = ps := by
        unfold up
        rw [dif_neg (by omega)]
      rw [e] at h
      wp_walk
      exact h hp n tk hl (fun _ _ _ z => z) rfl
/-- the key at a place -/
def key (ps : Array (Int × Tok)) (i : Nat) : Int := (ps.getD i (0, 0)).1
theorem key_get {ps : Array (Int × Tok)} {i : Nat} (h : i < ps.size) : ps[i].1 = key ps i := by
  unfold key
  rw [Array.getD_eq_getD_getElem?, Array.getElem?_eq_getElem h]
  rfl
theorem key_set {ps : Array (Int × Tok)} {j : Nat} {y : Int × Tok} (h : j < ps.size) (i : Nat) : key (ps.setIfInBounds j y) i = if i = j then y.1 else key ps i := by
  unfold key
  rw [Array.getD_eq_getD_getElem?, Array.getD_eq_getD_getElem?, Array.getElem?_setIfInBounds]
  by_cases e : i = j
  · subst e
    rw [if_pos rfl, if_pos rfl, if_pos h]
    rfl
  · rw [if_neg (Ne.symm e), if_neg e]
def HpBut (ps : Array (Int × Tok)) (pos : Nat) : Prop := ∀ i, 0 < i → i < ps.size → i ≠ pos → key ps ((i - 1) / 2) ≤ key ps i
def IsHp (ps : Array (Int × Tok)) : Prop := ∀ i, 0 < i → i < ps.size → key ps ((i - 1) / 2) ≤ key ps i
theorem up_heap (pos : Nat) : ∀ ps : Array (Int × Tok), pos < ps.size → HpBut ps pos → (0 < pos → ∀ i, i < ps.size → 0 < i → (i - 1) / 2 = pos → key ps ((pos - 1) / 2) ≤ key ps i) → IsHp (up ps pos) := by
  induction pos using Nat.strongRecOn with
  | ind pos ih =>
    intro ps hps h1 h2
    by_cases hpos : 0 < pos
    · have hpar : (pos - 1) / 2 < ps.size := by omega
      by_cases c : ps[pos].1 < (ps[(pos - 1) / 2]).1
      · rw [up, dif_pos ⟨hpos, hps⟩, if_pos c]
        rw [key_get, key_get] at c
        have k1 : ∀ i, key ((ps.setIfInBounds ((pos - 1) / 2) ps[pos]).setIfInBounds pos ps[(pos - 1) / 2]) i = if i = pos then key ps ((pos - 1) / 2) else if i = (pos - 1) / 2 then key ps pos else key ps i := fun i => by
          rw [key_set (by rw [Array.size_setIfInBounds]; exact hps), key_set hpar, key_get, key_get]
        have sz : ((ps.setIfInBounds ((pos - 1) / 2) ps[pos]).setIfInBounds pos ps[(pos - 1) / 2]).size = ps.size := by rw [Array.size_setIfInBounds, Array.size_setIfInBounds]
        refine ih ((pos - 1) / 2) (by omega) _ (by rw [sz]; exact hpar) (fun i i0 i1 i2 => ?_) (fun p0 i i1 i0 i2 => ?_)
        · rw [sz] at i1
          rw [k1, k1]
          by_cases e : i = pos
          · subst e
            rw [if_neg (by omega), if_pos rfl, if_pos rfl]
            exact Int.le_of_lt c
          · rw [if_neg e, if_neg i2]
            have g := h1 i i0 i1 e
            by_cases e2 : (i - 1) / 2 = pos
            · rw [if_pos e2]
              exact h2 hpos i i1 i0 e2
            · rw [if_neg e2]
              by_cases e3 : (i - 1) / 2 = (pos - 1) / 2
              · rw [if_pos e3]
                rw [e3] at g
                omega
              · rw [if_neg e3]
                exact g
        · rw [sz] at i1
          rw [k1, k1, if_neg (by omega), if_neg (by omega)]
          have g := h1 ((pos - 1) / 2) p0 hpar (by omega)
          by_cases e : i = pos
          · rw [if_pos e]
            exact g
          · rw [if_neg e, if_neg (by omega)]
            have g2 := h1 i i0 i1 e
            rw [i2] at g2
            omega
      · rw [up, dif_pos ⟨hpos, hps⟩, if_neg c]
        rw [key_get, key_get] at c
        intro i i0 i1
        by_cases e : i = pos
        · subst e
          omega
        · exact h1 i i0 i1 e
    · rw [up, dif_neg (by omega)]
      exact fun i i0 i1 => h1 i i0 i1 (by omega)
theorem up_perm (pos : Nat) : ∀ ps : Array (Int × Tok), (up ps pos).toList.Perm ps.toList := by
  induction pos using Nat.strongRecOn with
  | ind pos ih =>
    intro ps
    by_cases h : 0 < pos ∧ pos < ps.size
    · have hpar : (pos - 1) / 2 < ps.size := by omega
      by_cases c : ps[pos].1 < (ps[(pos - 1) / 2]).1
      · rw [up, dif_pos h, if_pos c]
        refine (ih ((pos - 1) / 2) (by omega) _).trans ?_
        have e : (ps.setIfInBounds ((pos - 1) / 2) ps[pos]).setIfInBounds pos ps[(pos - 1) / 2] = ps.swap ((pos - 1) / 2) pos hpar h.2 := by
          simp [Array.swap_def, Array.setIfInBounds, hpar, h.2]
        rw [e]
        exact (Array.swap_perm hpar h.2).toList
      · rw [up, dif_pos h, if_neg c]
    · rw [up, dif_neg h]
theorem sub_tt : isSubtype (.type "tuple") (.type "tuple") = pure true := PySem.AutoSeq1.sub_tuple_tuple
theorem push_meets (l : Addr) (x : Int) (t : Tok) (ps : Array (Int × Tok)) (n : Nat) (hz : ps.size ≤ 100000) : Meets (Builtin.«_heapq.heappush» ⟨[.ref l, .int x t], []⟩) (upS l .none ps (up (ps.push (x, t)) ps.size) n) := by
  intro prog w A R s h
  obtain ⟨hp, g, d, tk, os⟩ := s
  obtain ⟨hl, h⟩ := h
  have f1 := idx_int
  have f2 := sub_tt
  have f3 := PySem.AutoSeq1.sub_list_list
  have f4 := PySem.AutoSeq1.sub_tuple_list
  have f5 := PySem.AutoSeq1.sub_list_tuple
  have hz' : ((vals ps).push (.int x t)).size ≤ sizeLine + 1 := by rw [Array.size_push, sizeLine_eq, vals_size]; omega
  have hz2 : (vals ps).size ≤ sizeLine := by rw [sizeLine_eq, vals_size]; omega
  have ev : vals (ps.push (x, t)) = (vals ps).push (.int x t) := by
    unfold vals
    rw [Array.map_push]
  have g1 := PySem.IsL.update hl (fun xs => xs.push (.int x t))
  rw [← ev] at g1
  wp_walk using (wpAny_updateSeq hl rfl (hz := hz2) (_hz' := hz')), wpAny_loadPart' hl, wpAny_loadPart' g1
  refine ⟨plainId_quiet plain_sift _, codeAny_builtin entry_sift ?_⟩
  rw [Around.under_plainId plain_sift _]
  have e : (vals (ps.push (x, t))).size - 1 = ps.size := by rw [vals_size, Array.size_push]; rfl
  rw [e]
  exact sift_up l _ ps.size (ps.push (x, t)) _ (by rw [Array.size_push]; omega) (by rw [Array.size_push]; omega) prog w A R _
    ⟨g1, fun h' n' t' a1 a2 a3 => h h' n' t' a1 (fun b u hb hu => a2 b u hb ((Heap.get?_update_other hp _ (Ne.symm hb)).trans hu)) (a3.trans (by simp [Heap.update]))⟩
/-- two places change -/
def sw (ps : Array (Int × Tok)) (i j : Nat) : Array (Int × Tok) := (ps.setIfInBounds i (ps.getD j (0, 0))).setIfInBounds j (ps.getD i (0, 0))
theorem sw_size {ps : Array (Int × Tok)} {i j : Nat} : (sw ps i j).size = ps.size := by
  unfold sw
  rw [Array.size_setIfInBounds, Array.size_setIfInBounds]
theorem getD_get {ps : Array (Int × Tok)} {i : Nat} (h : i < ps.size) : ps.getD i (0, 0) = ps[i] := by
  rw [Array.getD_eq_getD_getElem?, Array.getElem?_eq_getElem h]
  rfl
theorem sw_key {ps : Array (Int × Tok)} {i j : Nat} (hi : i < ps.size) (hj : j < ps.size) (k : Nat) : key (sw ps i j) k = if k = j then key ps i else if k = i then key ps j else key ps k := by
  unfold sw
  rw [key_set (by rw [Array.size_setIfInBounds]; exact hj), key_set hi]
  rfl
theorem sw_perm {ps : Array (Int × Tok)} {i j : Nat} (hi : i < ps.size) (hj : j < ps.size) : (sw ps i j).toList.Perm ps.toList := by
  have e : sw ps i j = ps.swap i j hi hj := by
    unfold sw
    rw [getD_get hi, getD_get hj]
    simp [Array.swap_def, Array.setIfInBounds, hi, hj]
  rw [e]
  exact (Array.swap_perm hi hj).toList
theorem sw_vals {ps : Array (Int × Tok)} {i j : Nat} (hi : i < ps.size) (hj : j < ps.size) : vals (sw ps i j) = ((vals ps).setIfInBounds i (Value.int ps[j].1 ps[j].2)).setIfInBounds j (Value.int ps[i].1 ps[i].2) := by
  unfold sw vals
  rw [getD_get hi, getD_get hj, Array.map_setIfInBounds, Array.map_setIfInBounds]
def dnC (ps : Array (Int × Tok)) (pos : Nat) : Nat := if 2 * pos + 1 + 1 < ps.size ∧ ¬ key ps (2 * pos + 1) < key ps (2 * pos + 1 + 1) then 2 * pos + 1 + 1 else 2 * pos + 1
theorem dnC_lt {ps : Array (Int × Tok)} {pos : Nat} (h : pos < ps.size / 2) : dnC ps pos < ps.size ∧ pos < dnC ps pos := by
  unfold dnC
  split <;> omega
def dn (ps : Array (Int × Tok)) (pos : Nat) : Array (Int × Tok) := if h : pos < ps.size / 2 then dn (sw ps (dnC ps pos) pos) (dnC ps pos) else up ps pos
termination_by ps.size - pos
decreasing_by
  have := dnC_lt h
  rw [sw_size]
  omega
theorem dn_perm (k : Nat) : ∀ (ps : Array (Int × Tok)) (pos : Nat), ps.size - pos = k → (dn ps pos).toList.Perm ps.toList := by
  induction k using Nat.strongRecOn with
  | ind k ih =>
    intro ps pos hk
    by_cases h : pos < ps.size / 2
    · have hc := dnC_lt h
      rw [dn, dif_pos h]
      exact (ih (ps.size - dnC ps pos) (by omega) (sw ps (dnC ps pos) pos) (dnC ps pos) (by rw [sw_size])).trans (sw_perm hc.1 (by omega))
    · rw [dn, dif_neg h]
      exact up_perm pos ps
theorem dn_heap (k : Nat) : ∀ (ps : Array (Int × Tok)) (pos : Nat), ps.size - pos = k → pos < ps.size → (∀ i, 0 < i → i < ps.size → i ≠ pos → (i - 1) / 2 ≠ pos → key ps ((i - 1) / 2) ≤ key ps i) →
    (0 < pos → ∀ i, i < ps.size → 0 < i → (i - 1) / 2 = pos → key ps ((pos - 1) / 2) ≤ key ps i) → IsHp (dn ps pos) := by
  induction k using Nat.strongRecOn with
  | ind k ih =>
    intro ps pos hk hp h1 h2
    by_cases h : pos < ps.size / 2
    · have hc := dnC_lt h
      have sm : ∀ i, i < ps.size → 0 < i → (i - 1) / 2 = pos → key ps (dnC ps pos) ≤ key ps i := fun i i1 i0 e => by
        have e2 : i = 2 * pos + 1 ∨ i = 2 * pos + 1 + 1 := by omega
        unfold dnC
        rcases e2 with rfl | rfl
        · split <;> omega
        · split
          · exact Int.le_refl _
          · rename_i g
            have g2 : key ps (2 * pos + 1) < key ps (2 * pos + 1 + 1) := Classical.byContradiction fun z => g ⟨i1, z⟩
            omega
      have pc : (dnC ps pos - 1) / 2 = pos := by
        unfold dnC
        split <;> omega
      rw [dn, dif_pos h]
      refine ih (ps.size - dnC ps pos) (by omega) (sw ps (dnC ps pos) pos) (dnC ps pos) (by rw [sw_size]) (by rw [sw_size]; exact hc.1) (fun i i0 i1 i2 i3 => ?_) (fun p0 i i1 i0 i2 => ?_)
      · rw [sw_size] at i1
        rw [sw_key hc.1 hp, sw_key hc.1 hp, if_neg i3, if_neg i2]
        by_cases e : i = pos
        · subst e
          rw [if_neg (by omega), if_pos rfl]
          exact h2 i0 _ hc.1 (by omega) pc
        · rw [if_neg e]
          by_cases e2 : (i - 1) / 2 = pos
          · rw [if_pos e2]
            exact sm i i1 i0 e2
          · rw [if_neg e2]
            exact h1 i i0 i1 e e2
      · rw [sw_size] at i1
        rw [sw_key hc.1 hp, sw_key hc.1 hp, pc, if_pos rfl, if_neg (by omega), if_neg (by omega)]
        have g := h1 i i0 i1 (by omega) (by omega)
        rw [i2] at g
        exact g
    · rw [dn, dif_neg h]
      exact up_heap pos ps hp (fun i i0 i1 i2 => h1 i i0 i1 i2 (by omega)) (fun p0 i i1 i0 i2 => by omega)
theorem sift_dn (l : Addr) (r : Value) (k : Nat) : ∀ (ps : Array (Int × Tok)) (pos : Nat) (n : Nat), ps.size - pos = k → pos < ps.size → ps.size ≤ 100001 →
    Meets (Builtin.«_heapq.heapify.sift» ⟨[.ref l, .bool false, .bool true, rawInt (pos : Nat), rawInt (0 : Nat), r, rawInt (-1)], []⟩) (upS l r ps (dn ps pos) n) := by
  induction k using Nat.strongRecOn with
  | ind k ih =>
    intro ps pos n hk hps hz prog w A R s h
    obtain ⟨hp, g, d, tk, os⟩ := s
    obtain ⟨hl, h⟩ := h
    have hz2 : (vals ps).size ≤ sizeLine := by rw [vals_size, sizeLine_eq]; omega
    wp_walk using wpAny_loadPart' hl
    by_cases hpos : pos < ps.size / 2
    · rw [if_pos (show ((pos : Nat) : Int).toNat < (vals ps).size / 2 by rw [Int.toNat_natCast, vals_size]; exact hpos)]
      simp only [Int.toNat_natCast]
      have hl2 : 2 * pos + 1 < ps.size := by omega
      wp_walk
      by_cases c1 : 2 * pos + 1 + 1 < ps.size
      · rw [if_pos (show 2 * pos + 1 + 1 < (vals ps).size by rw [vals_size]; exact c1)]
        wp_walk
        rw [vals_get hl2]
        wp_walk
        rw [vals_get c1]
        wp_walk using rc_lt, wpAny_loadPart' hl
        by_cases c2 : ¬ key ps (2 * pos + 1) < key ps (2 * pos + 1 + 1)
        · have c3 : (!decide ((ps[2 * pos + 1]).1 < (ps[2 * pos + 1 + 1]).1)) = true := by
            rw [key_get, key_get, decide_eq_false c2] <;> rfl
          rw [if_pos c3]
          have ec : dnC ps pos = 2 * pos + 1 + 1 := by
            unfold dnC
            rw [if_pos ⟨c1, c2⟩]
          have hc1 : 2 * pos + 1 + 1 < ps.size := by omega
          have g1 := PySem.IsL.update hl (fun xs => (xs.setIfInBounds (2 * pos + 1 + 1) (Value.int ps[pos].1 ps[pos].2)).setIfInBounds pos (Value.int (ps[2 * pos + 1 + 1]).1 (ps[2 * pos + 1 + 1]).2))
          rw [← sw_vals hc1 hps] at g1
          rw [dn, dif_pos hpos] at h
          have hz3 : (((vals ps).setIfInBounds (2 * pos + 1 + 1) (Value.int ps[pos].1 ps[pos].2)).setIfInBounds pos (Value.int (ps[2 * pos + 1 + 1]).1 (ps[2 * pos + 1 + 1]).2)).size ≤ sizeLine + 1 := by
            rw [Array.size_setIfInBounds, Array.size_setIfInBounds]
            omega
          wp_walk using wpAny_loadPart' hl
          rw [vals_get hc1]
          wp_walk
          rw [vals_get hps]
          wp_walk using (wpAny_updateSeq hl rfl (hz := hz2) (_hz' := hz3))
          refine ⟨plainId_quiet plain_sift _, codeAny_builtin entry_sift ?_⟩
          rw [Around.under_plainId plain_sift _]
          have key2 := fun n2 => ih (ps.size - dnC ps pos) (by have := dnC_lt hpos; omega) (sw ps (dnC ps pos) pos) (dnC ps pos) n2 (by rw [sw_size]) (by rw [sw_size]; exact (dnC_lt hpos).1) (by rw [sw_size]; exact hz) prog w A R
          rw [ec] at key2 h
          exact key2 _ _ ⟨g1, fun h' n' t' a1 a2 a3 => h h' n' t' a1 (fun b u hb hu => a2 b u hb ((Heap.get?_update_other hp _ (Ne.symm hb)).trans hu)) (a3.trans (by simp [Heap.update]))⟩
        · have c3 : ¬ (!decide ((ps[2 * pos + 1]).1 < (ps[2 * pos + 1 + 1]).1)) = true := by
            rw [key_get, key_get, decide_eq_true (Classical.not_not.mp c2)]
            decide
          rw [if_neg c3]
          have ec : dnC ps pos = 2 * pos + 1 := by
            unfold dnC
            rw [if_neg (fun z => z.2 (Classical.not_not.mp c2))]
          have hc1 : 2 * pos + 1 < ps.size := by omega
          have g1 := PySem.IsL.update hl (fun xs => (xs.setIfInBounds (2 * pos + 1) (Value.int ps[pos].1 ps[pos].2)).setIfInBounds pos (Value.int (ps[2 * pos + 1]).1 (ps[2 * pos + 1]).2))
          rw [← sw_vals hc1 hps] at g1
          rw [dn, dif_pos hpos] at h
          have hz3 : (((vals ps).setIfInBounds (2 * pos + 1) (Value.int ps[pos].1 ps[pos].2)).setIfInBounds pos (Value.int (ps[2 * pos + 1]).1 (ps[2 * pos + 1]).2)).size ≤ sizeLine + 1 := by
            rw [Array.size_setIfInBounds, Array.size_setIfInBounds]
            omega
          wp_walk using wpAny_loadPart' hl
          rw [vals_get hc1]
          wp_walk
          rw [vals_get hps]
          wp_walk using (wpAny_updateSeq hl rfl (hz := hz2) (_hz' := hz3))
          refine ⟨plainId_quiet plain_sift _, codeAny_builtin entry_sift ?_⟩
          rw [Around.under_plainId plain_sift _]
          have key2 := fun n2 => ih (ps.size - dnC ps pos) (by have := dnC_lt hpos; omega) (sw ps (dnC ps pos) pos) (dnC ps pos) n2 (by rw [sw_size]) (by rw [sw_size]; exact (dnC_lt hpos).1) (by rw [sw_size]; exact hz) prog w A R
          rw [ec] at key2 h
          exact key2 _ _ ⟨g1, fun h' n' t' a1 a2 a3 => h h' n' t' a1 (fun b u hb hu => a2 b u hb ((Heap.get?_update_other hp _ (Ne.symm hb)).trans hu)) (a3.trans (by simp [Heap.update]))⟩
      · rw [if_neg (show ¬ 2 * pos + 1 + 1 < (vals ps).size by rw [vals_size]; exact c1)]
        have ec : dnC ps pos = 2 * pos + 1 := by
          unfold dnC
          rw [if_neg (fun z => c1 z.1)]
        have hc1 : 2 * pos + 1 < ps.size := by omega
        have g1 := PySem.IsL.update hl (fun xs => (xs.setIfInBounds (2 * pos + 1) (Value.int ps[pos].1 ps[pos].2)).setIfInBounds pos (Value.int (ps[2 * pos + 1]).1 (ps[2 * pos + 1]).2))
        rw [← sw_vals hc1 hps] at g1
        rw [dn, dif_pos hpos] at h
        have hz3 : (((vals ps).setIfInBounds (2 * pos + 1) (Value.int ps[pos].1 ps[pos].2)).setIfInBounds pos (Value.int (ps[2 * pos + 1]).1 (ps[2 * pos + 1]).2)).size ≤ sizeLine + 1 := by
          rw [Array.size_setIfInBounds, Array.size_setIfInBounds]
          omega
        wp_walk using wpAny_loadPart' hl
        rw [vals_get hc1]
        wp_walk
        rw [vals_get hps]
        wp_walk using (wpAny_updateSeq hl rfl (hz := hz2) (_hz' := hz3))
        refine ⟨plainId_quiet plain_sift _, codeAny_builtin entry_sift ?_⟩
        rw [Around.under_plainId plain_sift _]
        have key2 := fun n2 => ih (ps.size - dnC ps pos) (by have := dnC_lt hpos; omega) (sw ps (dnC ps pos) pos) (dnC ps pos) n2 (by rw [sw_size]) (by rw [sw_size]; exact (dnC_lt hpos).1) (by rw [sw_size]; exact hz) prog w A R
        rw [ec] at key2 h
        exact key2 _ _ ⟨g1, fun h' n' t' a1 a2 a3 => h h' n' t' a1 (fun b u hb hu => a2 b u hb ((Heap.get?_update_other hp _ (Ne.symm hb)).trans hu)) (a3.trans (by simp [Heap.update]))⟩
    · rw [if_neg (show ¬ ((pos : Nat) : Int).toNat < (vals ps).size / 2 by rw [Int.toNat_natCast, vals_size]; exact hpos)]
      rw [dn, dif_neg hpos] at h
      wp_walk
      refine ⟨plainId_quiet plain_sift _, codeAny_builtin entry_sift ?_⟩
      rw [Around.under_plainId plain_sift _]
      exact sift_up l r pos ps n hps hz prog w A R _ ⟨hl, h⟩
end
section
open PySem.AutoSeq1 PySem.MeetsSeq
theorem pop_meets1 (l : Addr) (x : Int) (t : Tok) (n : Nat) : Meets (Builtin.«_heapq.heappop» ⟨[.ref l], []⟩) (upS l (.int x t) #[(x, t)] #[] n) := by
  intro prog w A R s h
  obtain ⟨hp, g, d, tk, os⟩ := s
  obtain ⟨hl, h⟩ := h
  have f2 := sub_tt
  have f3 := PySem.AutoSeq1.sub_list_list
  have f4 := PySem.AutoSeq1.sub_tuple_list
  have f5 := PySem.AutoSeq1.sub_list_tuple
  have eb : (vals #[(x, t)]).back? = some (.int x t) := by
    unfold vals
    simp
  have g1 := PySem.IsL.update hl (fun xs => xs.pop)
  have hz2 : (vals #[(x, t)]).size ≤ sizeLine := by rw [vals_size, sizeLine_eq]; simp
  have hz3 : ((vals #[(x, t)]).pop).size ≤ sizeLine + 1 := by rw [Array.size_pop, vals_size, sizeLine_eq]; simp
  have ep : (vals #[(x, t)]).pop = vals #[] := by
    unfold vals
    simp
  rw [ep] at g1
  wp_walk using wpAny_loadPart' hl
  rw [eb]
  wp_walk using (wpAny_updateSeq hl rfl (hz := hz2) (_hz' := hz3)), wpAny_loadPart' hl
  rw [if_pos (show ((vals #[(x, t)]).size == 1) = true by rw [vals_size]; rfl)]
  wp_walk
  exact h _ _ _ g1 (fun b u hb hu => (Heap.get?_update_other hp _ (Ne.symm hb)).trans hu) (by simp [Heap.update])
theorem pop_meets (l : Addr) (x y : Int) (t u : Tok) (ps : Array (Int × Tok)) (n : Nat) (hz : ps.size ≤ 100000) :
    Meets (Builtin.«_heapq.heappop» ⟨[.ref l], []⟩) (upS l (.int x t) (#[(x, t)] ++ ps ++ #[(y, u)]) (dn (#[(y, u)] ++ ps) 0) n) := by
  intro prog w A R s h
  obtain ⟨hp, g, d, tk, os⟩ := s
  obtain ⟨hl, h⟩ := h
  have f2 := sub_tt
  have f3 := PySem.AutoSeq1.sub_list_list
  have f4 := PySem.AutoSeq1.sub_tuple_list
  have f5 := PySem.AutoSeq1.sub_list_tuple
  have eb : (vals (#[(x, t)] ++ ps ++ #[(y, u)])).back? = some (.int y u) := by
    unfold vals
    simp
  have e0 : (vals (#[(x, t)] ++ ps ++ #[(y, u)]))[0]? = some (.int x t) := by
    unfold vals
    rw [Array.map_append, Array.map_append, Array.append_assoc, Array.getElem?_append_left (by simp)]
    simp
  have ep : (vals (#[(x, t)] ++ ps ++ #[(y, u)])).pop = vals (#[(x, t)] ++ ps) := by
    unfold vals
    simp
  have es : (vals (#[(x, t)] ++ ps)).setIfInBounds 0 (.int y u) = vals (#[(y, u)] ++ ps) := by
    unfold vals
    apply Array.ext'
    simp [Array.toList_setIfInBounds]
  have sz : (vals (#[(x, t)] ++ ps ++ #[(y, u)])).size = ps.size + 2 := by
    rw [vals_size]
    simp
    omega
  have sz2 : (vals (#[(x, t)] ++ ps)).size = ps.size + 1 := by
    rw [vals_size]
    simp
    omega
  have sz3 : (vals (#[(y, u)] ++ ps)).size = ps.size + 1 := by
    rw [vals_size]
    simp
    omega
  have g1 := PySem.IsL.update hl (fun xs => xs.pop)
  rw [ep] at g1
  have g2 := PySem.IsL.update g1 (fun xs => xs.setIfInBounds 0 (.int y u))
  rw [es] at g2
  have hz2 : (vals (#[(x, t)] ++ ps ++ #[(y, u)])).size ≤ sizeLine := by rw [sz, sizeLine_eq]; omega
  have hz3 : ((vals (#[(x, t)] ++ ps ++ #[(y, u)])).pop).size ≤ sizeLine + 1 := by rw [ep, sz2, sizeLine_eq]; omega
  have hz4 : (vals (#[(x, t)] ++ ps)).size ≤ sizeLine := by rw [sz2, sizeLine_eq]; omega
  have hz5 : ((vals (#[(x, t)] ++ ps)).setIfInBounds 0 (.int y u)).size ≤ sizeLine + 1 := by rw [es, sz3, sizeLine_eq]; omega
  have ne1 : ((vals (#[(x, t)] ++ ps ++ #[(y, u)])).size == 1) = false := by
    rw [sz]
    simp
  wp_walk using wpAny_loadPart' hl
  rw [eb]
  wp_walk using (wpAny_updateSeq hl rfl (hz := hz2) (_hz' := hz3)), wpAny_loadPart' hl
  rw [ne1]
  rw [if_neg (by decide)]
  wp_walk
  rw [e0]
  wp_walk using (wpAny_updateSeq g1 rfl (hz := hz4) (_hz' := hz5)), wpAny_loadPart' hl
  refine ⟨plainId_quiet plain_sift _, codeAny_builtin entry_sift ?_⟩
  rw [Around.under_plainId plain_sift _]
  exact sift_dn l (.int x t) ((#[(y, u)] ++ ps).size - 0) (#[(y, u)] ++ ps) 0 _ rfl (by simp; omega) (by simp; omega) prog w A R _
    ⟨g2, fun h' n' t' a1 a2 a3 => h h' n' t' a1 (fun b v hb hv => a2 b v hb ((Heap.get?_update_other _ _ (Ne.symm hb)).trans ((Heap.get?_update_other hp _ (Ne.symm hb)).trans hv))) (a3.trans (by simp [Heap.update]))⟩
end
/-- a heap, as a list of ints -/
def HpL (xs : List Int) : Prop := ∀ i, 0 < i → i < xs.length → xs.getD ((i - 1) / 2) 0 ≤ xs.getD i 0
theorem HpL.nil : HpL [] := fun i _ h => absurd h (by simp)
theorem key_getD {ps : Array (Int × Tok)} {xs : List Int} (h : ps.toList.map (·.1) = xs) (i : Nat) : key ps i = xs.getD i 0 := by
  subst h
  unfold key
  by_cases e : i < ps.size
  · rw [getD_get e]
    simp [List.getD_eq_getElem?_getD, e]
  · simp [Array.getD_eq_getD_getElem?, List.getD_eq_getElem?_getD, e]
theorem hpL_iff {ps : Array (Int × Tok)} {xs : List Int} (h : ps.toList.map (·.1) = xs) : IsHp ps ↔ HpL xs := by
  have sz : xs.length = ps.size := by
    rw [← h]
    simp
  unfold IsHp HpL
  rw [sz]
  constructor
  · intro q i i0 i1
    have := q i i0 i1
    rwa [key_getD h, key_getD h] at this
  · intro q i i0 i1
    have := q i i0 i1
    rwa [key_getD h, key_getD h]
theorem HpL.least : ∀ {xs : List Int}, HpL xs → ∀ (i : Nat), i < xs.length → xs.getD 0 0 ≤ xs.getD i 0 := by
  intro xs h i
  induction i using Nat.strongRecOn with
  | ind i ih =>
    intro hi
    by_cases e : i = 0
    · rw [e]
      exact Int.le_refl _
    · have a := ih ((i - 1) / 2) (by omega) (by omega)
      have b := h i (by omega) hi
      omega
theorem HpL.head {x : Int} {xs : List Int} (h : HpL (x :: xs)) : ∀ y ∈ xs, x ≤ y := by
  intro y hy
  obtain ⟨i, hi⟩ := List.mem_iff_getElem?.mp hy
  have := h.least (i + 1) (by have := (List.getElem?_eq_some_iff.mp hi).1; simp; omega)
  simpa [List.getD_eq_getElem?_getD, hi] using this
/-- a list of ints as it stands on the heap -/
theorem ints_arr : ∀ {its : List Value} {ns : List Int}, Vals (ns.map V.int) its → ∃ ps : List (Int × Tok), its = (ps.map fun p => Value.int p.1 p.2) ∧ ps.map (·.1) = ns
  | [], [], _ => ⟨[], rfl, rfl⟩
  | u :: us, n :: ns, h => by
    cases h with
    | cons a b =>
      obtain ⟨t, rfl⟩ := a
      obtain ⟨ps, e1, e2⟩ := ints_arr b
      exact ⟨(n, t) :: ps, by rw [e1]; rfl, by simp [e2]⟩
  | [], n :: ns, h => by cases h
  | u :: us, [], h => by cases h
theorem arr_ints {ps : List (Int × Tok)} : Vals ((ps.map (·.1)).map V.int) (ps.map fun p => Value.int p.1 p.2) := by
  induction ps with
  | nil => exact .nil
  | cons p ps ih => exact .cons ⟨p.2, rfl⟩ ih
def rPush : List V → Hp → VK → Prop := fun vs H Q => ∃ (l : Addr) (x : Int) (xs : List Int), vs = [.ref l, .int x] ∧ H l = some (.lst (xs.map V.int)) ∧ xs.length ≤ 100000 ∧
  ∀ ys : List Int, ys.Perm (x :: xs) → (HpL xs → HpL ys) → Q .non (upd H l (.lst (ys.map V.int)))
def rPopH : List V → Hp → VK → Prop := fun vs H Q => ∃ (l : Addr) (x : Int) (xs : List Int), vs = [.ref l] ∧ H l = some (.lst ((x :: xs).map V.int)) ∧ xs.length ≤ 100000 ∧
  ∀ ys : List Int, ys.Perm xs → (HpL (x :: xs) → HpL ys) → Q (.int x) (upd H l (.lst (ys.map V.int)))
theorem kind_push : builtinKind "_heapq.heappush" = none := by decide +kernel
theorem plain_push : plainId "_heapq.heappush" = true := by decide +kernel
theorem entry_push : entryFor table "_heapq.heappush" = some Builtin.«_heapq.heappush» := entryFor_of_fast (by kernel_rfl)
theorem kind_popH : builtinKind "_heapq.heappop" = none := by decide +kernel
theorem plain_popH : plainId "_heapq.heappop" = true := by decide +kernel
theorem entry_popH : entryFor table "_heapq.heappop" = some Builtin.«_heapq.heappop» := entryFor_of_fast (by kernel_rfl)
theorem args_push (a b : Value) : argsOk "_heapq.heappush" ⟨[a, b], []⟩ := by
  unfold argsOk
  first | rfl | kernel_rfl
theorem args_popH (a : Value) : argsOk "_heapq.heappop" ⟨[a], []⟩ := by
  unfold argsOk
  first | rfl | kernel_rfl
section
variable {X : Cx}
theorem inv_frame {pins : List (Addr × Obj)} {σ : L2.St} {H : Hp} {s : Shared} {l : Addr} {xs : List V} {ys : List Int} {qs : Array (Int × Tok)} {h' : Heap} {n' t' : Nat} (I : Inv X pins σ H s) (hH : H l = some (.lst xs))
    (a1 : h'.get? l = some { cls := .type "list", dict := none, data := .seq (vals qs) n', slots := #[] }) (a2 : ∀ b u, b ≠ l → s.heap.get? b = some u → h'.get? b = some u) (e : qs.toList.map (·.1) = ys) (hz : ys.length ≤ sizeLine) :
    Inv X pins σ (upd H l (.lst (ys.map V.int))) { s with heap := h', toks := t' } := by
  refine I.write (x := l) (e := l) (by rw [hH]; exact trivial) (.inl rfl) a2 ⟨_, a1⟩ ?_
  refine ⟨by rw [List.length_map]; exact hz, qs.toList.map fun p => Value.int p.1 p.2, n', ?_, ?_⟩
  · subst e
    exact arr_ints
  · rw [a1]
    have : (qs.toList.map fun p => Value.int p.1 p.2).toArray = vals qs := by
      unfold vals
      apply Array.ext'
      simp
    rw [this]
theorem call_push : CallR X (.builtin "_heapq.heappush") rPush := by
  intro pins s σ H vs us Q I r h
  obtain ⟨l, x, xs, rfl, hH, hz, q⟩ := h
  obtain ⟨u1, u2, rfl, r1, r2⟩ := vals2 r
  cases r1
  obtain ⟨t, rfl⟩ := r2
  obtain ⟨z, its, n, rv, hl, e⟩ := I.lstM hH
  obtain ⟨ps, e1, e2⟩ := ints_arr rv
  subst e1
  have ev : (ps.map fun p => Value.int p.1 p.2).toArray = vals ps.toArray := by
    unfold vals
    simp
  rw [ev] at e
  have sz : ps.toArray.size = xs.length := by
    rw [← e2]
    simp
  refine call_function_meets kind_push plain_push entry_push (args_push _ _) (push_meets l x t ps.toArray n (by omega)) ⟨e, fun h' n' t' a1 a2 a3 => ?_⟩
  have hp := up_perm ps.toArray.size (ps.toArray.push (x, t))
  have hp2 : ((up (ps.toArray.push (x, t)) ps.toArray.size).toList.map (·.1)).Perm (x :: xs) := by
    refine (hp.map (·.1)).trans ?_
    rw [Array.toList_push, List.map_append, e2]
    exact List.perm_append_comm
  refine ⟨.non, _, inv_frame I hH a1 a2 rfl ?_, rfl, q _ hp2 fun h => ?_⟩
  · rw [hp2.length_eq, List.length_cons, sizeLine_eq]
    omega
  · refine (hpL_iff rfl).mp (up_heap _ _ (by rw [Array.size_push]; omega) (fun i i0 i1 i2 => ?_) (fun p0 i i1 i0 i2 => ?_))
    · rw [Array.size_push] at i1
      have ps2 : (ps.toArray.push (x, t)).toList.map (·.1) = xs ++ [x] := by
        rw [Array.toList_push, List.map_append, e2]
        rfl
      rw [key_getD ps2, key_getD ps2]
      have := h i i0 (by omega)
      have a1 : (xs ++ [x]).getD ((i - 1) / 2) 0 = xs.getD ((i - 1) / 2) 0 := by
        rw [List.getD_eq_getElem?_getD, List.getElem?_append_left (by omega), List.getD_eq_getElem?_getD]
      have a2 : (xs ++ [x]).getD i 0 = xs.getD i 0 := by
        rw [List.getD_eq_getElem?_getD, List.getElem?_append_left (by omega), List.getD_eq_getElem?_getD]
      rw [a1, a2]
      exact this
    · rw [Array.size_push] at i1
      omega
theorem call_popH : CallR X (.builtin "_heapq.heappop") rPopH := by
  intro pins s σ H vs us Q I r h
  obtain ⟨l, x, xs, rfl, hH, hz, q⟩ := h
  have er := Vals.ref1 r
  subst er
  obtain ⟨z, its, n, rv, hl, e⟩ := I.lstM hH
  obtain ⟨ps, e1, e2⟩ := ints_arr rv
  subst e1
  have ev : (ps.map fun p => Value.int p.1 p.2).toArray = vals ps.toArray := by
    unfold vals
    simp
  rw [ev] at e
  rcases List.eq_nil_or_concat xs with hx | ⟨zs, y, hx⟩
  · subst hx
    match ps, e2 with
    | [(x', t)], e2 =>
      have : x' = x := by simpa using e2
      subst this
      refine call_function_meets kind_popH plain_popH entry_popH (args_popH _) (pop_meets1 l x' t n) ⟨e, fun h' n' t' a1 a2 a3 => ?_⟩
      exact ⟨.int x', _, inv_frame I hH a1 a2 (ys := []) rfl (Nat.zero_le _), ⟨_, rfl⟩, q [] (List.Perm.refl _) fun _ => HpL.nil⟩
  · rw [List.concat_eq_append] at hx
    subst hx
    have : ∃ t qs u, ps = (x, t) :: qs ++ [(y, u)] ∧ qs.map (·.1) = zs := by
      match ps, e2 with
      | (x', t) :: ps', e2 =>
        rw [List.map_cons, List.cons.injEq] at e2
        obtain ⟨e3, e4⟩ := e2
        rcases List.eq_nil_or_concat ps' with h | ⟨qs, w, h⟩
        · subst h
          simp at e4
        · rw [List.concat_eq_append] at h
          subst h
          rw [List.map_append] at e4
          have h1 := List.append_inj' e4 (by simp)
          have h2 : w.1 = y := by simpa using h1.2
          subst e3
          subst h2
          exact ⟨t, qs, w.2, rfl, h1.1⟩
    obtain ⟨t, qs, u, rfl, eq⟩ := this
    have ea : ((x, t) :: qs ++ [(y, u)]).toArray = #[(x, t)] ++ qs.toArray ++ #[(y, u)] := by
      apply Array.ext'
      simp
    rw [ea] at e
    have sq : qs.toArray.size = zs.length := by
      rw [← eq]
      simp
    rw [List.length_append] at hz
    have hz1 : zs.length + 1 ≤ 100000 := hz
    refine call_function_meets kind_popH plain_popH entry_popH (args_popH _) (pop_meets l x y t u qs.toArray n (by omega)) ⟨e, fun h' n' t' a1 a2 a3 => ?_⟩
    have hp := dn_perm _ (#[(y, u)] ++ qs.toArray) 0 rfl
    have hp2 : ((dn (#[(y, u)] ++ qs.toArray) 0).toList.map (·.1)).Perm (zs ++ [y]) := by
      refine (hp.map (·.1)).trans ?_
      rw [Array.toList_append, List.map_append, List.toList_toArray, eq]
      exact List.perm_append_comm
    refine ⟨.int x, _, inv_frame I hH a1 a2 rfl ?_, ⟨_, rfl⟩, q _ hp2 fun h => ?_⟩
    · rw [hp2.length_eq, List.length_append, sizeLine_eq]
      show zs.length + 1 ≤ _
      omega
    · have ps2 : (#[(y, u)] ++ qs.toArray).toList.map (·.1) = y :: zs := by
        simp [eq]
      have sz2 : (#[(y, u)] ++ qs.toArray).size = zs.length + 1 := by
        simp
        rw [← eq]
        simp
      refine (hpL_iff rfl).mp (dn_heap _ _ 0 rfl (by omega) (fun i i0 i1 i2 i3 => ?_) (fun p0 => absurd p0 (by omega)))
      rw [key_getD ps2, key_getD ps2]
      rw [sz2] at i1
      have g : ∀ j, 0 < j → j < zs.length + 1 → (y :: zs).getD j 0 = (x :: (zs ++ [y])).getD j 0 := fun j j0 j1 => by
        obtain ⟨k, rfl⟩ : ∃ k, j = k + 1 := ⟨j - 1, by omega⟩
        rw [List.getD_cons_succ, List.getD_cons_succ, List.getD_eq_getElem?_getD, List.getD_eq_getElem?_getD, List.getElem?_append_left (by omega)]
      rw [g _ (by omega) (by omega), g _ i0 i1]
      exact h i i0 (by simp; omega)
end

/-! ### xs[:] = ys, sorted of a dict, d.get(k) -/
theorem PE.by {X : Cx} {e : Expr} {t t' : TE} (h : PE X e t) (w : ∀ σ H Q, t' σ H Q → t σ H Q) : PE X e t' := ⟨fun pins s σ H Q I q => h.run pins s σ H Q I (w σ H Q q)⟩
section
variable {pg : Program} {wd : World} {Ar : Around} {Er : Value → Shared → Prop} {sh : Shared}
/-- where a whole list is replaced: from its beginning to its end, by ones -/
theorem whole_bounds {k : Nat} : sliceBounds none none none k = ((0 : Int), (k : Int), 1) := by simp [sliceBounds]
theorem set_whole {p q c : Addr} {old fresh : Array Value} {e1 e2 : Nat} {u v : Value} {R : Unit → Shared → Prop}
    (hp : sh.heap.get? p = some { cls := .type "list", data := .seq old e1 }) (hq : sh.heap.get? q = some { cls := .type "list", data := .seq fresh e2 }) (pq : p ≠ q)
    (hc : sh.heap.IsSliceOf c u v .none) (hu : IsPart u none) (hv : IsPart v none) (fits : old.size + fresh.size ≤ sizeLine)
    (k : R () { sh with heap := sh.heap.update p (Obj.mapSeq fun xs => xs.extract 0 0 ++ fresh ++ xs.extract old.size xs.size) }) : wpAny (model pg wd) Ar (setItem (.ref p) (.ref c) (.ref q)) R Er sh := by
  have lp := PySem.IsL.isList hp
  have lq := PySem.IsL.isList hq
  obtain ⟨oc, gc, cc, dc⟩ := id hc
  have tc : sh.TypeIs (.ref c) "slice" := ⟨oc, gc, cc⟩
  have other : Builtin.List.listSameRef (.ref p) (.ref q) = false := by unfold Builtin.List.listSameRef; exact beq_eq_false_iff_ne.mpr pq
  have upTo : (max ((0 : Nat) : Int) (old.size : Int)).toNat = old.size := by omega
  have grows : ((fun xs : Array Value => xs.extract 0 0 ++ fresh ++ xs.extract old.size xs.size) old).size ≤ sizeLine + 1 := by simp only [Array.size_append, Array.size_extract]; omega
  unfold setItem
  with_reducible refine wpAny_holding (wpAny_bind (wpAny_sequenceKey lp.typeIs (by decide) (wpAny_bind (wpAny_callSpecial?_slot (name := Str.ofString "__setitem__") lp.typeIs slot_list_setitem (wpAny_call_entry slot_list_setitem lp.typeIs entry_list_setitem ?_ (args_list_setitem _ _ _))))))
  show wpAny _ _ (Builtin.List.listSubscript? (.ref c) >>= _) _ _ sh; refine wpAny_bind ?_
  unfold Builtin.List.listSubscript?; refine wpAny_bind (wpAny_specialOf tc slice_no_index ?_)
  simp only [Option.isNone_none, if_true]; refine wpAny_pure ?_
  show wpAny _ _ (typeOf (.ref c) >>= _) _ _ sh; refine wpAny_bind (wpAny_typeOf tc (PySem.W.KFB.if_not (by decide) ?_))
  rw [listSliceParts_eq]; refine wpAny_bind (wpAny_bind (wpAny_field gc dc (x := .none) rfl (wpAny_bind (wpAny_listPart .none ?_)))); rw [if_neg (show ¬ (rawPart none == rawInt 0) = true from Bool.false_ne_true)]
  refine wpAny_bind (wpAny_field gc dc (x := u) rfl (wpAny_bind (wpAny_listPart hu (wpAny_bind (wpAny_field gc dc (x := v) rfl (wpAny_bind (wpAny_listPart hv (wpAny_pure ?_))))))))
  refine PySem.W.KFB.if_not other (wpAny_bind (m := Builtin.List.listAllItems (.ref q) _) ?_)
  unfold Builtin.List.listAllItems; refine wpAny_bind (wpAny_typeOf lq.typeIs (PySem.W.KFB.if_so (by decide) ?_))
  unfold Builtin.List.listItems; refine wpAny_bind (wpAny_seqItems hq rfl (wpAny_pure (wpAny_bind (wpAny_bind (wpAny_seqItems hp rfl (wpAny_pure ?_))))))
  refine wpAny_bind (wpAny_of_eq ((sliceIndices_raw none none none old.size (by simp)).trans (congrArg (pure : Int × Int × Int → Sem (Int × Int × Int)) whole_bounds)) ?_)
  show wpAny _ _ (if ((1 : Int) == 1) = true then _ else _) _ _ sh; rw [if_pos (by decide)]
  refine wpAny_bind (wpAny_rule (PySem.W.KFB.if_not (notLongL fits) ?_))
  first | refine wpAny_bind (wpAny_pure ?_) | (skip; skip)
  show wpAny _ _ (updateSeq p (fun xs => xs.extract 0 (((0 : Nat) : Int)).toNat ++ fresh ++ xs.extract (max ((0 : Nat) : Int) (old.size : Int)).toNat xs.size) >>= _) _ _ sh; rw [upTo, Int.toNat_natCast]
  refine wpAny_bind (wpAny_updateSeq (hz := Nat.le_trans (Nat.le_add_right _ _) fits) (_hz' := grows) hp rfl (wpAny_bind (wpAny_letGo ?_)))
  first | exact wpAny_bind (wpAny_pure (wpAny_pure ⟨.none, rfl, wpAny_pure k⟩)) | exact wpAny_pure ⟨.none, rfl, wpAny_pure k⟩
end
def gAll (to : TE) : TG := fun v σ H Q => to σ H fun x H1 => ∃ l b, x = .ref l ∧ v = .ref b ∧ l ≠ b ∧ lstAt H1 l fun xs => lstAt H1 b fun ys => xs.length + ys.length ≤ sizeLine ∧ Q σ (upd H1 l (.lst ys))
section
variable {X : Cx}
theorem pg_all {o : Expr} {to : TE} {p2 pos : Pos} (ho : PE X o to)
    (shape : ∀ v, assign (.Subscript o (.Slice none none none p2) pos) X.env v = (do let ov ← holding [v] (eval o X.env); let iv ← holding [v, ov] (eval (.Slice none none none p2) X.env); standAt pos; holding [v, ov, iv] (setItem ov iv v); release [iv, v, ov] []) := by intro _; rfl) : PG X (.Subscript o (.Slice none none none p2) pos) (gAll to) := by
  refine ⟨fun pins sh σ H v u Q inv rel ask => ?_⟩
  rw [shape]; refine wpAny_bind (wpAny_holding (thn (ho.run pins sh σ H _ inv ask) fun ov s1 hh => ?_))
  obtain ⟨x, H1, I1, r1, l, b, rfl, rfl, hne, q1⟩ := hh
  obtain ⟨xs, hx, q1⟩ := lstAt_get q1
  obtain ⟨ys, hy, hz, q1⟩ := lstAt_get q1
  cases r1
  cases rel
  refine wpAny_bind (wpAny_holding (wpAny_Slice ?_)); rw [evalPart_none]
  refine wpAny_pure (wpAny_pure (wpAny_pure ?_))
  have I4 : Inv X pins σ H1 { s1 with heap := s1.heap.push { cls := .type "slice", data := .fields #[.none, .none, .none] } } := I1.kept (t' := s1.toks) fun b ob q => Heap.get?_push_of_some _ q
  obtain ⟨_, its, n, rv, hl, e⟩ := I4.lstM hx
  obtain ⟨z2, its2, n2, r2, hl2, e2⟩ := I4.lstM hy
  refine wpAny_bind (wpAny_standAt (wpAny_bind (wpAny_holding (set_whole e e2 hne (Heap.IsSliceOf.new ..) .none .none (by rw [List.size_toArray, List.size_toArray]; omega) ?_))))
  refine wpAny_release ⟨σ, _, I4.lset (its' := its2) (t' := s1.toks) hx e ?_ r2 z2, q1⟩
  apply Array.ext'; simp
/-- sorted(d), d a dict of int keys, of any length -/
def rSortD : List V → Hp → VK → Prop := fun xs H Q => ∃ (a : Addr), xs = [.ref a] ∧ dcAt H a fun kvs => ∃ (ks : List Int), kvs.map (·.1) = ks.map Sum.inl ∧
    ∀ (ys : List Int) (p : Addr), ys.Perm ks → ys.Pairwise (· ≤ ·) → H p = none → Q (.ref p) (upd H p (.lst (ys.map V.int)))
theorem keys_ints {acc : Array Value} {vs : List (Key × Value)} {ks : List Int} (hk : vs.map (·.1) = ks.map Sum.inl) (sz : acc.size = vs.length) (each : ∀ (j : Nat) (u : Value), acc[j]? = some u → ∃ (k : Key) (x : _), vs[j]? = some (k, x) ∧ keyIs k u = true) : IntsAre acc.toList ks := by
  have lens : vs.length = ks.length := by simpa using congrArg List.length hk
  refine ints_each (by rw [Array.length_toList, sz, lens]) fun j u hu => ?_
  obtain ⟨k, x, here, is⟩ := each j u (by rw [← Array.getElem?_toList]; exact hu)
  have at_j : (ks.map Sum.inl)[j]? = some k := by rw [← hk, List.getElem?_map, here]; rfl
  rw [List.getElem?_map] at at_j
  obtain ⟨y, hy, same⟩ := Option.map_eq_some_iff.mp at_j
  subst same
  rcases keyIs_shape is with ⟨i, t, c, d⟩ | ⟨z, t, c, d⟩ <;> cases c
  exact ⟨_, t, hy, d⟩
theorem call_sortD (calm : X.calm = true) : CallR X (.builtin "sorted") rSortD := by
  intro pins sh σ H xs us Q inv rel ask
  obtain ⟨a, rfl, ask⟩ := ask
  obtain ⟨kvs, here, ks, hks, ask⟩ := dcAt_get ask
  obtain ⟨u, rfl, ra⟩ := vals1 rel
  cases ra
  obtain ⟨small, lo, vs, kv, dd⟩ := dk_rd inv.hok (.inl here)
  obtain ⟨ep, hat⟩ := dd.dictAt
  have vk : vs.map (·.1) = ks.map Sum.inl := kv.keys.symm.trans hks
  have l1 : vs.length = ks.length := by simpa using congrArg List.length vk
  have l2 : kvs.length = ks.length := by simpa using congrArg List.length hks
  refine Calls.call_function_entry kind_sorted plain_sorted entry_sorted (args_sorted1 (.ref a)) ?_
  unfold Builtin.«sorted»; refine wpAny_bind (m := checkCount "sorted" 1 1 _) (wpAny_pure (wpAny_bind ?_))
  refine PySem.W.kdu_collect (A := X.A.in1) (PySem.W.kdl_dict (knd := mixKind X.prog X.w) (kvs := vs) (ep := ep) lo) (inv.ok.hd calm) hat (by omega) fun h' tk acc kept got => ?_
  have nums := keys_ints vk got.1 got.2
  have fits : acc.toList.length ≤ sizeLine := by rw [Array.length_toList, got.1]; omega
  have I1 : Inv X pins σ H { sh with heap := h', toks := tk } := inv.kept kept
  refine wpAny_bind (wpAny_newList (wpAny_bind (wpAny_holding ?_)) fits)
  have new : (h'.push (seqObj "list" acc.toList.toArray 0)).get? h'.objs.size = some (seqObj "list" acc.toList.toArray 0) := Heap.get?_push_size _ rfl
  refine wpAny_call_entry (s := { sh with heap := h'.push (seqObj "list" acc.toList.toArray 0), toks := tk }) slot_list_sort ⟨_, new, rfl⟩ entry_list_sort (SrtO.list_sort_ord SrtO.swo_int new fits (fun two => SrtO.ints_sortable nums two) fun out o1 o2 => ⟨_, rfl, ?_⟩) (args_list_sort _)
  obtain ⟨k1, k2, k3⟩ := SrtO.ints_out nums o1 o2
  obtain ⟨e', he'⟩ := sortedHeap_at (vs := acc.toList) (out := out.toArray) new
  refine wpAny_pure ⟨_, rfl, .ref h'.objs.size, upd H h'.objs.size (.lst ((out.map SrtO.iv).map V.int)), I1.laid (t' := tk) (fun b u e => ?_) (Nat.le_refl _) ⟨by rw [List.length_map, k2.length_eq, ← l2]; exact small, out, e', vals_of_ints k1, he'⟩, rfl, ask _ _ k2 k3 (I1.hok.fresh (Nat.le_refl _))⟩
  have lt : b < h'.objs.size := Heap.lt_size e
  rw [sortedHeap_old (Nat.ne_of_lt lt) (by rw [size_push']; exact Nat.lt_succ_of_lt lt)]; exact Heap.get?_push_of_some _ e
/-- d.get(k) -/
def tDGetM (td ty : TE) : TE := fun σ H Q => td σ H fun x H1 => ∃ a, x = .ref a ∧ (dcAt H1 a fun _ => True) ∧ ty σ H1 fun y H2 => ∃ k, keyOf y = some k ∧ dcAt H2 a fun kvs => Q ((valV kvs k).getD .non) H2
theorem pe_dgetM {o e : Expr} {apos cpos : Pos} {td ty : TE} (hu : X.A.units + 1 < cLine) (ho : PE X o td) (he : PE X e ty) (m : M1 X o "get" apos e cpos) : PE X (.Call (.Attribute o "get" apos) [e] [] cpos) (tDGetM td ty) := by
  refine ⟨fun pins sh σ H Q inv ask => wpAny_Call_method m.base m.few m.line PySem.F.plainAttrs_dict PySem.F.slot_dict_get PySem.F.type_dict_get (thn (ho.run pins sh σ H _ inv ask) fun u s1 hh => ?_)⟩
  obtain ⟨x, H1, I1, rx, a, rfl, d, q1⟩ := hh
  cases rx
  obtain ⟨kvs0, hd0, _⟩ := dcAt_get d
  obtain ⟨t1, t2, _⟩ := isD_at I1 (.inl ⟨kvs0, .inl hd0⟩)
  refine ⟨t1, t2, ?_⟩; rw [m.trees]
  refine Calls.callWith_builtin rfl (Calls.evalArgs_plain (Calls.spliced_cons (thn (he.run pins s1 σ H1 _ I1 q1) fun iv s2 hh => Calls.spliced_nil ?_)))
  obtain ⟨y, H2, I2, ry, k, hk, q2⟩ := hh
  obtain ⟨kvs, hd, q3⟩ := dcAt_get q2
  obtain rfl := keyOf_kV hk
  exact d_get1 hu I2 (.k hd) ry fun w' s3 I3 rw' => ⟨_, H2, I3, rw', q3⟩
end
/-- o.m() that may raise -/
def tMethE0 (C : Addr) (m : Str) (sp : Sp) (E : L2.St → XK) (ta : TE) : TE := fun σ H Q => ta σ H fun x H1 => ∃ a dx fs, x = .ref a ∧ H1 a = some (.ins C dx fs) ∧ fs.lookup m = none ∧ sp [x] H1 Q (E σ)
theorem pe_methE0 {X : Cx} {CX : CXT} {k : Nat} {C f : Addr} {fd : FuncData} {ps : List Str} {m : Str} {sp : Sp} {E : L2.St → XK} {o : Expr} {ta : TE} {apos pos : Pos} {pl : Sem Bool} (he : PE X o ta) (c : Cls X.K C) (hm : Meth X.K C m f)
    (F : FnOk X.prog X.w X.K X.mg X.base CX k f fd ps sp) (hr : Room k X.A) (hb : Binds X.K fd ps []) (hx : ∀ σ, PassesAt CX X σ (E σ))
    (ht : eval (.Call (.Attribute o m apos) [] [] pos) X.env = (do let ov ← eval o X.env; standAt apos.atName; let (f, first) ← holding [ov] (getMethod ov m pl); callWith pos f first (backTo pos (starEach [] X.env)) (backToKw pos (keywordEach [] X.env))) := by rfl) :
    PE X (.Call (.Attribute o m apos) [] [] pos) (tMethE0 C m sp E ta) := by
  refine ⟨fun pins sh σ H Q inv ask => PySem.W.methodCall_KW (pl := pl) (thn (he.run pins sh σ H _ inv ask) fun u1 s1 hh => ?_) ht⟩
  obtain ⟨x, H1, I1, rx, a, dx, fs, rfl, ea, l, q⟩ := hh
  cases rx
  exact getmeth_ok I1 ea c hm l (PySem.W.callWith_K0 (first := [.ref a]) I1.kIn hm.kp (run_fnS (us := [.ref a]) (vs := [.ref a]) F hr hb (hx σ) I1 (.cons rfl .nil) q))

/-! ### comprehensions and loops, whose parts leave the heap as it is -/
inductive LcR (b : Nat → Bool) (Y : Nat → V → Prop) : Nat → List V → Prop
  | nil : LcR b Y 0 []
  | yes {i ys y} : LcR b Y i ys → b i = true → Y i y → LcR b Y (i + 1) (ys ++ [y])
  | no {i ys} : LcR b Y i ys → b i = false → LcR b Y (i + 1) ys
theorem LcR.len {b Y n ys} (h : LcR b Y n ys) : ys.length ≤ n := by
  induction h with
  | nil => exact Nat.le_refl _
  | yes h _ _ ih =>
    rw [List.length_append]
    show _ + 1 ≤ _
    omega
  | no h _ ih => omega
theorem LcR.map {b : Nat → Bool} {f : Nat → V} {n ys} (h : LcR b (fun i y => y = f i) n ys) : ys = ((List.range n).filter b).map f := by
  induction h with
  | nil => rfl
  | yes h hb hy ih =>
    rw [List.range_succ, List.filter_append, List.map_append, ← ih, List.filter_cons, if_pos hb, hy]
    rfl
  | no h hb ih =>
    rw [List.range_succ, List.filter_append, List.map_append, ← ih, List.filter_cons, if_neg (by rw [hb]; decide)]
    simp
theorem LcR.all {Y : Nat → V → Prop} {n ys} (h : LcR (fun _ => true) Y n ys) : ys.length = n ∧ ∀ i y, ys[i]? = some y → Y i y := by
  generalize hb : (fun _ : Nat => true) = b at h
  induction h with
  | nil => exact ⟨rfl, fun i y h => by simp at h⟩
  | @yes i ys y h _ hy ih =>
    obtain ⟨e, g⟩ := ih
    refine ⟨by rw [List.length_append, e]; rfl, fun j z hz => ?_⟩
    by_cases c : j < ys.length
    · rw [List.getElem?_append_left c] at hz
      exact g j z hz
    · rw [List.getElem?_append_right (by omega)] at hz
      have : j - ys.length = 0 := by
        have := (List.getElem?_eq_some_iff.mp hz).1
        simp at this
        omega
      rw [this] at hz
      have e2 : y = z := by simpa using hz
      have e3 : j = i := by omega
      rw [e3, ← e2]
      exact hy
  | no h hb2 ih =>
    subst hb
    cases hb2
/-- all values are ints -/
theorem LcR.ints {P : Nat → Int → Prop} {b n ys} (h : LcR b (fun i y => ∃ z, y = .int z ∧ P i z) n ys) : ∃ zs : List Int, ys = zs.map V.int := by
  induction h with
  | nil => exact ⟨[], rfl⟩
  | yes h _ hy ih =>
    obtain ⟨zs, e⟩ := ih
    obtain ⟨z, e2, _⟩ := hy
    exact ⟨zs ++ [z], by rw [e, e2, List.map_append]; rfl⟩
  | no h _ ih => exact ih
theorem lc_rngI {ta : TA} {tt : TT} {te : TE} {c : Nat} {σ : L2.St} {H : Hp} {Q : VK} (n : Nat) (b : Nat → Bool) (Y : Nat → V → Prop) (hta : ∀ R : List V → Hp → Prop, R [.int (n : Int)] H → ta σ H R) (hn : n ≤ 100000)
    (hb : ∀ i H' (R : Bool → Hp → Prop), i < n → Same H H' → R (b i) H' → tt ((σ.set c none).set c (some (.int (i : Int)))) H' R) (he : ∀ i H' (R : VK), i < n → b i = true → Same H H' → (∀ y, Y i y → R y H') → te ((σ.set c none).set c (some (.int (i : Int)))) H' R)
    (k : ∀ D ys, H D = none → LcR b Y n ys → Q (.ref D) (upd H D (.lst ys))) : tLc (iRng1 ta) (gName c) tt te [c] σ H Q := by
  refine hta _ ⟨n, rfl, by omega, by omega, fun D hD => ?_⟩
  rw [Int.toNat_natCast]
  refine lc_range (fun i H' => ∃ ys, LcR b Y i ys ∧ H' = upd H D (.lst ys)) ⟨[], .nil, rfl⟩ ?_ ?_
  · rintro i H' hi ⟨ys, hr, rfl⟩
    rw [Int.zero_add]
    have sm : Same H (upd H D (.lst ys)) := same_new hD
    have szl : (100000 : Nat) < sizeLine := by decide
    have hl := hr.len
    refine ⟨?_, hb i _ _ hi sm ?_⟩
    · show List.set (List.set (List.set σ c none) c _) c none = List.set σ c none
      rw [List.set_set, List.set_set]
    · by_cases hc : b i = true
      · rw [if_pos hc]
        refine he i _ _ hi hc sm fun y hy => ⟨ys, upd_same, by omega, ys ++ [y], hr.yes hc hy, by rw [upd_upd]⟩
      · rw [if_neg hc]
        exact ⟨ys, hr.no (by simpa using hc), rfl⟩
  · rintro H' ⟨ys, hr, rfl⟩
    exact k D ys hD hr
theorem lc_lstI {K : PySem.W.Frag} {tl : TE} {tt : TT} {te : TE} {c : Nat} {σ : L2.St} {H : Hp} {Q : VK} {a : Addr} (xs : List V) (b : Nat → Bool) (Y : Nat → V → Prop) (htl : ∀ R : V → Hp → Prop, R (.ref a) H → tl σ H R) (ha : SqL K H a xs) (hn : xs.length ≤ 100000)
    (hb : ∀ i x H' (R : Bool → Hp → Prop), xs[i]? = some x → Same H H' → R (b i) H' → tt ((σ.set c none).set c (some x)) H' R) (he : ∀ i x H' (R : VK), xs[i]? = some x → b i = true → Same H H' → (∀ y, Y i y → R y H') → te ((σ.set c none).set c (some x)) H' R)
    (k : ∀ D ys, H D = none → LcR b Y xs.length ys → Q (.ref D) (upd H D (.lst ys))) : tLc (iList K tl) (gName c) tt te [c] σ H Q := by
  refine htl _ ⟨a, rfl, ⟨_, ha⟩, fun D hD => lc_list (K := K) (a := a) (xs := xs) (fun i H' => ∃ ys, LcR b Y i ys ∧ H' = upd H D (.lst ys)) ⟨[], .nil, rfl⟩ ?_ ?_ ?_⟩
  · rintro i H' _ ⟨ys, hr, rfl⟩
    exact (same_new hD).seq ha
  · rintro i x H' hx ⟨ys, hr, rfl⟩
    have sm : Same H (upd H D (.lst ys)) := same_new hD
    have szl : (100000 : Nat) < sizeLine := by decide
    have hl := hr.len
    have hi := (List.getElem?_eq_some_iff.mp hx).1
    refine ⟨?_, hb i x _ _ hx sm ?_⟩
    · show List.set (List.set (List.set σ c none) c _) c none = List.set σ c none
      rw [List.set_set, List.set_set]
    · by_cases hc : b i = true
      · rw [if_pos hc]
        refine he i x _ _ hx hc sm fun y hy => ⟨ys, upd_same, by omega, ys ++ [y], hr.yes hc hy, by rw [upd_upd]⟩
      · rw [if_neg hc]
        exact ⟨ys, hr.no (by simpa using hc), rfl⟩
  · rintro H' ⟨ys, hr, rfl⟩
    exact k D ys hD hr
/-- for x in reversed(xs) -/
theorem for_revL {K : PySem.W.Frag} {ta : TA} {g : TG} {tb : TS} {D : Ends} {σ : L2.St} {H H0 : Hp} {a : Addr} (xs : List V) (hta : ∀ R : List V → Hp → Prop, R [.ref a] H0 → ta σ H R) (Pv : Nat → L2.St → Hp → Prop) (hp : Pv 0 σ H0) (hl : ∀ i σ H, i ≤ xs.length → Pv i σ H → SqL K H a xs)
    (hs : ∀ i x σ H, i < xs.length → xs[xs.length - 1 - i]? = some x → Pv i σ H → g x σ H fun σ2 H2 => tb { D with nx := Pv (i + 1), ct := Pv (i + 1), bk := D.nx } σ2 H2) (hd : ∀ σ H, Pv xs.length σ H → D.nx σ H) : tFor (iRev K ta) g tb D σ H := by
  refine hta _ ⟨a, xs, rfl, hl 0 σ H0 (Nat.zero_le _) hp, fun i m σ H => m = xs.length - i ∧ i ≤ xs.length ∧ Pv i σ H, ⟨xs.length, by simp, Nat.zero_le _, hp⟩, ?_⟩
  rintro i m σ H ⟨rfl, hi, p⟩
  have q := hl i σ H hi p
  by_cases hlt : i < xs.length
  · have hx : xs[xs.length - 1 - i]? = some (xs[xs.length - 1 - i]'(by omega)) := List.getElem?_eq_getElem (by omega)
    refine .inr ⟨⟨hlt, xs, _, q, hx⟩, Pv (i + 1), fun σ' H' p' => ⟨xs.length - (i + 1), by omega, rfl, hlt, p'⟩, fun x H' y => ?_⟩
    obtain ⟨e, y⟩ := y
    subst e
    exact hs i x σ _ hlt (y xs q) p
  · have e : i = xs.length := by omega
    subst e
    exact .inl ⟨Nat.le_refl _, hd σ H p⟩
/-- list(xs), sorted(xs), sum(xs) of a tracked list -/
def rListM : List V → Hp → VK → Prop := fun vs H Q => ∃ p, vs = [.ref p] ∧ lstAt H p fun xs => ∀ l, H l = none → Q (.ref l) (upd H l (.lst xs))
def rSortM : List V → Hp → VK → Prop := fun vs H Q => ∃ p, vs = [.ref p] ∧ lstAt H p fun xs => ∃ ns : List Int, xs = ns.map V.int ∧ ∀ (ys : List Int) (q : Addr), ys.Perm ns → ys.Pairwise (· ≤ ·) → H q = none → Q (.ref q) (upd H q (.lst (ys.map V.int)))
section
variable {X : Cx}
theorem call_listM : CallR X (.type "list") rListM := by
  intro pins s σ H xs us Q I r h
  obtain ⟨p, e, h⟩ := h
  obtain ⟨ys, hp, q⟩ := lstAt_get h
  exact call_list_of pins s σ H xs us Q I r ⟨p, ys, e, .inl (.inl (.inl hp)), q⟩
theorem cr_sortM : CallR X (.builtin "sorted") rSortM := by
  intro pins s σ H xs us Q I r h
  obtain ⟨p, e, h⟩ := h
  obtain ⟨ys, hp, ns, e2, q⟩ := lstAt_get h
  subst e2
  exact cr_sortedI pins s σ H xs us Q I r ⟨p, ns, e, .inl (.inl hp), q⟩
end
/-- two ascending lists of the same ints are one -/
theorem sorted_eq : ∀ {xs ys : List Int}, xs.Perm ys → xs.Pairwise (· ≤ ·) → ys.Pairwise (· ≤ ·) → xs = ys
  | [], ys, h, _, _ => h.nil_eq
  | x :: xs, [], h, _, _ => by simpa using h.length_eq
  | x :: xs, y :: ys, h, hx, hy => by
    have e : x = y := by
      have h1 : x ∈ y :: ys := h.mem_iff.mp (List.mem_cons_self ..)
      have h2 : y ∈ x :: xs := h.mem_iff.mpr (List.mem_cons_self ..)
      have p1 := List.pairwise_cons.mp hx
      have p2 := List.pairwise_cons.mp hy
      rcases List.mem_cons.mp h1 with e | h1
      · exact e
      · rcases List.mem_cons.mp h2 with e | h2
        · exact e.symm
        · have a := p1.1 y h2
          have b := p2.1 x h1
          omega
    subst e
    rw [sorted_eq (List.Perm.cons_inv h) (List.pairwise_cons.mp hx).2 (List.pairwise_cons.mp hy).2]
theorem flat_ints (xs : List Int) : (xs.map V.int).all flatV = true := by
  rw [List.all_eq_true]
  intro x hx
  obtain ⟨n, _, rfl⟩ := List.mem_map.mp hx
  rfl
theorem inV_int {x : Int} {xs : List Int} : inV (.int x) (xs.map V.int) = decide (x ∈ xs) := by
  unfold inV
  induction xs with
  | nil => simp
  | cons y ys ih =>
    rw [List.map_cons, List.any_cons, ih]
    show (decide (y = x) || decide (x ∈ ys)) = _
    by_cases h : x = y
    · subst h
      simp
    · have h2 : ¬ y = x := fun e => h e.symm
      simp [h, h2]
def rSumM : List V → Hp → VK → Prop := fun vs H Q => ∃ p, vs = [.ref p] ∧ lstAt H p fun xs => ∃ ns : List Int, xs = ns.map V.int ∧ Q (.int ns.sum) H
theorem call_sumM {X : Cx} (hc : X.calm = true) : CallR X (.builtin "sum") rSumM := by
  intro pins sh σ H xs us Q inv rel ask
  obtain ⟨p, e, ask⟩ := ask
  obtain ⟨ys, hp, ns, e2, q⟩ := lstAt_get ask
  subst e2
  exact cr_sum hc pins sh σ H xs us Q inv rel ⟨p, ns, e, .inl (.inl hp), q⟩
/-- isinstance(x, dict), x a tracked dict -/
def rIsD : List V → Hp → VK → Prop := fun xs H Q => ∃ p, xs = [.ref p, .ty "dict"] ∧ dcAt H p fun _ => Q (.bl true) H
theorem call_isD {X : Cx} : CallR X (.builtin "isinstance") rIsD := by
  intro pins sh σ H xs us Q inv rel ask
  obtain ⟨p, rfl, ask⟩ := ask
  obtain ⟨kvs, hp, q⟩ := dcAt_get ask
  exact call_isi pins sh σ H _ us Q inv rel ⟨.ref p, .ty "dict", .type "dict", .type "dict", true, rfl, .ty "dict", .base (.dK hp), kit_ty rfl, q⟩
theorem lc_keysI {td : TE} {tt : TT} {te : TE} {c : Nat} {σ : L2.St} {H : Hp} {Q : VK} {d : Addr} {od : Obj} (kvs : List (Key × V)) (b : Nat → Bool) (Y : Nat → V → Prop) (htd : ∀ R : V → Hp → Prop, R (.ref d) H → td σ H R) (hd : H d = some (.frz od (.dK kvs))) (hn : kvs.length ≤ 100000)
    (hb : ∀ i k v H' (R : Bool → Hp → Prop), kvs[i]? = some (k, v) → Same H H' → R (b i) H' → tt ((σ.set c none).set c (some (kV k))) H' R) (he : ∀ i k v H' (R : VK), kvs[i]? = some (k, v) → b i = true → Same H H' → (∀ y, Y i y → R y H') → te ((σ.set c none).set c (some (kV k))) H' R)
    (k : ∀ D ys, H D = none → LcR b Y kvs.length ys → Q (.ref D) (upd H D (.lst ys))) : tLc (iKeys td) (gName c) tt te [c] σ H Q := by
  refine htd _ ⟨d, od, rfl, .inl ⟨kvs, hd, fun D hD => ?_⟩⟩
  have sm : ∀ ys, Same H (upd H D (.lst ys)) := fun ys => same_new hD
  refine ⟨fun i m H' => m = kvs.length - i ∧ i ≤ kvs.length ∧ ∃ ys, LcR b Y i ys ∧ H' = upd H D (.lst ys), ⟨_, rfl, Nat.zero_le _, [], .nil, rfl⟩, ?_⟩
  rintro i m H' ⟨rfl, hi, ys, hr, rfl⟩
  have hd' := sm ys _ _ hd
  by_cases hlt : i < kvs.length
  · refine .inr ⟨⟨hd', hlt⟩, fun H2 => ∃ ys, LcR b Y (i + 1) ys ∧ H2 = upd H D (.lst ys), fun H2 h2 => ⟨kvs.length - (i + 1), by omega, rfl, hlt, h2⟩, fun x H2 hy => ?_⟩
    obtain ⟨rfl, key, v, hkv, rfl⟩ := hy
    have szl : (100000 : Nat) < sizeLine := by decide
    have hl := hr.len
    refine ⟨?_, hb i key v _ _ hkv (sm ys) ?_⟩
    · show List.set (List.set (List.set σ c none) c _) c none = List.set σ c none
      rw [List.set_set, List.set_set]
    · by_cases hc : b i = true
      · rw [if_pos hc]
        refine he i key v _ _ hkv hc (sm ys) fun y hy => ⟨ys, upd_same, by omega, ys ++ [y], hr.yes hc hy, by rw [upd_upd]⟩
      · rw [if_neg hc]
        exact ⟨ys, hr.no (by simpa using hc), rfl⟩
  · have e : i = kvs.length := by omega
    subst e
    exact .inl ⟨⟨hd', Nat.le_refl _⟩, k D ys hD hr⟩
theorem lc_rng2I {ta : TA} {tt : TT} {te : TE} {c : Nat} {σ : L2.St} {H : Hp} {Q : VK} (lo hi : Int) (b : Nat → Bool) (Y : Nat → V → Prop) (hta : ∀ R : List V → Hp → Prop, R [.int lo, .int hi] H → ta σ H R) (h1 : -1000000 ≤ lo ∧ lo ≤ 1000000) (h2 : -1000000 ≤ hi ∧ hi ≤ 1000000) (hn : hi - lo ≤ 100000)
    (hb : ∀ (i : Nat) H' (R : Bool → Hp → Prop), lo + (i : Int) < hi → Same H H' → R (b i) H' → tt ((σ.set c none).set c (some (.int (lo + (i : Int))))) H' R) (he : ∀ (i : Nat) H' (R : VK), lo + (i : Int) < hi → b i = true → Same H H' → (∀ y, Y i y → R y H') → te ((σ.set c none).set c (some (.int (lo + (i : Int))))) H' R)
    (k : ∀ D ys, H D = none → LcR b Y (hi - lo).toNat ys → Q (.ref D) (upd H D (.lst ys))) : tLc (iRng2 ta) (gName c) tt te [c] σ H Q := by
  refine hta _ ⟨lo, hi, rfl, ⟨by omega, by omega, by omega, by omega⟩, fun D hD => ?_⟩
  refine lc_range (fun i H' => ∃ ys, LcR b Y i ys ∧ H' = upd H D (.lst ys)) ⟨[], .nil, rfl⟩ ?_ ?_
  · rintro i H' hi2 ⟨ys, hr, rfl⟩
    have sm : Same H (upd H D (.lst ys)) := same_new hD
    have szl : (100000 : Nat) < sizeLine := by decide
    have hl := hr.len
    refine ⟨?_, hb i _ _ (by omega) sm ?_⟩
    · show List.set (List.set (List.set σ c none) c _) c none = List.set σ c none
      rw [List.set_set, List.set_set]
    · by_cases hc : b i = true
      · rw [if_pos hc]
        refine he i _ _ (by omega) hc sm fun y hy => ⟨ys, upd_same, by omega, ys ++ [y], hr.yes hc hy, by rw [upd_upd]⟩
      · rw [if_neg hc]
        exact ⟨ys, hr.no (by simpa using hc), rfl⟩
  · rintro H' ⟨ys, hr, rfl⟩
    exact k D ys hD hr
theorem lc_lstN {K : PySem.W.Frag} {tl : TE} {tt : TT} {te : TE} {c : Nat} {σ : L2.St} {H : Hp} {Q : VK} (xs : List V) (b : Nat → Bool) (Y : Nat → V → Prop) (htl : ∀ R : V → Hp → Prop, (∀ p H0, Same H H0 → SqL K H0 p xs → R (.ref p) H0) → tl σ H R) (hn : xs.length ≤ 100000)
    (hb : ∀ i x H' (R : Bool → Hp → Prop), xs[i]? = some x → Same H H' → R (b i) H' → tt ((σ.set c none).set c (some x)) H' R) (he : ∀ i x H' (R : VK), xs[i]? = some x → b i = true → Same H H' → (∀ y, Y i y → R y H') → te ((σ.set c none).set c (some x)) H' R)
    (k : ∀ H0 D ys, Same H H0 → H0 D = none → LcR b Y xs.length ys → Q (.ref D) (upd H0 D (.lst ys))) : tLc (iList K tl) (gName c) tt te [c] σ H Q :=
  htl _ fun p H0 sm0 hq => lc_lstI (K := K) (tl := fun _ H Q => Q (.ref p) H) (a := p) xs b Y (fun R h => h) hq hn (fun i x H' R hx sm h => hb i x H' R hx (fun b u e => sm _ _ (sm0 _ _ e)) h) (fun i x H' R hx ht sm h => he i x H' R hx ht (fun b u e => sm _ _ (sm0 _ _ e)) h) (fun D ys hD hy => k H0 D ys sm0 hD hy)
theorem range_all {α : Type} (g : α → V) (bs : List α) : (List.range bs.length).map (fun i => (bs[i]?.map g).getD .non) = bs.map g := by
  apply List.ext_getElem
  · simp
  · intro i h1 h2
    simp at h1
    simp [h1]

/-! ### a dict copied by a comprehension over its items -/
theorem valV_take {kvs : List (Key × V)} (nd : (kvs.map (·.1)).Nodup) {i : Nat} {k : Key} {v : V} (h : kvs[i]? = some (k, v)) : valV (kvs.take i) k = none := by
  unfold valV
  rw [Option.map_eq_none_iff, List.find?_eq_none]
  intro p hp
  rw [decide_eq_true_eq]
  intro e
  obtain ⟨j, hj⟩ := List.mem_iff_getElem?.mp hp
  have jl := (List.getElem?_eq_some_iff.mp hj).1
  rw [List.length_take] at jl
  rw [List.getElem?_take, if_pos (by omega)] at hj
  have a1 : (kvs.map (·.1))[j]? = some k := by rw [List.getElem?_map, hj, ← e]; rfl
  have a2 : (kvs.map (·.1))[i]? = some k := by rw [List.getElem?_map, h]; rfl
  obtain ⟨l1, g1⟩ := List.getElem?_eq_some_iff.mp a1
  obtain ⟨l2, g2⟩ := List.getElem?_eq_some_iff.mp a2
  have := (List.getElem_inj nd).mp (g1.trans g2.symm)
  omega
theorem dc_items {K : PySem.W.Frag} {td : TE} {c1 c2 : Nat} {σ : L2.St} {H : Hp} {Q : VK} {d : Addr} (kvs : List (Key × V)) (htd : ∀ od (R : V → Hp → Prop), R (.ref d) (upd H d (.frz od (.dK kvs))) → td σ (upd H d (.frz od (.dK kvs))) R)
    (hd : H d = some (.dK kvs)) (nd : (kvs.map (·.1)).Nodup) (hn : kvs.length ≤ 100000) (h1 : c1 < σ.length) (h2 : c2 < σ.length) (ne : c1 ≠ c2)
    (k : ∀ D H', Same H H' → H D = none → H' D = some (.dK kvs) → Q (.ref D) H') :
    tLockE (tDc (iItems td) (gTup K 2 (gCons (gName c1) (gCons (gName c2) gNil))) tYes (tVar c1) (tVar c2) [c1, c2]) σ H Q := by
  refine ⟨d, .dK kvs, hd, trivial, fun od => ?_⟩
  refine htd od _ ⟨d, od, kvs, rfl, upd_same, fun D hD => ?_⟩
  have dD : D ≠ d := fun e => by
    rw [e, upd_same] at hD
    cases hD
  have hD0 : H D = none := by
    rw [upd_ne dD] at hD
    exact hD
  have szl : (100000 : Nat) < sizeLine := by decide
  refine ⟨fun i m H' => m = kvs.length - i ∧ i ≤ kvs.length ∧ H' d = some (.frz od (.dK kvs)) ∧ H' D = some (.dK (kvs.take i)) ∧ ∀ b u, H b = some u → b ≠ d → H' b = some u, ⟨_, rfl, Nat.zero_le _, by rw [upd_ne (Ne.symm dD), upd_same], by rw [upd_same]; rfl, fun b u hb hbd => ?_⟩, ?_⟩
  · have : b ≠ D := fun e => by
      rw [e, hD0] at hb
      cases hb
    rw [upd_ne this, upd_ne hbd]
    exact hb
  rintro i m H' ⟨rfl, hi, e1, e2, sm⟩
  by_cases hlt : i < kvs.length
  · refine .inr ⟨⟨e1, hlt⟩, fun H2 => H2 d = some (.frz od (.dK kvs)) ∧ H2 D = some (.dK (kvs.take (i + 1))) ∧ ∀ b u, H b = some u → b ≠ d → H2 b = some u, fun H2 h => ⟨kvs.length - (i + 1), by omega, rfl, hlt, h⟩, fun x H2 hy => ?_⟩
    obtain ⟨T, key, v, hkv, rfl, hT, rfl⟩ := hy
    have nT : ∀ b u, H' b = some u → b ≠ T := fun b u hb e => by
      rw [e, hT] at hb
      cases hb
    have w1 : c1 < (wipe σ [c1, c2]).length := by rw [wipe_length]; exact h1
    have w2 : c2 < (wipe σ [c1, c2]).length := by rw [wipe_length]; exact h2
    refine ⟨T, [kV key, v], rfl, .inl (.inl upd_same), rfl, _, _, rfl, ?_⟩
    refine ⟨_, _, rfl, rfl, ?_, ?_⟩
    · show (((((σ.set c2 none).set c1 none).set c1 (some (kV key))).set c2 (some v)).set c2 none).set c1 none = (σ.set c2 none).set c1 none
      apply List.ext_getElem?
      intro j
      simp only [List.getElem?_set, List.length_set]
      repeat' split
      all_goals first | rfl | simp_all
    · simp only [tYes, if_true]
      refine ⟨kV key, ?_, v, ?_, kvs.take i, key, rfl, ?_, ?_, ?_, ?_, ?_⟩
      · rw [List.getElem?_set_ne (Ne.symm ne), List.getElem?_set_self w1]
      · rw [List.getElem?_set_self (by rw [List.length_set]; exact w2)]
      · rw [upd_ne (nT _ _ e2)]
        exact e2
      · have := List.length_take_le i kvs
        rw [List.length_take]
        omega
      · rw [upd_ne (Ne.symm dD), upd_ne (nT _ _ e1)]
        exact e1
      · rw [upd_same, putK_new _ (valV_take nd hkv), List.take_add_one, hkv]
        rfl
      · intro b u hb hbd
        have : b ≠ D := fun e => by
          rw [e, hD0] at hb
          cases hb
        rw [upd_ne this, upd_ne (nT _ _ (sm b u hb hbd))]
        exact sm b u hb hbd
  · have e : i = kvs.length := by omega
    subst e
    refine .inl ⟨⟨e1, Nat.le_refl _⟩, e1, k D _ (fun b u hb => ?_) hD0 ?_⟩
    · by_cases c : b = d
      · subst c
        rw [upd_same, ← hd, hb]
      · rw [upd_ne c]
        exact sm b u hb c
    · rw [upd_ne dD, e2, List.take_length]

/-! ### name = {..} by a dict comprehension -/
section
variable {X : Cx}
theorem sw_trueD {kx vx : Expr} {gs : List Comprehension} {scope : Scope} {pos py : Pos} {y : Str} {l : Nat} {env : Env} (hk : env.scope.kind = .function) (hy : env.scope.names.lookup y = some .local) (hl : (py.line == pos.line) = true)
    (ha : (scope.names.any fun (n, k) => n == y && (k == .local || k == .cell)) = false) : swapsWith (.DictComp kx vx gs scope pos) (some (.Name y py)) l env = pure true := by
  have ky : env.kindOf y = some .local := hy
  have hb : env.blockKind = .function := by unfold Env.blockKind; rw [hk]; rfl
  unfold swapsWith
  simp only [hb, ky, ha, Expr.pos, hl]
  rfl
theorem ps_setDc {i : Nat} {y : Str} {py : Pos} {kx vx tg iter : Expr} {ifs : List Expr} {scope : Scope} {own : List (Str × Nat)} {pos spos : Pos} {wi : TI} {g : TG} {tt : TT} {tk tv : TE} (hc : X.calm = true) (hN : X.N.Nodup) (hy : X.N[i]? = some y) (hyl : X.env.scope.names.lookup y = some .local)
    (hsw : swapsWith (.DictComp kx vx [⟨tg, iter, ifs, 0⟩] scope pos) (some (.Name y py)) spos.line X.env = pure true) (hi : PI X tg iter wi) (ok : BlkOk X.N X.env.scope scope own)
    (hg : ∀ (s : Shared) (H : Hp) (C : Addr) (cl : List (Str × Addr)) (fp : List Addr), PG (X.blk s H scope (compEnvC scope cl C X.env) fp) tg g) (ht : ∀ (s : Shared) (H : Hp) (C : Addr) (cl : List (Str × Addr)) (fp : List Addr), PTs (X.blk s H scope (compEnvC scope cl C X.env) fp) ifs tt)
    (hk : ∀ (s : Shared) (H : Hp) (C : Addr) (cl : List (Str × Addr)) (fp : List Addr), PE (X.blk s H scope (compEnvC scope cl C X.env) fp) kx tk)
    (he : ∀ (s : Shared) (H : Hp) (C : Addr) (cl : List (Str × Addr)) (fp : List Addr), PE (X.blk s H scope (compEnvC scope cl C X.env) fp) vx tv) (hs : ∀ x, foldedSetIterable iter X.env x = pure x := by intro _; rfl) :
    PS X (.Assign [.Name y py] (.DictComp kx vx [⟨tg, iter, ifs, 0⟩] scope pos) spos) (tAsg (tDc wi g tt tk tv (own.map (·.2))) (gName i)) := by
  refine ⟨fun pins s σ H D I h => ?_⟩
  rw [exec_Assign_Name_used _ _ _ _ hsw]
  refine wpAny_bind (wpAny_standAt (wpAny_bind ?_))
  show wpAny _ X.A (do let _ ← comprehension (.DictComp kx vx [⟨tg, iter, ifs, 0⟩] scope pos) scope X.env (firstIterPos [⟨tg, iter, ifs, 0⟩] pos) newDict false (eval iter X.env) (some (assign (.Name y py) X.env))) _ _ s
  have h : tDc wi g tt tk tv (own.map (·.2)) σ H (fun x H1 => gName i x σ H1 D.nx) := h
  refine wpAny_bind (thn (dc_core (Qf := fun _ s' => SP X pins D .next s') hc hN I hi ok hg ht hk he hs h fun L C s' m H' I' q hn f => ?_) fun _ s' hq => wpAny_pure (wpAny_pure hq))
  show wpAny _ _ (assign (.Name y py) X.env (.ref L)) _ _ _
  refine wpAny_assign_Name (store_ok2 (v := V.ref L) I' hN hy (.inl hyl) rfl (fun s2 I2 ⟨a, sb, ha⟩ => ?_) (.inr hyl))
  obtain ⟨f0, f1, f2, f3, f4, f5⟩ := f
  have haC : C ≠ a := by
    rcases ha with z | z
    · rw [z]; exact f1
    · exact fun e => f4 y a z e.symm
  refine ⟨m, hn.sameBut sb haC, fun h3 sb3 => ?_⟩
  exact ⟨_, H', I2.turned (t' := s2.toks) (fun b o hb e => (sb3.2 b hb).trans e) f0 f1 f3 f4 f5, q⟩
end
/-- the whole statement, the dict that is walked being locked -/
theorem t_lock_set {te : TE} {i : Nat} {D : Ends} {σ : L2.St} {H : Hp} (h : tLockE te σ H fun x H1 => D.nx (σ.set i (some x)) H1) : tLock (tAsg te (gName i)) D σ H := h
/-- a loop over a list that is made for it, of which something is known -/
theorem for_lstP {K : PySem.W.Frag} {tl : TE} {g : TG} {tb : TS} {D : Ends} {σ : L2.St} {H : Hp} (P : List V → Prop) (htl : ∀ R : V → Hp → Prop, (∀ p xs, P xs → H p = none → R (.ref p) (upd H p (.lst xs))) → tl σ H R) (Pv : Addr → List V → Nat → L2.St → Hp → Prop)
    (hp : ∀ p xs, P xs → H p = none → Pv p xs 0 σ (upd H p (.lst xs))) (hl : ∀ p xs i σ' H', H p = none → Pv p xs i σ' H' → H' p = some (.lst xs))
    (hs : ∀ p xs i x σ' H', P xs → H p = none → xs[i]? = some x → Pv p xs i σ' H' → g x σ' H' fun σ2 H2 => tb { D with nx := Pv p xs (i + 1), ct := Pv p xs (i + 1), bk := D.nx } σ2 H2) (hd : ∀ p xs σ' H', P xs → H p = none → Pv p xs xs.length σ' H' → D.nx σ' H') : tFor (iList K tl) g tb D σ H :=
  htl _ fun p xs hx h0 => ⟨p, rfl, ⟨xs, .inl (.inl upd_same)⟩, L2.for_list (K := K) (a := p) (xs := xs) (Pv p xs) (hp p xs hx h0) (fun i σ' H' _ h => .inl (.inl (hl p xs i σ' H' h0 h))) (fun i x σ' H' hx2 h => hs p xs i x σ' H' hx h0 hx2 h) (fun σ' H' h => hd p xs σ' H' hx h0 h)⟩

structure Ad where
  C_SaggarError : Addr
  C_NoRoom : Addr
  C_NoNumber : Addr
  C_Store : Addr
  f_NoRoom___init__ : Addr
  d_NoRoom___init__ : FuncData
  f_NoNumber___init__ : Addr
  d_NoNumber___init__ : FuncData
  f_Store___init__ : Addr
  d_Store___init__ : FuncData
  f_Store_used : Addr
  d_Store_used : FuncData
  f_Store_exists : Addr
  d_Store_exists : FuncData
  f_Store_numbers : Addr
  d_Store_numbers : FuncData
  f_Store_free_number : Addr
  d_Store_free_number : FuncData
  f_Store_allocate : Addr
  d_Store_allocate : FuncData
  f_Store_size : Addr
  d_Store_size : FuncData
  f_Store_kind : Addr
  d_Store_kind : FuncData
  f_Store_set_kind : Addr
  d_Store_set_kind : FuncData
  f_Store_get : Addr
  d_Store_get : FuncData
  f_Store_put : Addr
  d_Store_put : FuncData
  f_Store_slots : Addr
  d_Store_slots : FuncData
  f_Store_drop : Addr
  d_Store_drop : FuncData
  f_Store_close_up : Addr
  d_Store_close_up : FuncData
  f_Store_snapshot : Addr
  d_Store_snapshot : FuncData
  f_Store_restore : Addr
  d_Store_restore : FuncData
  f_Store_exchange : Addr
  d_Store_exchange : FuncData
  f__law_number : Addr
  d__law_number : FuncData
  f__law_deeds : Addr
  d__law_deeds : FuncData
  f__law_word : Addr
  d__law_word : FuncData
  f__law_is : Addr
  d__law_is : FuncData
  f__law_same : Addr
  d__law_same : FuncData
  f__law_flat : Addr
  d__law_flat : FuncData
  f__law_living : Addr
  d__law_living : FuncData
  f__law_free : Addr
  d__law_free : FuncData
  f__law_copy : Addr
  d__law_copy : FuncData
  f__law_allocated : Addr
  d__law_allocated : FuncData
  f__law_changed : Addr
  d__law_changed : FuncData
  f__law_agrees : Addr
  d__law_agrees : FuncData
  f__law_deed : Addr
  d__law_deed : FuncData
  f_law : Addr
  d_law : FuncData
  t_NIL : Tok
  t_HEADER : Tok
structure Txt (K : PySem.W.Frag) (mg : Str → Option Value) (A : Ad) : Prop where
  m_SaggarError : mg "SaggarError" = some (.ref A.C_SaggarError)
  m_NoRoom : mg "NoRoom" = some (.ref A.C_NoRoom)
  x_NoRoom : ExF K A.C_NoRoom A.f_NoRoom___init__
  no_NoRoom_need : PySem.W.findIn K (.ref A.C_NoRoom) "need" = some none
  ex_NoRoom_NoNumber : PySem.W.exmOne K (.ref A.C_NoRoom) (.ref A.C_NoNumber) = some false
  ex_NoRoom_SaggarError : PySem.W.exmOne K (.ref A.C_NoRoom) (.ref A.C_SaggarError) = some true
  kit_NoRoom_NoNumber : PySem.W.kitOne K (.ref A.C_NoRoom) (.ref A.C_NoNumber) = some false
  kit_NoRoom_NoRoom : PySem.W.kitOne K (.ref A.C_NoRoom) (.ref A.C_NoRoom) = some true
  m_NoNumber : mg "NoNumber" = some (.ref A.C_NoNumber)
  x_NoNumber : ExF K A.C_NoNumber A.f_NoNumber___init__
  no_NoNumber_limit : PySem.W.findIn K (.ref A.C_NoNumber) "limit" = some none
  ex_NoNumber_NoNumber : PySem.W.exmOne K (.ref A.C_NoNumber) (.ref A.C_NoNumber) = some true
  ex_NoNumber_SaggarError : PySem.W.exmOne K (.ref A.C_NoNumber) (.ref A.C_SaggarError) = some true
  kit_NoNumber_NoNumber : PySem.W.kitOne K (.ref A.C_NoNumber) (.ref A.C_NoNumber) = some true
  kit_NoNumber_NoRoom : PySem.W.kitOne K (.ref A.C_NoNumber) (.ref A.C_NoRoom) = some false
  m_Store : mg "Store" = some (.ref A.C_Store)
  cl_Store : Cls K A.C_Store
  mk_Store : Mk K A.C_Store A.f_Store___init__
  no_Store_room : NoAttr K A.C_Store "room"
  no_Store_entries : NoAttr K A.C_Store "entries"
  no_Store_words : NoAttr K A.C_Store "words"
  no_Store__places : NoAttr K A.C_Store "_places"
  no_Store__free : NoAttr K A.C_Store "_free"
  no_Store__fresh : NoAttr K A.C_Store "_fresh"
  k_NoRoom___init__ : PySem.W.keepIn K (.ref A.f_NoRoom___init__) = true
  F_NoRoom___init__ : Fun K "__init__" "NoRoom.__init__" s_NoRoom___init__ A.f_NoRoom___init__ A.d_NoRoom___init__
  b_NoRoom___init__ : Binds K A.d_NoRoom___init__ ["self", "need"] []
  k_NoNumber___init__ : PySem.W.keepIn K (.ref A.f_NoNumber___init__) = true
  F_NoNumber___init__ : Fun K "__init__" "NoNumber.__init__" s_NoNumber___init__ A.f_NoNumber___init__ A.d_NoNumber___init__
  b_NoNumber___init__ : Binds K A.d_NoNumber___init__ ["self", "limit"] []
  k_Store___init__ : PySem.W.keepIn K (.ref A.f_Store___init__) = true
  F_Store___init__ : Fun K "__init__" "Store.__init__" s_Store___init__ A.f_Store___init__ A.d_Store___init__
  b_Store___init__ : Binds K A.d_Store___init__ ["self", "room", "entries"] []
  me_Store_used : Meth K A.C_Store "used" A.f_Store_used
  k_Store_used : PySem.W.keepIn K (.ref A.f_Store_used) = true
  F_Store_used : Fun K "used" "Store.used" s_Store_used A.f_Store_used A.d_Store_used
  b_Store_used : Binds K A.d_Store_used ["self"] []
  me_Store_exists : Meth K A.C_Store "exists" A.f_Store_exists
  k_Store_exists : PySem.W.keepIn K (.ref A.f_Store_exists) = true
  F_Store_exists : Fun K "exists" "Store.exists" s_Store_exists A.f_Store_exists A.d_Store_exists
  b_Store_exists : Binds K A.d_Store_exists ["self", "number"] []
  me_Store_numbers : Meth K A.C_Store "numbers" A.f_Store_numbers
  k_Store_numbers : PySem.W.keepIn K (.ref A.f_Store_numbers) = true
  F_Store_numbers : Fun K "numbers" "Store.numbers" s_Store_numbers A.f_Store_numbers A.d_Store_numbers
  b_Store_numbers : Binds K A.d_Store_numbers ["self"] []
  me_Store_free_number : Meth K A.C_Store "free_number" A.f_Store_free_number
  k_Store_free_number : PySem.W.keepIn K (.ref A.f_Store_free_number) = true
  F_Store_free_number : Fun K "free_number" "Store.free_number" s_Store_free_number A.f_Store_free_number A.d_Store_free_number
  b_Store_free_number : Binds K A.d_Store_free_number ["self"] []
  me_Store_allocate : Meth K A.C_Store "allocate" A.f_Store_allocate
  k_Store_allocate : PySem.W.keepIn K (.ref A.f_Store_allocate) = true
  F_Store_allocate : Fun K "allocate" "Store.allocate" s_Store_allocate A.f_Store_allocate A.d_Store_allocate
  b_Store_allocate : Binds K A.d_Store_allocate ["self", "kind", "size"] []
  me_Store_size : Meth K A.C_Store "size" A.f_Store_size
  k_Store_size : PySem.W.keepIn K (.ref A.f_Store_size) = true
  F_Store_size : Fun K "size" "Store.size" s_Store_size A.f_Store_size A.d_Store_size
  b_Store_size : Binds K A.d_Store_size ["self", "number"] []
  me_Store_kind : Meth K A.C_Store "kind" A.f_Store_kind
  k_Store_kind : PySem.W.keepIn K (.ref A.f_Store_kind) = true
  F_Store_kind : Fun K "kind" "Store.kind" s_Store_kind A.f_Store_kind A.d_Store_kind
  b_Store_kind : Binds K A.d_Store_kind ["self", "number"] []
  me_Store_set_kind : Meth K A.C_Store "set_kind" A.f_Store_set_kind
  k_Store_set_kind : PySem.W.keepIn K (.ref A.f_Store_set_kind) = true
  F_Store_set_kind : Fun K "set_kind" "Store.set_kind" s_Store_set_kind A.f_Store_set_kind A.d_Store_set_kind
  b_Store_set_kind : Binds K A.d_Store_set_kind ["self", "number", "word"] []
  me_Store_get : Meth K A.C_Store "get" A.f_Store_get
  k_Store_get : PySem.W.keepIn K (.ref A.f_Store_get) = true
  F_Store_get : Fun K "get" "Store.get" s_Store_get A.f_Store_get A.d_Store_get
  b_Store_get : Binds K A.d_Store_get ["self", "number", "at"] []
  me_Store_put : Meth K A.C_Store "put" A.f_Store_put
  k_Store_put : PySem.W.keepIn K (.ref A.f_Store_put) = true
  F_Store_put : Fun K "put" "Store.put" s_Store_put A.f_Store_put A.d_Store_put
  b_Store_put : Binds K A.d_Store_put ["self", "number", "at", "word"] []
  me_Store_slots : Meth K A.C_Store "slots" A.f_Store_slots
  k_Store_slots : PySem.W.keepIn K (.ref A.f_Store_slots) = true
  F_Store_slots : Fun K "slots" "Store.slots" s_Store_slots A.f_Store_slots A.d_Store_slots
  b_Store_slots : Binds K A.d_Store_slots ["self", "number"] []
  me_Store_drop : Meth K A.C_Store "drop" A.f_Store_drop
  k_Store_drop : PySem.W.keepIn K (.ref A.f_Store_drop) = true
  F_Store_drop : Fun K "drop" "Store.drop" s_Store_drop A.f_Store_drop A.d_Store_drop
  b_Store_drop : Binds K A.d_Store_drop ["self", "number"] []
  me_Store_close_up : Meth K A.C_Store "close_up" A.f_Store_close_up
  k_Store_close_up : PySem.W.keepIn K (.ref A.f_Store_close_up) = true
  F_Store_close_up : Fun K "close_up" "Store.close_up" s_Store_close_up A.f_Store_close_up A.d_Store_close_up
  b_Store_close_up : Binds K A.d_Store_close_up ["self"] []
  me_Store_snapshot : Meth K A.C_Store "snapshot" A.f_Store_snapshot
  k_Store_snapshot : PySem.W.keepIn K (.ref A.f_Store_snapshot) = true
  F_Store_snapshot : Fun K "snapshot" "Store.snapshot" s_Store_snapshot A.f_Store_snapshot A.d_Store_snapshot
  b_Store_snapshot : Binds K A.d_Store_snapshot ["self"] []
  me_Store_restore : Meth K A.C_Store "restore" A.f_Store_restore
  k_Store_restore : PySem.W.keepIn K (.ref A.f_Store_restore) = true
  F_Store_restore : Fun K "restore" "Store.restore" s_Store_restore A.f_Store_restore A.d_Store_restore
  b_Store_restore : Binds K A.d_Store_restore ["self", "snapshot"] []
  me_Store_exchange : Meth K A.C_Store "exchange" A.f_Store_exchange
  k_Store_exchange : PySem.W.keepIn K (.ref A.f_Store_exchange) = true
  F_Store_exchange : Fun K "exchange" "Store.exchange" s_Store_exchange A.f_Store_exchange A.d_Store_exchange
  b_Store_exchange : Binds K A.d_Store_exchange ["self", "first", "second"] []
  g__law_number : mg "_law_number" = some (.ref A.f__law_number)
  k__law_number : PySem.W.keepIn K (.ref A.f__law_number) = true
  F__law_number : Fun K "_law_number" "_law_number" s__law_number A.f__law_number A.d__law_number
  b__law_number : Binds K A.d__law_number ["cell", "k"] []
  g__law_deeds : mg "_law_deeds" = some (.ref A.f__law_deeds)
  k__law_deeds : PySem.W.keepIn K (.ref A.f__law_deeds) = true
  F__law_deeds : Fun K "_law_deeds" "_law_deeds" s__law_deeds A.f__law_deeds A.d__law_deeds
  b__law_deeds : Binds K A.d__law_deeds ["cell", "k"] []
  g__law_word : mg "_law_word" = some (.ref A.f__law_word)
  k__law_word : PySem.W.keepIn K (.ref A.f__law_word) = true
  F__law_word : Fun K "_law_word" "_law_word" s__law_word A.f__law_word A.d__law_word
  b__law_word : Binds K A.d__law_word ["x"] []
  g__law_is : mg "_law_is" = some (.ref A.f__law_is)
  k__law_is : PySem.W.keepIn K (.ref A.f__law_is) = true
  F__law_is : Fun K "_law_is" "_law_is" s__law_is A.f__law_is A.d__law_is
  b__law_is : Binds K A.d__law_is ["actual", "due"] []
  g__law_same : mg "_law_same" = some (.ref A.f__law_same)
  k__law_same : PySem.W.keepIn K (.ref A.f__law_same) = true
  F__law_same : Fun K "_law_same" "_law_same" s__law_same A.f__law_same A.d__law_same
  b__law_same : Binds K A.d__law_same ["actual", "due"] []
  g__law_flat : mg "_law_flat" = some (.ref A.f__law_flat)
  k__law_flat : PySem.W.keepIn K (.ref A.f__law_flat) = true
  F__law_flat : Fun K "_law_flat" "_law_flat" s__law_flat A.f__law_flat A.d__law_flat
  b__law_flat : Binds K A.d__law_flat ["row"] []
  g__law_living : mg "_law_living" = some (.ref A.f__law_living)
  k__law_living : PySem.W.keepIn K (.ref A.f__law_living) = true
  F__law_living : Fun K "_law_living" "_law_living" s__law_living A.f__law_living A.d__law_living
  b__law_living : Binds K A.d__law_living ["row"] []
  g__law_free : mg "_law_free" = some (.ref A.f__law_free)
  k__law_free : PySem.W.keepIn K (.ref A.f__law_free) = true
  F__law_free : Fun K "_law_free" "_law_free" s__law_free A.f__law_free A.d__law_free
  b__law_free : Binds K A.d__law_free ["row"] []
  g__law_copy : mg "_law_copy" = some (.ref A.f__law_copy)
  k__law_copy : PySem.W.keepIn K (.ref A.f__law_copy) = true
  F__law_copy : Fun K "_law_copy" "_law_copy" s__law_copy A.f__law_copy A.d__law_copy
  b__law_copy : Binds K A.d__law_copy ["row"] []
  g__law_allocated : mg "_law_allocated" = some (.ref A.f__law_allocated)
  k__law_allocated : PySem.W.keepIn K (.ref A.f__law_allocated) = true
  F__law_allocated : Fun K "_law_allocated" "_law_allocated" s__law_allocated A.f__law_allocated A.d__law_allocated
  b__law_allocated : Binds K A.d__law_allocated ["store", "row", "limits", "kind", "size"] []
  g__law_changed : mg "_law_changed" = some (.ref A.f__law_changed)
  k__law_changed : PySem.W.keepIn K (.ref A.f__law_changed) = true
  F__law_changed : Fun K "_law_changed" "_law_changed" s__law_changed A.f__law_changed A.d__law_changed
  b__law_changed : Binds K A.d__law_changed ["store", "row", "taken", "deed", "x"] []
  g__law_agrees : mg "_law_agrees" = some (.ref A.f__law_agrees)
  k__law_agrees : PySem.W.keepIn K (.ref A.f__law_agrees) = true
  F__law_agrees : Fun K "_law_agrees" "_law_agrees" s__law_agrees A.f__law_agrees A.d__law_agrees
  b__law_agrees : Binds K A.d__law_agrees ["store", "row", "entries", "x"] []
  g__law_deed : mg "_law_deed" = some (.ref A.f__law_deed)
  k__law_deed : PySem.W.keepIn K (.ref A.f__law_deed) = true
  F__law_deed : Fun K "_law_deed" "_law_deed" s__law_deed A.f__law_deed A.d__law_deed
  b__law_deed : Binds K A.d__law_deed ["store", "row", "taken", "limits", "x"] []
  g_law : mg "law" = some (.ref A.f_law)
  k_law : PySem.W.keepIn K (.ref A.f_law) = true
  F_law : Fun K "law" "law" s_law A.f_law A.d_law
  b_law : Binds K A.d_law ["script"] []
  c_NIL : mg "NIL" = some (.int (0) A.t_NIL)
  c_HEADER : mg "HEADER" = some (.int (3) A.t_HEADER)
  z_ValueError : mg "ValueError" = none
  z_bool : mg "bool" = none
  z_int : mg "int" = none
  z_isinstance : mg "isinstance" = none
  z_len : mg "len" = none
  z_list : mg "list" = none
  z_range : mg "range" = none
  z_sorted : mg "sorted" = none
  h_heappop : mg "heappop" = some (.builtin "_heapq.heappop")
  h_heappush : mg "heappush" = some (.builtin "_heapq.heappush")

theorem exf_NoRoom {K : PySem.W.Frag} {mg : Str → Option Value} {A : Ad} (T : Txt K mg A) : (∃ x, ExF K A.C_NoRoom x) = True := tt_true ⟨_, T.x_NoRoom⟩
theorem exf_NoNumber {K : PySem.W.Frag} {mg : Str → Option Value} {A : Ad} (T : Txt K mg A) : (∃ x, ExF K A.C_NoNumber x) = True := tt_true ⟨_, T.x_NoNumber⟩
theorem sne_Store_room_entries : ((Str.ofString "room") = Str.ofString "entries") = False := eq_false (by decide)
theorem sne_Store_room_words : ((Str.ofString "room") = Str.ofString "words") = False := eq_false (by decide)
theorem sne_Store_entries_words : ((Str.ofString "entries") = Str.ofString "words") = False := eq_false (by decide)
theorem sne_Store_room__places : ((Str.ofString "room") = Str.ofString "_places") = False := eq_false (by decide)
theorem sne_Store_entries__places : ((Str.ofString "entries") = Str.ofString "_places") = False := eq_false (by decide)
theorem sne_Store_words__places : ((Str.ofString "words") = Str.ofString "_places") = False := eq_false (by decide)
theorem sne_Store_room__free : ((Str.ofString "room") = Str.ofString "_free") = False := eq_false (by decide)
theorem sne_Store_entries__free : ((Str.ofString "entries") = Str.ofString "_free") = False := eq_false (by decide)
theorem sne_Store_words__free : ((Str.ofString "words") = Str.ofString "_free") = False := eq_false (by decide)
theorem sne_Store__places__free : ((Str.ofString "_places") = Str.ofString "_free") = False := eq_false (by decide)
theorem sne_Store_room__fresh : ((Str.ofString "room") = Str.ofString "_fresh") = False := eq_false (by decide)
theorem sne_Store_entries__fresh : ((Str.ofString "entries") = Str.ofString "_fresh") = False := eq_false (by decide)
theorem sne_Store_words__fresh : ((Str.ofString "words") = Str.ofString "_fresh") = False := eq_false (by decide)
theorem sne_Store__places__fresh : ((Str.ofString "_places") = Str.ofString "_fresh") = False := eq_false (by decide)
theorem sne_Store__free__fresh : ((Str.ofString "_free") = Str.ofString "_fresh") = False := eq_false (by decide)
section
variable {P : Program} {w : World} {K : PySem.W.Frag} {mg : Str → Option Value} {base : Heap} {A : Ad}
theorem ok_NoRoom___init__ (T : Txt K mg A) : FnOk P w K mg base CX0 1 A.f_NoRoom___init__ A.d_NoRoom___init__ ["self", "need"] (sp_ex1 A.C_NoRoom "need") := by
  refine Fun.ok T.F_NoRoom___init__ sc_NoRoom___init__ (fun vs H Q E h => ?_) (fun cdv Ar outer s H vs Q E hr h => ?_)
  · obtain ⟨_, _, rfl, _⟩ := h
    rfl
  · obtain ⟨a, v, rfl, ha, k⟩ := h
    refine ⟨_, pss_one (ps_ost (pv 0) (pv 1)), ?_⟩
    exact ⟨v, rfl, .ref a, rfl, a, A.C_NoRoom, rfl, T.x_NoRoom.o, T.no_NoRoom_need, .inl ⟨ha, fun dx hdx ne => k dx hdx ne⟩⟩
theorem ok_NoNumber___init__ (T : Txt K mg A) : FnOk P w K mg base CX0 1 A.f_NoNumber___init__ A.d_NoNumber___init__ ["self", "limit"] (sp_ex1 A.C_NoNumber "limit") := by
  refine Fun.ok T.F_NoNumber___init__ sc_NoNumber___init__ (fun vs H Q E h => ?_) (fun cdv Ar outer s H vs Q E hr h => ?_)
  · obtain ⟨_, _, rfl, _⟩ := h
    rfl
  · obtain ⟨a, v, rfl, ha, k⟩ := h
    refine ⟨_, pss_one (ps_ost (pv 0) (pv 1)), ?_⟩
    exact ⟨v, rfl, .ref a, rfl, a, A.C_NoNumber, rfl, T.x_NoNumber.o, T.no_NoNumber_limit, .inl ⟨ha, fun dx hdx ne => k dx hdx ne⟩⟩
end

/-! ### a store as a row of objects -/
structure OB where
  num : Int
  kind : Int
  sl : List Int
  al : Bool
def flatO (o : OB) : List Int := o.num :: (o.sl.length : Int) :: o.kind :: o.sl
def flat : List OB → List Int
  | [] => []
  | o :: r => flatO o ++ flat r
theorem flatO_len {o : OB} : (flatO o).length = 3 + o.sl.length := by
  simp [flatO]
  omega
theorem flat_app : ∀ (r q : List OB), flat (r ++ q) = flat r ++ flat q
  | [], _ => rfl
  | o :: r, q => by rw [List.cons_append, flat, flat, flat_app r q, List.append_assoc]
theorem flat_one {o : OB} : flat [o] = flatO o := by simp [flat]
theorem flat_rows : ∀ (r : List OB), 3 * r.length ≤ (flat r).length
  | [] => Nat.le_refl _
  | o :: r => by
    have := flat_rows r
    rw [flat, List.length_append, flatO_len, List.length_cons]
    omega
def hasN (n : Int) (o : OB) : Bool := o.al && decide (o.num = n)
theorem hasN_iff {n : Int} {o : OB} : hasN n o = true ↔ o.al = true ∧ o.num = n := by simp [hasN]
def getO (row : List OB) (n : Int) : Option OB := row.find? (hasN n)
def pos : List OB → Int → Option Nat
  | [], _ => none
  | o :: r, n => if hasN n o = true then some 0 else (pos r n).map (· + (3 + o.sl.length))
def nums (row : List OB) : List Int := (row.filter (·.al)).map (·.num)
theorem nums_cons {o : OB} {r : List OB} : nums (o :: r) = if o.al = true then o.num :: nums r else nums r := by
  unfold nums
  rw [List.filter_cons]
  split <;> rfl
theorem nums_app {r q : List OB} : nums (r ++ q) = nums r ++ nums q := by
  unfold nums
  rw [List.filter_append, List.map_append]
theorem mem_nums {row : List OB} {n : Int} : n ∈ nums row ↔ ∃ o ∈ row, hasN n o = true := by
  unfold nums
  rw [List.mem_map]
  constructor
  · rintro ⟨o, ho, e⟩
    rw [List.mem_filter] at ho
    exact ⟨o, ho.1, hasN_iff.mpr ⟨ho.2, e⟩⟩
  · rintro ⟨o, ho, e⟩
    have := hasN_iff.mp e
    exact ⟨o, List.mem_filter.mpr ⟨ho, this.1⟩, this.2⟩
theorem nums_len {row : List OB} : (nums row).length ≤ row.length := by
  unfold nums
  rw [List.length_map]
  exact List.length_filter_le ..
theorem getO_cons {o : OB} {r : List OB} {n : Int} : getO (o :: r) n = if hasN n o = true then some o else getO r n := by
  unfold getO
  rw [List.find?_cons]
  cases hasN n o <;> rfl
theorem pos_none : ∀ {row : List OB} {n : Int}, n ∉ nums row → pos row n = none
  | [], _, _ => rfl
  | o :: r, n, h => by
    have h1 : ¬ hasN n o = true := fun e => h (mem_nums.mpr ⟨o, List.mem_cons_self .., e⟩)
    have h2 : n ∉ nums r := fun e => by
      obtain ⟨q, hq, e⟩ := mem_nums.mp e
      exact h (mem_nums.mpr ⟨q, List.mem_cons_of_mem _ hq, e⟩)
    rw [pos, if_neg h1, pos_none h2]
    rfl
theorem pos_some : ∀ {row : List OB} {n : Int}, (pos row n).isSome = decide (n ∈ nums row)
  | [], _ => by simp [pos, nums]
  | o :: r, n => by
    by_cases h : hasN n o = true
    · rw [pos, if_pos h, decide_eq_true (mem_nums.mpr ⟨o, List.mem_cons_self .., h⟩)] <;> rfl
    · rw [pos, if_neg h, Option.isSome_map, pos_some]
      congr 1
      apply propext
      rw [mem_nums, mem_nums]
      constructor
      · rintro ⟨q, hq, e⟩
        exact ⟨q, List.mem_cons_of_mem _ hq, e⟩
      · rintro ⟨q, hq, e⟩
        rcases List.mem_cons.mp hq with rfl | hq
        · exact absurd e h
        · exact ⟨q, hq, e⟩
theorem getO_split : ∀ {row : List OB} {n : Int} {o : OB}, getO row n = some o → ∃ r1 r2, row = r1 ++ o :: r2 ∧ hasN n o = true ∧ (∀ q ∈ r1, ¬ hasN n q = true) ∧ pos row n = some (flat r1).length
  | [], _, _, h => by cases h
  | q :: r, n, o, h => by
    rw [getO_cons] at h
    by_cases c : hasN n q = true
    · rw [if_pos c] at h
      cases h
      exact ⟨[], r, rfl, c, by simp, by rw [pos, if_pos c]; rfl⟩
    · rw [if_neg c] at h
      obtain ⟨r1, r2, rfl, h1, h2, h3⟩ := getO_split h
      refine ⟨q :: r1, r2, rfl, h1, fun x hx => ?_, ?_⟩
      · rcases List.mem_cons.mp hx with rfl | hx
        · exact c
        · exact h2 x hx
      · rw [pos, if_neg c, h3, flat, List.length_append, flatO_len]
        simp
        omega
theorem getO_mem {row : List OB} {n : Int} {o : OB} (h : getO row n = some o) : o ∈ row ∧ hasN n o = true := by
  obtain ⟨r1, r2, rfl, h1, _⟩ := getO_split h
  exact ⟨by simp, h1⟩
theorem getO_of_mem : ∀ {row : List OB} {n : Int}, n ∈ nums row → ∃ o, getO row n = some o
  | [], n, h => by simp [nums] at h
  | q :: r, n, h => by
    rw [getO_cons]
    by_cases c : hasN n q = true
    · exact ⟨q, by rw [if_pos c]⟩
    · rw [if_neg c]
      refine getO_of_mem ?_
      obtain ⟨x, hx, e⟩ := mem_nums.mp h
      rcases List.mem_cons.mp hx with rfl | hx
      · exact absurd e c
      · exact mem_nums.mpr ⟨x, hx, e⟩
theorem getO_nums {row : List OB} {n : Int} {o : OB} (h : getO row n = some o) : n ∈ nums row := mem_nums.mpr ⟨o, getO_mem h⟩
/-- the words of an object that is there -/
theorem word_at {row : List OB} {n : Int} {o : OB} (h : getO row n = some o) : ∃ i : Nat, pos row n = some i ∧ i + (3 + o.sl.length) ≤ (flat row).length ∧ (flat row)[i]? = some n ∧ (flat row)[i + 1]? = some (o.sl.length : Int) ∧ (flat row)[i + 2]? = some o.kind ∧ ∀ j, j < o.sl.length → (flat row)[i + (3 + j)]? = o.sl[j]? := by
  obtain ⟨r1, r2, rfl, h1, _, h3⟩ := getO_split h
  have e := (hasN_iff.mp h1).2
  refine ⟨_, h3, ?_, ?_, ?_, ?_, fun j hj => ?_⟩
  · rw [flat_app, flat, List.length_append, List.length_append, flatO_len]
    omega
  · rw [flat_app, List.getElem?_append_right (Nat.le_refl _), Nat.sub_self, flat, flatO, ← e]
    rfl
  · rw [flat_app, List.getElem?_append_right (by omega), show (flat r1).length + 1 - (flat r1).length = 1 by omega, flat, flatO]
    rfl
  · rw [flat_app, List.getElem?_append_right (by omega), show (flat r1).length + 2 - (flat r1).length = 2 by omega, flat, flatO]
    rfl
  · rw [flat_app, List.getElem?_append_right (by omega), show (flat r1).length + (3 + j) - (flat r1).length = j + 3 by omega, flat, flatO]
    show (o.sl ++ flat r2)[j]? = _
    rw [List.getElem?_append_left hj]
theorem slots_at {row : List OB} {n : Int} {o : OB} {i : Nat} (h : getO row n = some o) (hi : pos row n = some i) : ((flat row).drop (i + 3)).take o.sl.length = o.sl := by
  obtain ⟨r1, r2, rfl, h1, _, h3⟩ := getO_split h
  rw [h3] at hi
  cases hi
  rw [flat_app, List.drop_append, flat, flatO]
  rw [List.drop_eq_nil_of_le (by omega), List.nil_append, show (flat r1).length + 3 - (flat r1).length = 3 by omega]
  show ((o.sl ++ flat r2)).take _ = _
  rw [List.take_left']
  rfl
theorem pos_app {row : List OB} {o : OB} {m : Int} : pos (row ++ [o]) m = if m ∈ nums row then pos row m else if hasN m o = true then some (flat row).length else none := by
  induction row with
  | nil =>
    rw [List.nil_append, if_neg (by simp [nums]), pos]
    rfl
  | cons q r ih =>
    rw [List.cons_append, pos, pos, ih]
    by_cases c : hasN m q = true
    · rw [if_pos c, if_pos c, if_pos (mem_nums.mpr ⟨q, List.mem_cons_self .., c⟩)]
    · rw [if_neg c, if_neg c]
      have e : m ∈ nums (q :: r) ↔ m ∈ nums r := by
        rw [mem_nums, mem_nums]
        constructor
        · rintro ⟨x, hx, e⟩
          rcases List.mem_cons.mp hx with rfl | hx
          · exact absurd e c
          · exact ⟨x, hx, e⟩
        · rintro ⟨x, hx, e⟩
          exact ⟨x, List.mem_cons_of_mem _ hx, e⟩
      by_cases d : m ∈ nums r
      · rw [if_pos d, if_pos (e.mpr d)]
      · rw [if_neg d, if_neg (fun x => d (e.mp x))]
        by_cases f : hasN m o = true
        · rw [if_pos f, if_pos f, flat, List.length_append, flatO_len]
          simp
          omega
        · rw [if_neg f, if_neg f]
          rfl
/-- the dict of the places -/
def PK (kvs : List (Key × V)) (row : List OB) : Prop := (∀ n, valV kvs (Sum.inl n) = (pos row n).map fun i => V.int ((i : Nat) : Int)) ∧ ∃ ks : List Int, kvs.map (·.1) = ks.map Sum.inl ∧ ks.Perm (nums row)
theorem PK.len {kvs row} (h : PK kvs row) : kvs.length = (nums row).length := by
  obtain ⟨_, ks, e, p⟩ := h
  have := congrArg List.length e
  rw [List.length_map, List.length_map] at this
  rw [this, p.length_eq]
theorem PK.nil : PK [] [] := ⟨fun _ => rfl, [], rfl, List.Perm.refl _⟩
theorem PK.app {kvs : List (Key × V)} {row : List OB} {o : OB} (h : PK kvs row) (ha : o.al = true) (hn : o.num ∉ nums row) : PK (putK kvs (Sum.inl o.num) (.int ((flat row).length : Int))) (row ++ [o]) := by
  obtain ⟨h1, ks, h2, h3⟩ := h
  refine ⟨fun n => ?_, ks ++ [o.num], ?_, ?_⟩
  · rw [valV_put, h1, pos_app]
    by_cases e : n = o.num
    · subst e
      rw [if_pos rfl, if_neg hn, if_pos (hasN_iff.mpr ⟨ha, rfl⟩)]
      rfl
    · have e2 : ¬ (Sum.inl n : Key) = Sum.inl o.num := fun x => e (Sum.inl.inj x)
      rw [if_neg e2]
      by_cases d : n ∈ nums row
      · rw [if_pos d]
      · rw [if_neg d, if_neg (fun x => e (hasN_iff.mp x).2.symm), pos_none d]
  · rw [putK_new _ (by rw [h1, pos_none hn]; rfl), List.map_append, h2, List.map_append]
    rfl
  · rw [nums_app, nums_cons, if_pos ha]
    exact h3.append_right _
theorem PK.skip {kvs : List (Key × V)} {row : List OB} {o : OB} (h : PK kvs row) (ha : o.al = false) : ∀ n, pos (row ++ [o]) n = pos row n := by
  intro n
  rw [pos_app]
  by_cases d : n ∈ nums row
  · rw [if_pos d]
  · rw [if_neg d, if_neg (by simp [hasN, ha]), pos_none d]
def dropX (n : Int) (o : OB) : OB := if hasN n o = true then { o with al := false } else o
theorem dropX_t {n : Int} {o : OB} (h : hasN n o = true) : dropX n o = { o with al := false } := if_pos h
theorem dropX_f {n : Int} {o : OB} (h : ¬ hasN n o = true) : dropX n o = o := if_neg h
def dropO (row : List OB) (n : Int) : List OB := row.map (dropX n)
theorem flat_drop : ∀ (row : List OB) (n : Int), flat (dropO row n) = flat row
  | [], _ => rfl
  | o :: r, n => by
    show flatO (dropX n o) ++ flat (dropO r n) = _
    rw [flat_drop r n, flat]
    by_cases c : hasN n o = true
    · rw [dropX_t c]
      rfl
    · rw [dropX_f c]
theorem pos_drop : ∀ (row : List OB) (n m : Int), pos (dropO row n) m = if m = n then none else pos row m
  | [], _, _ => by simp [dropO, pos]
  | o :: r, n, m => by
    show pos (dropX n o :: dropO r n) m = _
    rw [pos, pos, pos_drop r n m]
    by_cases c : hasN n o = true
    · rw [dropX_t c]
      rw [if_neg (show ¬ hasN m { o with al := false } = true by simp [hasN])]
      by_cases e : m = n
      · rw [if_pos e, if_pos e]
        rfl
      · rw [if_neg e, if_neg e, if_neg (fun x => e ((hasN_iff.mp x).2.symm.trans (hasN_iff.mp c).2))]
    · rw [dropX_f c]
      by_cases e : m = n
      · rw [if_pos e, if_pos e, if_neg (by rw [e]; exact c)]
        rfl
      · rw [if_neg e, if_neg e]
theorem nums_drop : ∀ (row : List OB) (n : Int), nums (dropO row n) = (nums row).filter fun m => decide (m ≠ n)
  | [], _ => rfl
  | o :: r, n => by
    show nums (dropX n o :: dropO r n) = _
    rw [nums_cons, nums_cons, nums_drop r n]
    by_cases a : o.al = true
    · by_cases e : o.num = n
      · rw [dropX_t (hasN_iff.mpr ⟨a, e⟩), if_neg (by simp), if_pos a, List.filter_cons, if_neg (by simp [e])]
      · rw [dropX_f (fun x => e (hasN_iff.mp x).2), if_pos a, if_pos a, List.filter_cons, if_pos (by simp [e])]
    · rw [dropX_f (fun x => a (hasN_iff.mp x).1), if_neg a, if_neg a]
theorem valV_drop : ∀ (kvs : List (Key × V)) (k j : Key), valV (dropK kvs k) j = if j = k then none else valV kvs j
  | [], k, j => by simp [dropK, valV_nil]
  | p :: r, k, j => by
    by_cases c : p.1 = k
    · rw [dropK_pos c, valV_drop r k j]
      by_cases e : j = k
      · rw [if_pos e, if_pos e]
      · rw [if_neg e, if_neg e, valV_neg (fun x => e (x.symm.trans c))]
    · rw [dropK_neg c]
      by_cases d : p.1 = j
      · rw [valV_pos d, if_neg (fun x => c (d.trans x)), valV_pos d]
      · rw [valV_neg d, valV_drop r k j, valV_neg d]
theorem PK.drop {kvs : List (Key × V)} {row : List OB} {n : Int} (h : PK kvs row) : PK (dropK kvs (Sum.inl n)) (dropO row n) := by
  obtain ⟨h1, ks, h2, h3⟩ := h
  refine ⟨fun m => ?_, ks.filter (fun m => decide (m ≠ n)), ?_, ?_⟩
  · rw [valV_drop, pos_drop, h1]
    by_cases e : m = n
    · rw [if_pos e, if_pos (by rw [e])]
      rfl
    · rw [if_neg e, if_neg (fun x => e (Sum.inl.inj x))]
  · unfold dropK
    have : ∀ (kvs : List (Key × V)) (ks : List Int), kvs.map (·.1) = ks.map Sum.inl → (kvs.filter fun kv => decide (kv.1 ≠ Sum.inl n)).map (·.1) = (ks.filter fun m => decide (m ≠ n)).map Sum.inl := by
      intro kvs
      induction kvs with
      | nil =>
        intro ks e
        cases ks with
        | nil => rfl
        | cons k ks => cases e
      | cons p r ih =>
        intro ks e
        cases ks with
        | nil => cases e
        | cons k ks =>
          rw [List.map_cons, List.map_cons, List.cons.injEq] at e
          rw [List.filter_cons, List.filter_cons, e.1]
          by_cases c : k = n
          · rw [if_neg (by simp [c]), if_neg (by simp [c])]
            exact ih ks e.2
          · rw [if_pos (by simp [c]), if_pos (by simp [c]), List.map_cons, List.map_cons, ih ks e.2, e.1]
    exact this kvs ks h2
  · rw [nums_drop]
    exact h3.filter _
def sw2 (a b m : Int) : Int := if m = a then b else if m = b then a else m
def exO (a b : Int) (o : OB) : OB := if o.al = true then { o with num := sw2 a b o.num } else o
def exch (row : List OB) (a b : Int) : List OB := row.map (exO a b)
theorem sw2_inv (a b m : Int) : sw2 a b (sw2 a b m) = m := by
  unfold sw2
  by_cases h1 : m = a <;> by_cases h2 : m = b <;> simp_all
theorem exO_sl {a b : Int} {o : OB} : (exO a b o).sl = o.sl ∧ (exO a b o).kind = o.kind ∧ (exO a b o).al = o.al := by
  unfold exO
  split <;> simp_all
theorem hasN_ex {a b m : Int} {o : OB} : hasN m (exO a b o) = hasN (sw2 a b m) o := by
  unfold exO hasN
  by_cases h : o.al = true
  · rw [if_pos h]
    show (o.al && decide (sw2 a b o.num = m)) = _
    congr 1
    have : (sw2 a b o.num = m) ↔ (o.num = sw2 a b m) := ⟨fun e => by rw [← e, sw2_inv], fun e => by rw [e, sw2_inv]⟩
    simp [this]
  · rw [if_neg h]
    simp [h]
theorem exch_exch {row : List OB} {a b : Int} : exch (exch row a b) a b = row := by
  unfold exch
  rw [List.map_map]
  have : (exO a b ∘ exO a b) = id := by
    funext o
    show exO a b (exO a b o) = o
    unfold exO
    by_cases h : o.al = true
    · rw [if_pos h, if_pos h]
      show ({ o with num := sw2 a b (sw2 a b o.num) } : OB) = o
      rw [sw2_inv]
    · rw [if_neg h, if_neg h]
  rw [this, List.map_id]
theorem pos_ex : ∀ {row : List OB} {a b m : Int}, pos (exch row a b) m = pos row (sw2 a b m)
  | [], _, _, _ => rfl
  | o :: r, a, b, m => by
    show pos (exO a b o :: exch r a b) m = _
    rw [pos, pos, hasN_ex, pos_ex, exO_sl.1]
theorem getO_ex : ∀ {row : List OB} {a b m : Int}, getO (exch row a b) m = (getO row (sw2 a b m)).map (exO a b)
  | [], _, _, _ => rfl
  | o :: r, a, b, m => by
    show getO (exO a b o :: exch r a b) m = _
    rw [getO_cons, getO_cons, hasN_ex, getO_ex]
    split <;> rfl
theorem nums_ex : ∀ {row : List OB} {a b : Int}, nums (exch row a b) = (nums row).map (sw2 a b)
  | [], _, _ => rfl
  | o :: r, a, b => by
    show nums (exO a b o :: exch r a b) = _
    rw [nums_cons, nums_cons, exO_sl.2.2, nums_ex]
    by_cases h : o.al = true
    · rw [if_pos h, if_pos h, List.map_cons]
      unfold exO
      rw [if_pos h]
    · rw [if_neg h, if_neg h]
theorem nums_ex_mem {row : List OB} {a b m : Int} (ha : a ∈ nums row) (hb : b ∈ nums row) : m ∈ nums (exch row a b) ↔ m ∈ nums row := by
  rw [nums_ex, List.mem_map]
  constructor
  · rintro ⟨x, hx, rfl⟩
    unfold sw2
    split
    · exact hb
    · split
      · exact ha
      · exact hx
  · intro h
    refine ⟨sw2 a b m, ?_, sw2_inv a b m⟩
    unfold sw2
    split
    · exact hb
    · split
      · exact ha
      · exact h
theorem nums_ex_nodup {row : List OB} {a b : Int} (h : (nums row).Nodup) : (nums (exch row a b)).Nodup := by
  rw [nums_ex]
  exact List.Pairwise.map _ (fun x y hne e => hne (by rw [← sw2_inv a b x, e, sw2_inv])) h
theorem nums_ex_perm {row : List OB} {a b : Int} (hn : (nums row).Nodup) (ha : a ∈ nums row) (hb : b ∈ nums row) : (nums (exch row a b)).Perm (nums row) :=
  (List.perm_ext_iff_of_nodup (nums_ex_nodup hn) hn).mpr fun _ => nums_ex_mem ha hb
theorem exch_none : ∀ {row : List OB} {a b : Int}, a ∉ nums row → b ∉ nums row → exch row a b = row
  | [], _, _, _, _ => rfl
  | o :: r, a, b, ha, hb => by
    show exO a b o :: exch r a b = _
    have t : ∀ x, x ∉ nums (o :: r) → x ∉ nums r ∧ (o.al = true → o.num ≠ x) := fun x hx => by
      rw [nums_cons] at hx
      by_cases h : o.al = true
      · rw [if_pos h] at hx
        exact ⟨fun z => hx (List.mem_cons_of_mem _ z), fun _ e => hx (by rw [e]; exact List.mem_cons_self ..)⟩
      · rw [if_neg h] at hx
        exact ⟨hx, fun z => absurd z h⟩
    rw [exch_none (t a ha).1 (t b hb).1]
    unfold exO
    by_cases h : o.al = true
    · rw [if_pos h, sw2, if_neg ((t a ha).2 h), if_neg ((t b hb).2 h)]
    · rw [if_neg h]
theorem set_app_right {l1 l2 : List Int} {i : Nat} {v : Int} : (l1 ++ l2).set (i + l1.length) v = l1 ++ l2.set i v := by
  rw [List.set_append_right _ _ (by omega), show i + l1.length - l1.length = i by omega]
/-- one number of the list is set -/
theorem flat_set1 : ∀ {row : List OB} {a b : Int} {i : Nat}, (nums row).Nodup → b ∉ nums row → pos row a = some i → (flat row).set i b = flat (exch row a b)
  | [], _, _, _, _, _, h => by cases h
  | o :: r, a, b, i, hn, hb, h => by
    rw [nums_cons] at hn hb
    rw [pos] at h
    show _ = flatO (exO a b o) ++ flat (exch r a b)
    by_cases c : hasN a o = true
    · rw [if_pos c] at h
      cases h
      have c' := hasN_iff.mp c
      rw [if_pos c'.1] at hn hb
      have hn2 := List.nodup_cons.mp hn
      rw [c'.2] at hn2
      rw [exch_none hn2.1 (fun z => hb (List.mem_cons_of_mem _ z)), flat]
      unfold exO
      rw [if_pos c'.1, c'.2, sw2, if_pos rfl]
      rfl
    · rw [if_neg c] at h
      cases hp : pos r a with
      | none =>
        rw [hp] at h
        cases h
      | some j =>
        rw [hp] at h
        have e : j + (3 + o.sl.length) = i := Option.some.inj h
        subst e
        have hn' : (nums r).Nodup := by
          by_cases g : o.al = true
          · rw [if_pos g] at hn
            exact (List.nodup_cons.mp hn).2
          · rw [if_neg g] at hn
            exact hn
        have hb' : b ∉ nums r := fun z => by
          by_cases g : o.al = true
          · rw [if_pos g] at hb
            exact hb (List.mem_cons_of_mem _ z)
          · rw [if_neg g] at hb
            exact hb z
        rw [flat, ← flatO_len, set_app_right, flat_set1 hn' hb' hp]
        congr 1
        unfold exO
        by_cases g : o.al = true
        · rw [if_pos g, sw2, if_neg (fun e => c (hasN_iff.mpr ⟨g, e⟩)), if_neg]
          intro e
          rw [if_pos g, e] at hb
          exact hb (List.mem_cons_self ..)
        · rw [if_neg g]
theorem exch_comm (row : List OB) (a b : Int) : exch row a b = exch row b a := by
  unfold exch
  congr 1
  funext o
  unfold exO sw2
  by_cases h1 : o.num = a <;> by_cases h2 : o.num = b <;> simp_all
/-- both numbers are set -/
theorem flat_set2 : ∀ {row : List OB} {a b : Int} {i j : Nat}, (nums row).Nodup → pos row a = some i → pos row b = some j → ((flat row).set i b).set j a = flat (exch row a b)
  | [], _, _, _, _, _, h, _ => by cases h
  | o :: r, a, b, i, j, hn, hi, hj => by
    have hn0 := hn
    rw [nums_cons] at hn
    rw [pos] at hi hj
    show _ = flatO (exO a b o) ++ flat (exch r a b)
    have tail : ∀ x k, pos r x = some k → x ∈ nums r := fun x k hk => by
      have := pos_some (row := r) (n := x)
      rw [hk] at this
      exact of_decide_eq_true this.symm
    by_cases c : hasN a o = true
    · have c' := hasN_iff.mp c
      rw [if_pos c] at hi
      cases hi
      rw [if_pos c'.1] at hn
      have hn2 := List.nodup_cons.mp hn
      rw [c'.2] at hn2
      by_cases d : hasN b o = true
      · have d' := hasN_iff.mp d
        have e : a = b := c'.2.symm.trans d'.2
        subst e
        rw [if_pos c] at hj
        cases hj
        rw [exch_none hn2.1 hn2.1, flat]
        unfold exO
        rw [if_pos c'.1, c'.2, sw2, if_pos rfl]
        rfl
      · rw [if_neg d] at hj
        cases hp : pos r b with
        | none =>
          rw [hp] at hj
          cases hj
        | some k =>
          rw [hp] at hj
          have e : k + (3 + o.sl.length) = j := Option.some.inj hj
          subst e
          rw [exch_comm r a b, ← flat_set1 hn2.2 hn2.1 hp, flat]
          have e0 : (flatO o ++ flat r).set 0 b = flatO { o with num := b } ++ flat r := rfl
          rw [e0, show (3 + o.sl.length) = (flatO { o with num := b }).length by rw [flatO_len], set_app_right]
          congr 1
          unfold exO
          rw [if_pos c'.1, c'.2, sw2, if_pos rfl]
    · rw [if_neg c] at hi
      cases hp : pos r a with
      | none =>
        rw [hp] at hi
        cases hi
      | some k =>
        rw [hp] at hi
        have e : k + (3 + o.sl.length) = i := Option.some.inj hi
        subst e
        have hn' : (nums r).Nodup := by
          by_cases g : o.al = true
          · rw [if_pos g] at hn
            exact (List.nodup_cons.mp hn).2
          · rw [if_neg g] at hn
            exact hn
        rw [flat, ← flatO_len, set_app_right]
        by_cases d : hasN b o = true
        · have d' := hasN_iff.mp d
          rw [if_pos d] at hj
          cases hj
          rw [if_pos d'.1] at hn
          have hn2 := List.nodup_cons.mp hn
          rw [d'.2] at hn2
          rw [flat_set1 hn' hn2.1 hp]
          unfold exO
          rw [if_pos d'.1, d'.2, sw2, if_neg (fun e => c (hasN_iff.mpr ⟨d'.1, d'.2.trans e⟩)), if_pos rfl]
          rfl
        · rw [if_neg d] at hj
          cases hq : pos r b with
          | none =>
            rw [hq] at hj
            cases hj
          | some l =>
            rw [hq] at hj
            have e : l + (3 + o.sl.length) = j := Option.some.inj hj
            subst e
            rw [← flatO_len, set_app_right, flat_set2 hn' hp hq]
            congr 1
            unfold exO
            by_cases g : o.al = true
            · rw [if_pos g, sw2, if_neg (fun e => c (hasN_iff.mpr ⟨g, e⟩)), if_neg (fun e => d (hasN_iff.mpr ⟨g, e⟩))]
            · rw [if_neg g]
theorem PK.ex {kvs : List (Key × V)} {row : List OB} {a b : Int} {i j : Nat} (h : PK kvs row) (hn : (nums row).Nodup) (hi : pos row a = some i) (hj : pos row b = some j) :
    PK (putK (putK kvs (Sum.inl a) (.int (j : Int))) (Sum.inl b) (.int (i : Int))) (exch row a b) := by
  obtain ⟨h1, ks, h2, h3⟩ := h
  have ha : a ∈ nums row := by
    have := pos_some (row := row) (n := a)
    rw [hi] at this
    exact of_decide_eq_true this.symm
  have hb : b ∈ nums row := by
    have := pos_some (row := row) (n := b)
    rw [hj] at this
    exact of_decide_eq_true this.symm
  have kp : ∀ (kvs : List (Key × V)) (k : Key) (v : V), (valV kvs k).isSome = true → (putK kvs k v).map (·.1) = kvs.map (·.1) := fun kvs k v hs => by
    unfold putK
    rw [valV_any, if_pos hs, List.map_map]
    apply List.map_congr_left
    intro p _
    show (if p.1 = k then (p.1, v) else p).1 = p.1
    split <;> rfl
  refine ⟨fun n => ?_, ks, ?_, h3.trans (nums_ex_perm hn ha hb).symm⟩
  · rw [valV_put, valV_put, h1, pos_ex]
    unfold sw2
    by_cases e1 : n = b
    · subst e1
      rw [if_pos rfl]
      by_cases e2 : n = a
      · subst e2
        rw [if_pos rfl, hi]
        rfl
      · rw [if_neg e2, if_pos rfl, hi]
        rfl
    · rw [if_neg (fun x => e1 (Sum.inl.inj x))]
      by_cases e2 : n = a
      · subst e2
        rw [if_pos rfl, if_pos rfl, hj]
        rfl
      · rw [if_neg (fun x => e2 (Sum.inl.inj x)), if_neg e2, if_neg e1]
  · rw [kp _ _ _ ?_, kp _ _ _ ?_, h2]
    · rw [h1, hi]
      rfl
    · rw [valV_put, h1, hj]
      split <;> rfl
/-- at a place of the list: the dict tells the place exactly of an object that is there -/
theorem pos_here {r1 r2 : List OB} {o : OB} (hn : (nums (r1 ++ o :: r2)).Nodup) : pos (r1 ++ o :: r2) o.num = some (flat r1).length ↔ o.al = true := by
  constructor
  · intro h
    have hm : o.num ∈ nums (r1 ++ o :: r2) := by
      have := pos_some (row := r1 ++ o :: r2) (n := o.num)
      rw [h] at this
      exact of_decide_eq_true this.symm
    clear hn hm
    induction r1 with
    | nil =>
      rw [List.nil_append, pos] at h
      by_cases c : hasN o.num o = true
      · exact (hasN_iff.mp c).1
      · rw [if_neg c] at h
        cases hp : pos r2 o.num with
        | none =>
          rw [hp] at h
          cases h
        | some k =>
          rw [hp] at h
          have : k + (3 + o.sl.length) = 0 := Option.some.inj h
          omega
    | cons q r ih =>
      rw [List.cons_append, pos, flat, List.length_append, flatO_len] at h
      by_cases c : hasN o.num q = true
      · rw [if_pos c] at h
        have := Option.some.inj h
        omega
      · rw [if_neg c] at h
        cases hp : pos (r ++ o :: r2) o.num with
        | none =>
          rw [hp] at h
          cases h
        | some k =>
          rw [hp] at h
          have : k + (3 + q.sl.length) = 3 + q.sl.length + (flat r).length := Option.some.inj h
          refine ih ?_
          rw [hp]
          congr 1
          omega
  · intro h
    have g : getO (r1 ++ o :: r2) o.num = some o := by
      unfold getO
      rw [List.find?_append]
      have : r1.find? (hasN o.num) = none := by
        rw [List.find?_eq_none]
        intro q hq c
        rw [nums_app, nums_cons, if_pos h] at hn
        have := (List.nodup_append.mp hn).2.2 o.num (mem_nums.mpr ⟨q, hq, c⟩) o.num (List.mem_cons_self ..)
        exact this rfl
      rw [this, List.find?_cons, hasN_iff.mpr ⟨h, rfl⟩]
      rfl
    obtain ⟨s1, s2, e, h1, h2, h3⟩ := getO_split g
    rw [h3]
    congr 1
    have : ∀ (r1 s1 : List OB), r1 ++ o :: r2 = s1 ++ o :: s2 → (∀ q ∈ s1, ¬ hasN o.num q = true) → (nums (r1 ++ o :: r2)).Nodup → r1 = s1 := by
      intro r1
      induction r1 with
      | nil =>
        intro s1 e h2 _
        cases s1 with
        | nil => rfl
        | cons q s1 =>
          rw [List.nil_append, List.cons_append, List.cons.injEq] at e
          exact absurd (hasN_iff.mpr ⟨h, rfl⟩) (e.1 ▸ h2 q (List.mem_cons_self ..))
      | cons p r1 ih =>
        intro s1 e h2 hn
        cases s1 with
        | nil =>
          rw [List.nil_append, List.cons_append, List.cons.injEq] at e
          rw [List.cons_append, nums_cons, e.1, if_pos h] at hn
          exact absurd (mem_nums.mpr ⟨o, by simp, hasN_iff.mpr ⟨h, rfl⟩⟩) (List.nodup_cons.mp hn).1
        | cons q s1 =>
          rw [List.cons_append, List.cons_append, List.cons.injEq] at e
          rw [e.1, ih s1 e.2 (fun x hx => h2 x (List.mem_cons_of_mem _ hx)) ?_]
          rw [List.cons_append, nums_cons] at hn
          by_cases a : p.al = true
          · rw [if_pos a] at hn
            exact (List.nodup_cons.mp hn).2
          · rw [if_neg a] at hn
            exact hn
    rw [this r1 s1 e h2 hn]
theorem nodup_le : ∀ (k : Nat) (l : List Int), l.Nodup → (∀ x ∈ l, 0 ≤ x ∧ x < (k : Int)) → l.length ≤ k
  | 0, l, _, h => by
    cases l with
    | nil => exact Nat.le_refl _
    | cons x l =>
      have := h x (List.mem_cons_self ..)
      omega
  | k + 1, l, hn, h => by
    have h1 : (l.filter fun x => decide (x ≠ (k : Int))).length ≤ k := nodup_le k _ (hn.filter _) fun x hx => by
      rw [List.mem_filter] at hx
      have a := h x hx.1
      have b := of_decide_eq_true hx.2
      omega
    have h2 : l.length ≤ (l.filter fun x => decide (x ≠ (k : Int))).length + 1 := by
      clear h1 h
      induction l with
      | nil => simp
      | cons x l ih =>
        have hn2 := List.nodup_cons.mp hn
        rw [List.filter_cons]
        by_cases c : x = (k : Int)
        · rw [if_neg (by simp [c])]
          have : l.filter (fun x => decide (x ≠ (k : Int))) = l := List.filter_eq_self.mpr fun y hy => decide_eq_true fun e => hn2.1 (by rw [c, ← e]; exact hy)
          rw [this, List.length_cons]
          exact Nat.le_refl _
        · rw [if_pos (by simp [c]), List.length_cons, List.length_cons]
          have := ih hn2.2
          omega
    omega
def IsFree (row : List OB) (n : Int) : Prop := 0 ≤ n ∧ n ∉ nums row ∧ ∀ m, 0 ≤ m → m < n → m ∈ nums row
theorem IsFree.uniq {row : List OB} {n m : Int} (h : IsFree row n) (g : IsFree row m) : n = m := by
  rcases Int.lt_trichotomy n m with c | c | c
  · exact absurd (g.2.2 n h.1 c) h.2.1
  · exact c
  · exact absurd (h.2.2 m g.1 c) g.2.1
/-- what the store is made of -/
structure RowOk (en : Int) (ws : List Int) (kvs : List (Key × V)) (fr : List Int) (fs : Int) (row : List OB) : Prop where
  ws : ws = flat row
  pk : PK kvs row
  nd : (nums row).Nodup
  lt : ∀ n ∈ nums row, 0 ≤ n ∧ n < fs
  fn : fr.Nodup
  fm : ∀ n, n ∈ fr ↔ 0 ≤ n ∧ n < fs ∧ n ∉ nums row
  hp : HpL fr
  f0 : 0 ≤ fs
  fe : fs ≤ en
  en : en ≤ 100000
  sz : (flat row).length ≤ 100000
theorem RowOk.frl {en ws kvs fr fs row} (R : RowOk en ws kvs fr fs row) : fr.length ≤ 100000 := by
  refine nodup_le 100000 fr R.fn fun x hx => ?_
  have := (R.fm x).mp hx
  have := R.fe
  have := R.en
  omega
theorem RowOk.kvl {en ws kvs fr fs row} (R : RowOk en ws kvs fr fs row) : kvs.length ≤ 100000 := by
  rw [R.pk.len]
  have := nums_len (row := row)
  have := flat_rows row
  have := R.sz
  omega
theorem RowOk.free_hd {en ws kvs x fr fs row} (R : RowOk en ws kvs (x :: fr) fs row) : IsFree row x ∧ x < en := by
  have h := (R.fm x).mp (List.mem_cons_self ..)
  refine ⟨⟨h.1, h.2.2, fun m m0 m1 => Classical.byContradiction fun c => ?_⟩, by have := R.fe; omega⟩
  have hm := (R.fm m).mpr ⟨m0, by omega, c⟩
  rcases List.mem_cons.mp hm with e | hm
  · omega
  · have := R.hp.head m hm
    omega
theorem RowOk.free_nil {en ws kvs fs row} (R : RowOk en ws kvs [] fs row) : IsFree row fs := by
  refine ⟨R.f0, fun h => by have := R.lt fs h; omega, fun m m0 m1 => Classical.byContradiction fun c => ?_⟩
  have := (R.fm m).mpr ⟨m0, m1, c⟩
  cases this
theorem RowOk.mk0 {en : Int} (h0 : 0 ≤ en) (h1 : en ≤ 100000) : RowOk en [] [] [] 0 [] :=
  ⟨rfl, PK.nil, List.nodup_nil, (by simp [nums]), List.nodup_nil, (fun n => by
    constructor
    · intro h
      cases h
    · rintro ⟨a, b, _⟩
      omega), HpL.nil, by omega, h0, h1, Nat.zero_le _⟩
theorem RowOk.add {en ws kvs fr fs row} {o : OB} {fr' : List Int} {fs' : Int} (R : RowOk en ws kvs fr fs row) (ha : o.al = true) (hn : o.num ∉ nums row) (hz : (flat row).length + (3 + o.sl.length) ≤ 100000)
    (fn : fr'.Nodup) (fm : ∀ n, n ∈ fr' ↔ 0 ≤ n ∧ n < fs' ∧ n ∉ nums row ∧ n ≠ o.num) (hp : HpL fr') (f0 : 0 ≤ o.num ∧ o.num < fs') (f1 : fs ≤ fs') (fe : fs' ≤ en) :
    RowOk en (ws ++ flatO o) (putK kvs (Sum.inl o.num) (.int ((flat row).length : Int))) fr' fs' (row ++ [o]) := by
  have e : nums (row ++ [o]) = nums row ++ [o.num] := by
    rw [nums_app, nums_cons, if_pos ha]
    rfl
  refine ⟨by rw [R.ws, flat_app, flat_one], R.pk.app ha hn, ?_, ?_, fn, fun n => ?_, hp, by have := R.f0; omega, fe, R.en, by rw [flat_app, flat_one, List.length_append, flatO_len]; exact hz⟩
  · rw [e]
    refine List.nodup_append.mpr ⟨R.nd, by simp, fun x hx y hy => ?_⟩
    rw [List.mem_singleton] at hy
    subst hy
    exact fun z => hn (z ▸ hx)
  · rw [e]
    intro n h
    rcases List.mem_append.mp h with h | h
    · have := R.lt n h
      omega
    · rw [List.mem_singleton] at h
      subst h
      exact f0
  · rw [fm, e, List.mem_append, List.mem_singleton, not_or]
theorem RowOk.drop {en ws kvs fr fs row} {n : Int} {fr' : List Int} (R : RowOk en ws kvs fr fs row) (hn : n ∈ nums row) (p : fr'.Perm (n :: fr)) (hp : HpL fr') : RowOk en ws (dropK kvs (Sum.inl n)) fr' fs (dropO row n) := by
  have e : ∀ m, m ∈ nums (dropO row n) ↔ m ∈ nums row ∧ m ≠ n := fun m => by
    rw [nums_drop, List.mem_filter]
    simp
  refine ⟨by rw [flat_drop]; exact R.ws, R.pk.drop, by rw [nums_drop]; exact R.nd.filter _, fun m hm => R.lt m ((e m).mp hm).1, ?_, fun m => ?_, hp, R.f0, R.fe, R.en, by rw [flat_drop]; exact R.sz⟩
  · refine p.nodup_iff.mpr (List.nodup_cons.mpr ⟨fun h => ((R.fm n).mp h).2.2 hn, R.fn⟩)
  · rw [p.mem_iff, List.mem_cons, R.fm, e]
    have := R.lt n hn
    constructor
    · rintro (rfl | ⟨a, b, c⟩)
      · exact ⟨this.1, this.2, fun z => z.2 rfl⟩
      · exact ⟨a, b, fun z => c z.1⟩
    · rintro ⟨a, b, c⟩
      by_cases d : m = n
      · exact .inl d
      · exact .inr ⟨a, b, fun z => c ⟨z, d⟩⟩
theorem RowOk.ex {en ws kvs fr fs row} {a b : Int} {i j : Nat} (R : RowOk en ws kvs fr fs row) (hi : pos row a = some i) (hj : pos row b = some j) :
    RowOk en ((ws.set i b).set j a) (putK (putK kvs (Sum.inl a) (.int (j : Int))) (Sum.inl b) (.int (i : Int))) fr fs (exch row a b) := by
  have ha : a ∈ nums row := by
    have := pos_some (row := row) (n := a)
    rw [hi] at this
    exact of_decide_eq_true this.symm
  have hb : b ∈ nums row := by
    have := pos_some (row := row) (n := b)
    rw [hj] at this
    exact of_decide_eq_true this.symm
  have e := flat_set2 R.nd hi hj
  refine ⟨by rw [R.ws, e], R.pk.ex R.nd hi hj, nums_ex_nodup R.nd, fun m hm => R.lt m ((nums_ex_mem ha hb).mp hm), R.fn, fun m => ?_, R.hp, R.f0, R.fe, R.en, ?_⟩
  · rw [R.fm, nums_ex_mem ha hb]
  · rw [← e, List.length_set, List.length_set]
    exact R.sz
theorem nums_filter {row : List OB} : nums (row.filter (·.al)) = nums row := by
  unfold nums
  rw [List.filter_filter]
  congr 2
  funext o
  simp
theorem flat_filter_le : ∀ (row : List OB), (flat (row.filter (·.al))).length ≤ (flat row).length
  | [] => Nat.le_refl _
  | o :: r => by
    have := flat_filter_le r
    rw [List.filter_cons]
    split
    · rw [flat, flat, List.length_append, List.length_append]
      omega
    · rw [flat, List.length_append]
      omega
theorem RowOk.close {en ws kvs fr fs row} {kvs' : List (Key × V)} (R : RowOk en ws kvs fr fs row) (h : PK kvs' (row.filter (·.al))) : RowOk en (flat (row.filter (·.al))) kvs' fr fs (row.filter (·.al)) := by
  refine ⟨rfl, h, by rw [nums_filter]; exact R.nd, by rw [nums_filter]; exact R.lt, R.fn, by rw [nums_filter]; exact R.fm, R.hp, R.f0, R.fe, R.en, Nat.le_trans (flat_filter_le row) R.sz⟩
theorem setI_nat {xs : List V} {i : Nat} {v : V} (h : i < xs.length) : setI xs (i : Int) v = some (xs.set i v) := by
  have : ixN xs.length (i : Int) = some i := by
    unfold ixN
    rw [if_pos (by omega), if_pos (by omega), Int.toNat_natCast]
  unfold setI
  rw [this]
  rfl
theorem cutV_mid {xs : List V} {c d : Nat} (h : c ≤ d) (hd : d ≤ xs.length) : cutV xs (some (c : Int)) (some (d : Int)) = (xs.drop c).take (d - c) := by
  unfold cutV
  rw [HT.sIx_nat, HT.sIx_nat, Nat.min_eq_left hd, Nat.min_eq_left (by omega)]
def setO (n : Int) (f : OB → OB) (o : OB) : OB := if hasN n o = true then f o else o
def putO (row : List OB) (n : Int) (j : Nat) (v : Int) : List OB := row.map (setO n fun o => { o with sl := o.sl.set j v })
def kindO (row : List OB) (n : Int) (v : Int) : List OB := row.map (setO n fun o => { o with kind := v })
structure Mild (f : OB → OB) : Prop where
  num : ∀ o, (f o).num = o.num
  al : ∀ o, (f o).al = o.al
  sl : ∀ o, (f o).sl.length = o.sl.length
theorem Mild.put (j : Nat) (v : Int) : Mild (fun o => { o with sl := o.sl.set j v }) := ⟨fun _ => rfl, fun _ => rfl, fun o => by simp⟩
theorem Mild.kind (v : Int) : Mild (fun o => { o with kind := v }) := ⟨fun _ => rfl, fun _ => rfl, fun o => rfl⟩
theorem Mild.set {f : OB → OB} (h : Mild f) (n : Int) : Mild (setO n f) := by
  refine ⟨fun o => ?_, fun o => ?_, fun o => ?_⟩ <;> unfold setO <;> split <;> first | rfl | exact h.num o | exact h.al o | exact h.sl o
theorem Mild.has {f : OB → OB} (h : Mild f) {n : Int} {o : OB} : hasN n (f o) = hasN n o := by
  unfold hasN
  rw [h.num, h.al]
theorem Mild.pos {f : OB → OB} (h : Mild f) : ∀ (row : List OB) (n : Int), pos (row.map f) n = My.pos row n
  | [], _ => rfl
  | o :: r, n => by
    rw [List.map_cons, My.pos, My.pos, h.has, h.pos r n, h.sl]
theorem Mild.nums {f : OB → OB} (h : Mild f) : ∀ (row : List OB), nums (row.map f) = My.nums row
  | [] => rfl
  | o :: r => by
    rw [List.map_cons, nums_cons, nums_cons, h.nums r, h.num, h.al]
theorem Mild.flat {f : OB → OB} (h : Mild f) : ∀ (row : List OB), (flat (row.map f)).length = (My.flat row).length
  | [] => rfl
  | o :: r => by
    rw [List.map_cons, My.flat, My.flat, List.length_append, List.length_append, h.flat r, flatO_len, flatO_len, h.sl]
theorem Mild.ok {f : OB → OB} (h : Mild f) {en ws kvs fr fs row} (R : RowOk en ws kvs fr fs row) : RowOk en (My.flat (row.map f)) kvs fr fs (row.map f) := by
  refine ⟨rfl, ⟨fun n => by rw [h.pos]; exact R.pk.1 n, by rw [h.nums]; exact R.pk.2⟩, by rw [h.nums]; exact R.nd, by rw [h.nums]; exact R.lt, R.fn, by rw [h.nums]; exact R.fm, R.hp, R.f0, R.fe, R.en, by rw [h.flat]; exact R.sz⟩
theorem flat_put : ∀ {row : List OB} {n v : Int} {o : OB} {i k : Nat} {f : OB → OB}, (nums row).Nodup → getO row n = some o → pos row n = some i → (flatO o).set k v = flatO (f o) → k < (flatO o).length → (flat row).set (i + k) v = flat (row.map (setO n f))
  | [], _, _, _, _, _, _, _, h, _, _, _ => by cases h
  | q :: r, n, v, o, i, k, f, hn, ho, hi, hf, hk => by
    rw [nums_cons] at hn
    rw [getO_cons] at ho
    rw [pos] at hi
    rw [List.map_cons, flat, flat]
    by_cases c : hasN n q = true
    · rw [if_pos c] at ho hi
      cases ho
      cases hi
      have c' := hasN_iff.mp c
      rw [if_pos c'.1] at hn
      have hn2 := List.nodup_cons.mp hn
      have e : r.map (setO n f) = r := by
        have : ∀ x ∈ r, setO n f x = id x := fun x hx => by
          unfold setO
          rw [if_neg (fun z => hn2.1 (by rw [c'.2]; exact mem_nums.mpr ⟨x, hx, z⟩))]
          rfl
        rw [List.map_congr_left this, List.map_id]
      rw [e, Nat.zero_add, List.set_append_left _ _ hk, hf]
      unfold setO
      rw [if_pos c]
    · rw [if_neg c] at ho hi
      cases hp : pos r n with
      | none =>
        rw [hp] at hi
        cases hi
      | some j =>
        rw [hp] at hi
        have e : j + (3 + q.sl.length) = i := Option.some.inj hi
        subst e
        have hn' : (nums r).Nodup := by
          by_cases g : q.al = true
          · rw [if_pos g] at hn
            exact (List.nodup_cons.mp hn).2
          · rw [if_neg g] at hn
            exact hn
        rw [← flatO_len, show j + (flatO q).length + k = (j + k) + (flatO q).length by omega, set_app_right, flat_put hn' ho hp hf hk]
        unfold setO
        rw [if_neg c]
theorem RowOk.put {en ws kvs fr fs row} {n v : Int} {o : OB} {i j : Nat} (R : RowOk en ws kvs fr fs row) (ho : getO row n = some o) (hi : pos row n = some i) (hj : j < o.sl.length) : RowOk en (ws.set (i + (3 + j)) v) kvs fr fs (putO row n j v) := by
  have e := flat_put (v := v) (k := 3 + j) (f := fun o => { o with sl := o.sl.set j v }) R.nd ho hi (by rw [show 3 + j = j + 3 by omega]; simp [flatO]) (by rw [flatO_len]; omega)
  have := ((Mild.put j v).set n).ok R
  rw [← e, ← R.ws] at this
  exact this
theorem RowOk.kind {en ws kvs fr fs row} {n v : Int} {o : OB} {i : Nat} (R : RowOk en ws kvs fr fs row) (ho : getO row n = some o) (hi : pos row n = some i) : RowOk en (ws.set (i + 2) v) kvs fr fs (kindO row n v) := by
  have e := flat_put (v := v) (k := 2) (f := fun o => { o with kind := v }) R.nd ho hi (by simp [flatO]) (by rw [flatO_len]; omega)
  have := ((Mild.kind v).set n).ok R
  rw [← e, ← R.ws] at this
  exact this

/-! ### the store on the heap -/
def stF (rm en : Int) (w d f : Addr) (fs : Int) : List (Str × V) := [("room", .int rm), ("entries", .int en), ("words", .ref w), ("_places", .ref d), ("_free", .ref f), ("_fresh", .int fs)]
theorem stF_room {rm en w d f fs} : List.lookup ("room" : Str) (stF rm en w d f fs) = some (V.int rm) := rfl
theorem stF_entries {rm en w d f fs} : List.lookup ("entries" : Str) (stF rm en w d f fs) = some (V.int en) := rfl
theorem stF_words {rm en w d f fs} : List.lookup ("words" : Str) (stF rm en w d f fs) = some (V.ref w) := rfl
theorem stF_places {rm en w d f fs} : List.lookup ("_places" : Str) (stF rm en w d f fs) = some (V.ref d) := rfl
theorem stF_free {rm en w d f fs} : List.lookup ("_free" : Str) (stF rm en w d f fs) = some (V.ref f) := rfl
theorem stF_fresh {rm en w d f fs} : List.lookup ("_fresh" : Str) (stF rm en w d f fs) = some (V.int fs) := rfl
theorem stF_mused {rm en w d f fs} : List.lookup ("used" : Str) (stF rm en w d f fs) = none := rfl
theorem stF_mexists {rm en w d f fs} : List.lookup ("exists" : Str) (stF rm en w d f fs) = none := rfl
theorem stF_mnumbers {rm en w d f fs} : List.lookup ("numbers" : Str) (stF rm en w d f fs) = none := rfl
theorem stF_mfree {rm en w d f fs} : List.lookup ("free_number" : Str) (stF rm en w d f fs) = none := rfl
theorem stF_malloc {rm en w d f fs} : List.lookup ("allocate" : Str) (stF rm en w d f fs) = none := rfl
theorem stF_msize {rm en w d f fs} : List.lookup ("size" : Str) (stF rm en w d f fs) = none := rfl
theorem stF_mkind {rm en w d f fs} : List.lookup ("kind" : Str) (stF rm en w d f fs) = none := rfl
theorem stF_mskind {rm en w d f fs} : List.lookup ("set_kind" : Str) (stF rm en w d f fs) = none := rfl
theorem stF_mget {rm en w d f fs} : List.lookup ("get" : Str) (stF rm en w d f fs) = none := rfl
theorem stF_mput {rm en w d f fs} : List.lookup ("put" : Str) (stF rm en w d f fs) = none := rfl
theorem stF_mslots {rm en w d f fs} : List.lookup ("slots" : Str) (stF rm en w d f fs) = none := rfl
theorem stF_mdrop {rm en w d f fs} : List.lookup ("drop" : Str) (stF rm en w d f fs) = none := rfl
theorem stF_mclose {rm en w d f fs} : List.lookup ("close_up" : Str) (stF rm en w d f fs) = none := rfl
theorem stF_msnap {rm en w d f fs} : List.lookup ("snapshot" : Str) (stF rm en w d f fs) = none := rfl
theorem stF_mrest {rm en w d f fs} : List.lookup ("restore" : Str) (stF rm en w d f fs) = none := rfl
theorem stF_mexch {rm en w d f fs} : List.lookup ("exchange" : Str) (stF rm en w d f fs) = none := rfl
theorem stF_len {rm en w d f fs} : (stF rm en w d f fs).length = 6 := rfl
theorem stF_m1 {rm : Int} : putF "room" (.int rm) [] = [(("room" : Str), V.int rm)] := rfl
theorem stF_m2 {rm en : Int} : putF "entries" (.int en) [(("room" : Str), V.int rm)] = [(("room" : Str), V.int rm), (("entries" : Str), V.int en)] := rfl
theorem stF_m3 {rm en : Int} {w : Addr} : putF "words" (.ref w) [(("room" : Str), V.int rm), (("entries" : Str), V.int en)] = [(("room" : Str), V.int rm), (("entries" : Str), V.int en), (("words" : Str), V.ref w)] := rfl
theorem stF_m4 {rm en : Int} {w d : Addr} : putF "_places" (.ref d) [(("room" : Str), V.int rm), (("entries" : Str), V.int en), (("words" : Str), V.ref w)] = [(("room" : Str), V.int rm), (("entries" : Str), V.int en), (("words" : Str), V.ref w), (("_places" : Str), V.ref d)] := rfl
theorem stF_m5 {rm en : Int} {w d f : Addr} : putF "_free" (.ref f) [(("room" : Str), V.int rm), (("entries" : Str), V.int en), (("words" : Str), V.ref w), (("_places" : Str), V.ref d)] = [(("room" : Str), V.int rm), (("entries" : Str), V.int en), (("words" : Str), V.ref w), (("_places" : Str), V.ref d), (("_free" : Str), V.ref f)] := rfl
theorem stF_m6 {rm en fs : Int} {w d f : Addr} : putF "_fresh" (.int fs) [(("room" : Str), V.int rm), (("entries" : Str), V.int en), (("words" : Str), V.ref w), (("_places" : Str), V.ref d), (("_free" : Str), V.ref f)] = stF rm en w d f fs := rfl
theorem stF_pf {rm en w d f fs} {z : Int} : putF "_fresh" (.int z) (stF rm en w d f fs) = stF rm en w d f z := rfl
theorem stF_pd {rm en w d f fs} {z : Addr} : putF "_places" (.ref z) (stF rm en w d f fs) = stF rm en w z f fs := rfl
theorem stF_pl {rm en w d f fs} {z : Addr} : putF "_free" (.ref z) (stF rm en w d f fs) = stF rm en w d z fs := rfl
theorem rep0 : ∀ m : Nat, (List.replicate m [V.int 0]).flatten = (List.replicate m (0 : Int)).map V.int
  | 0 => rfl
  | m + 1 => by
    rw [List.replicate_succ, List.replicate_succ, List.flatten_cons, rep0 m]
    rfl
theorem ne_ho {H : Hp} {a b : Addr} {x y : HO} (h1 : H a = some x) (h2 : H b = some y) (h : x ≠ y) : a ≠ b := fun e => by
  subst e
  rw [h1] at h2
  exact h (Option.some.inj h2)
/-- the store at a, its parts; F: what stands beside it -/
structure Si (A : Ad) (H : Hp) (a dx w d f : Addr) (rm en : Int) (ws : List Int) (kvs : List (Key × V)) (fr : List Int) (fs : Int) (F : Hp) : Prop where
  ho : H a = some (.ins A.C_Store dx (stF rm en w d f fs))
  hw : H w = some (.lst (ws.map V.int))
  hd : H d = some (.dK kvs)
  hf : H f = some (.lst (fr.map V.int))
  ne : w ≠ f
  fr : ∀ b o, F b = some o → H b = some o ∧ b ≠ a ∧ b ≠ w ∧ b ≠ d ∧ b ≠ f
def St (A : Ad) (H : Hp) (a : Addr) (rm en : Int) (row : List OB) (F : Hp) : Prop := ∃ dx w d f ws kvs fr fs, Si A H a dx w d f rm en ws kvs fr fs F ∧ RowOk en ws kvs fr fs row
theorem Si.aw {A H a dx w d f rm en ws kvs fr fs F} (I : Si A H a dx w d f rm en ws kvs fr fs F) : a ≠ w := ne_ho I.ho I.hw (by simp)
theorem Si.af {A H a dx w d f rm en ws kvs fr fs F} (I : Si A H a dx w d f rm en ws kvs fr fs F) : a ≠ f := ne_ho I.ho I.hf (by simp)
theorem Si.add {A H a dx w d f rm en ws kvs fr fs F} (I : Si A H a dx w d f rm en ws kvs fr fs F) : a ≠ d := ne_ho I.ho I.hd (by simp)
theorem Si.dw {A H a dx w d f rm en ws kvs fr fs F} (I : Si A H a dx w d f rm en ws kvs fr fs F) : d ≠ w := ne_ho I.hd I.hw (by simp)
theorem Si.df {A H a dx w d f rm en ws kvs fr fs F} (I : Si A H a dx w d f rm en ws kvs fr fs F) : d ≠ f := ne_ho I.hd I.hf (by simp)
theorem Si.same {A H H' a dx w d f rm en ws kvs fr fs F} (I : Si A H a dx w d f rm en ws kvs fr fs F) (s : Same H H') : Si A H' a dx w d f rm en ws kvs fr fs F :=
  ⟨s _ _ I.ho, s _ _ I.hw, s _ _ I.hd, s _ _ I.hf, I.ne, fun b o h => ⟨s _ _ (I.fr b o h).1, (I.fr b o h).2⟩⟩
theorem Si.words {A H a dx w d f rm en ws kvs fr fs F} (I : Si A H a dx w d f rm en ws kvs fr fs F) (ws' : List Int) : Si A (upd H w (.lst (ws'.map V.int))) a dx w d f rm en ws' kvs fr fs F :=
  ⟨by rw [upd_ne I.aw]; exact I.ho, upd_same, by rw [upd_ne I.dw]; exact I.hd, by rw [upd_ne (Ne.symm I.ne)]; exact I.hf, I.ne, fun b o h => by
    obtain ⟨h1, h2, h3, h4, h5⟩ := I.fr b o h
    exact ⟨by rw [upd_ne h3]; exact h1, h2, h3, h4, h5⟩⟩
theorem Si.free {A H a dx w d f rm en ws kvs fr fs F} (I : Si A H a dx w d f rm en ws kvs fr fs F) (fr' : List Int) : Si A (upd H f (.lst (fr'.map V.int))) a dx w d f rm en ws kvs fr' fs F :=
  ⟨by rw [upd_ne I.af]; exact I.ho, by rw [upd_ne I.ne]; exact I.hw, by rw [upd_ne I.df]; exact I.hd, upd_same, I.ne, fun b o h => by
    obtain ⟨h1, h2, h3, h4, h5⟩ := I.fr b o h
    exact ⟨by rw [upd_ne h5]; exact h1, h2, h3, h4, h5⟩⟩
theorem Si.places {A H a dx w d f rm en ws kvs fr fs F} (I : Si A H a dx w d f rm en ws kvs fr fs F) (kvs' : List (Key × V)) : Si A (upd H d (.dK kvs')) a dx w d f rm en ws kvs' fr fs F :=
  ⟨by rw [upd_ne I.add]; exact I.ho, by rw [upd_ne (Ne.symm I.dw)]; exact I.hw, upd_same, by rw [upd_ne (Ne.symm I.df)]; exact I.hf, I.ne, fun b o h => by
    obtain ⟨h1, h2, h3, h4, h5⟩ := I.fr b o h
    exact ⟨by rw [upd_ne h4]; exact h1, h2, h3, h4, h5⟩⟩
theorem Si.fresh {A H a dx w d f rm en ws kvs fr fs F} (I : Si A H a dx w d f rm en ws kvs fr fs F) (fs' : Int) : Si A (upd H a (.ins A.C_Store dx (stF rm en w d f fs'))) a dx w d f rm en ws kvs fr fs' F :=
  ⟨upd_same, by rw [upd_ne (Ne.symm I.aw)]; exact I.hw, by rw [upd_ne (Ne.symm I.add)]; exact I.hd, by rw [upd_ne (Ne.symm I.af)]; exact I.hf, I.ne, fun b o h => by
    obtain ⟨h1, h2, h3, h4, h5⟩ := I.fr b o h
    exact ⟨by rw [upd_ne h2]; exact h1, h2, h3, h4, h5⟩⟩
theorem St.same {A H H' a rm en row F} (h : St A H a rm en row F) (s : Same H H') : St A H' a rm en row F := by
  obtain ⟨dx, w, d, f, ws, kvs, fr, fs, I, R⟩ := h
  exact ⟨dx, w, d, f, ws, kvs, fr, fs, I.same s, R⟩
theorem St.get {A H a rm en row F} (h : St A H a rm en row F) {b : Addr} {o : HO} (e : F b = some o) : H b = some o := by
  obtain ⟨dx, w, d, f, ws, kvs, fr, fs, I, R⟩ := h
  exact (I.fr b o e).1
theorem Si.part {A H a dx w d f rm en ws kvs fr fs F} (I : Si A H a dx w d f rm en ws kvs fr fs F) {b : Addr} (h : H b = none) : b ≠ a ∧ b ≠ w ∧ b ≠ d ∧ b ≠ f :=
  ⟨Ne.symm (ne_of_none I.ho h), Ne.symm (ne_of_none I.hw h), Ne.symm (ne_of_none I.hd h), Ne.symm (ne_of_none I.hf h)⟩
/-- a new object beside the store -/
theorem St.new {A H a rm en row F} (h : St A H a rm en row F) {p : Addr} {o : HO} (e : H p = none) : St A (upd H p o) a rm en row (upd F p o) := by
  obtain ⟨dx, w, d, f, ws, kvs, fr, fs, I, R⟩ := h
  have J := I.same (same_new (o := o) e)
  refine ⟨dx, w, d, f, ws, kvs, fr, fs, ⟨J.ho, J.hw, J.hd, J.hf, J.ne, fun b u hb => ?_⟩, R⟩
  by_cases c : b = p
  · subst c
    rw [upd_same] at hb
    exact ⟨by rw [upd_same]; exact hb, I.part e⟩
  · rw [upd_ne c] at hb
    exact J.fr b u hb
/-- an object beside the store changes -/
theorem St.set {A H a rm en row F} (h : St A H a rm en row F) {p : Addr} {o u : HO} (e : F p = some u) : St A (upd H p o) a rm en row (upd F p o) := by
  obtain ⟨dx, w, d, f, ws, kvs, fr, fs, I, R⟩ := h
  obtain ⟨_, h2, h3, h4, h5⟩ := I.fr p u e
  refine ⟨dx, w, d, f, ws, kvs, fr, fs, ⟨by rw [upd_ne (Ne.symm h2)]; exact I.ho, by rw [upd_ne (Ne.symm h3)]; exact I.hw, by rw [upd_ne (Ne.symm h4)]; exact I.hd, by rw [upd_ne (Ne.symm h5)]; exact I.hf, I.ne, fun b v hb => ?_⟩, R⟩
  by_cases c : b = p
  · subst c
    rw [upd_same] at hb
    exact ⟨by rw [upd_same]; exact hb, h2, h3, h4, h5⟩
  · rw [upd_ne c] at hb ⊢
    exact I.fr b v hb
theorem St.less {A H a rm en row F F'} (h : St A H a rm en row F) (s : Same F' F) : St A H a rm en row F' := by
  obtain ⟨dx, w, d, f, ws, kvs, fr, fs, I, R⟩ := h
  exact ⟨dx, w, d, f, ws, kvs, fr, fs, ⟨I.ho, I.hw, I.hd, I.hf, I.ne, fun b o e => I.fr b o (s b o e)⟩, R⟩
/-- new objects beside the store, all at once -/
theorem St.more {A H H' a rm en row F F'} (h : St A H a rm en row F) (s : Same H H') (n : ∀ b o, F' b = some o → F b = some o ∨ (H b = none ∧ H' b = some o)) : St A H' a rm en row F' := by
  obtain ⟨dx, w, d, f, ws, kvs, fr, fs, I, R⟩ := h
  have J := I.same s
  refine ⟨dx, w, d, f, ws, kvs, fr, fs, ⟨J.ho, J.hw, J.hd, J.hf, J.ne, fun b o e => ?_⟩, R⟩
  rcases n b o e with q | ⟨q1, q2⟩
  · exact J.fr b o q
  · exact ⟨q2, I.part q1⟩
theorem Si.other {A H a dx w d f rm en ws kvs fr fs F} (I : Si A H a dx w d f rm en ws kvs fr fs F) {p : Addr} {o : HO} (h : p ≠ a ∧ p ≠ w ∧ p ≠ d ∧ p ≠ f) (hF : F p = none) : Si A (upd H p o) a dx w d f rm en ws kvs fr fs F :=
  ⟨by rw [upd_ne (Ne.symm h.1)]; exact I.ho, by rw [upd_ne (Ne.symm h.2.1)]; exact I.hw, by rw [upd_ne (Ne.symm h.2.2.1)]; exact I.hd, by rw [upd_ne (Ne.symm h.2.2.2)]; exact I.hf, I.ne, fun b u e => by
    rw [upd_ne (ne_of_none e hF)]
    exact I.fr b u e⟩
theorem Si.out {A H a dx w d f rm en ws kvs fr fs F} (I : Si A H a dx w d f rm en ws kvs fr fs F) {p : Addr} (h : H p = none) : F p = none := by
  cases e : F p with
  | none => rfl
  | some o =>
    rw [(I.fr p o e).1] at h
    cases h

def sp_mk (C : Addr) : Sp := fun vs H Q _ => ∃ (a dx : Addr) (rm en : Int), vs = [.ref a, .int rm, .int en] ∧ H a = some (.ins C dx []) ∧ ∀ w d f H', H w = none → H d = none → H f = none → w ≠ f → H' a = some (.ins C dx (stF rm en w d f 0)) → H' w = some (.lst []) → H' d = some (.dK []) → H' f = some (.lst []) → (∀ b, b ≠ a → b ≠ w → b ≠ d → b ≠ f → H' b = H b) → Q .non H'
theorem sp_mk_len {C vs H Q E} (h : sp_mk C vs H Q E) : vs.length = (["self", "room", "entries"] : List Str).length := by
  obtain ⟨_, _, _, _, rfl, _⟩ := h
  rfl
section
variable {P : Program} {w : World} {K : PySem.W.Frag} {mg : Str → Option Value} {base : Heap} {A : Ad}
theorem ok_Store___init__ (T : Txt K mg A) : FnOk P w K mg base CX0 1 A.f_Store___init__ A.d_Store___init__ ["self", "room", "entries"] (sp_mk A.C_Store) := by
  refine Fun.ok T.F_Store___init__ sc_Store___init__ (fun vs H Q E h => ?_) (fun cdv Ar outer s H vs Q E hr h => ?_)
  · exact sp_mk_len h
  · have hu := hu_of hr
    refine ⟨_, (pss_cons (ps_fld (pv 0) (pv 1) rfl)
    (pss_cons (ps_fld (pv 0) (pv 2) rfl)
    (pss_cons (ps_fld (pv 0) (pe_lst pa_nil) rfl)
    (pss_cons (ps_fld (pv 0) pe_dnewK rfl)
    (pss_cons (ps_fld (pv 0) (pe_lst pa_nil) rfl)
    (pss_one (ps_fld (pv 0) pe_int rfl))))))), ?_⟩
    obtain ⟨a, dx, rm, en, rfl, ha, k⟩ := h
    simp (config := { maxSteps := 4000000 }) only [tSeq, tNext, tDrop, tRet, tRetN, tIfS, tAsg, tTest, tAnd, tOr, tNot, tAndV, tOrV, tNotV, tIf, tOp, tUn, tVar, tC, tCB, tCons, tNil, tCall, tPart, tNoPart, tM0, tM1, tTup, tLst, tB, tIsN, tNotN, rI0, rI, rU, rEq, rNe, rAdd, gName, gTup, gCons, gNil, gSub, rSetL, rIxL, rIxT, rIxS, L2.start,
      List.map_cons, List.map_nil, List.cons_append, List.nil_append, List.append_nil, List.length_cons, List.length_nil, List.replicate, List.getElem?_cons_zero, List.getElem?_cons_succ, List.set_cons_zero, List.set_cons_succ, Nat.reduceAdd, Nat.reduceSub, Nat.sub_self, Nat.zero_add,
      Option.some.injEq, V.int.injEq, V.str.injEq, V.bl.injEq, V.ref.injEq, V.ty.injEq, List.cons.injEq, and_true, true_and, exists_eq_left, exists_eq_left', exists_eq_right, exists_and_left, exists_and_right, exists_const, decide_eq_true_eq, decide_eq_false_iff_not, if_true, if_false, reduceIte, Bool.false_eq_true, Bool.not_eq_true', sc_ii, sc_ss, sc_bb, str1, cx_K, lstAt, rIxM, rSetM, rLenM, atI_0, atI_1, atI_2, atI_3, setI_0, setI_1, setI_2, setI_3, upd_same, upd_upd, ite_true, ite_false, exists_eq', eq_self, and_assoc, rIsS, isTy_bb, isTy_bi, isTy_ib, isTy_ii, isTy_ss, isTy_nb, isTy_ni, Bool.not_true, Bool.not_false, not_true_eq_false, not_false_eq_true, tChain, tRz1, tRz2, rIsX, tFx, tMethE, tCallS, tCallZ, tMeth, tMake, tFld, sFld, HO.ins.injEq, HO.lst.injEq, HO.dK.injEq, HO.tup.injEq, dcAt, rDInM, rDGetM, rDSetM, rDLenM, keyOf_int, keyOf_str, rIsBM, plainV_b, plainV_i, plainV_n, plainV_s, rInM, rListM, rSortM, rSumM, rIsD, tBMM, tBM0M, tSl, rSlM, rAppend, rPop, rClear, wAs, reduceCtorEq, false_implies, true_implies, implies_true, forall_const, cxH_K, clsV_ref, clsV_ty, HO.xd.injEq, Value.ref.injEq, lkc, lkn, pfn, pfc, List.map_nil, rExtend, rCat, rRep, tMethE0, rSortD, rPush, rPopH, tDGetM, gAll, iRev, tCB, sDDel, exf_NoRoom T, exf_NoNumber T, sne_Store_room_entries, sne_Store_room_words, sne_Store_entries_words, sne_Store_room__places, sne_Store_entries__places, sne_Store_words__places, sne_Store_room__free, sne_Store_entries__free, sne_Store_words__free, sne_Store__places__free, sne_Store_room__fresh, sne_Store_entries__fresh, sne_Store_words__fresh, sne_Store__places__fresh, sne_Store__free__fresh, T.no_NoRoom_need, T.ex_NoRoom_NoNumber, T.ex_NoRoom_SaggarError, T.kit_NoRoom_NoNumber, T.kit_NoRoom_NoRoom, T.no_NoNumber_limit, T.ex_NoNumber_NoNumber, T.ex_NoNumber_SaggarError, T.kit_NoNumber_NoNumber, T.kit_NoNumber_NoRoom, ha, T.cl_Store, T.no_Store_room, T.no_Store_entries, T.no_Store_words, T.no_Store__places, T.no_Store__free, T.no_Store__fresh]
    refine ⟨by decide, by decide, Nat.zero_le _, fun w hw => ?_⟩
    have aw : a ≠ w := ne_of_none upd_same hw
    have hw0 : H w = none := by
      rw [upd_ne (Ne.symm aw)] at hw
      exact hw
    rw [upd_ne aw, upd_same]
    simp (config := { maxSteps := 4000000 }) only [tSeq, tNext, tDrop, tRet, tRetN, tIfS, tAsg, tTest, tAnd, tOr, tNot, tAndV, tOrV, tNotV, tIf, tOp, tUn, tVar, tC, tCB, tCons, tNil, tCall, tPart, tNoPart, tM0, tM1, tTup, tLst, tB, tIsN, tNotN, rI0, rI, rU, rEq, rNe, rAdd, gName, gTup, gCons, gNil, gSub, rSetL, rIxL, rIxT, rIxS, L2.start,
      List.map_cons, List.map_nil, List.cons_append, List.nil_append, List.append_nil, List.length_cons, List.length_nil, List.replicate, List.getElem?_cons_zero, List.getElem?_cons_succ, List.set_cons_zero, List.set_cons_succ, Nat.reduceAdd, Nat.reduceSub, Nat.sub_self, Nat.zero_add,
      Option.some.injEq, V.int.injEq, V.str.injEq, V.bl.injEq, V.ref.injEq, V.ty.injEq, List.cons.injEq, and_true, true_and, exists_eq_left, exists_eq_left', exists_eq_right, exists_and_left, exists_and_right, exists_const, decide_eq_true_eq, decide_eq_false_iff_not, if_true, if_false, reduceIte, Bool.false_eq_true, Bool.not_eq_true', sc_ii, sc_ss, sc_bb, str1, cx_K, lstAt, rIxM, rSetM, rLenM, atI_0, atI_1, atI_2, atI_3, setI_0, setI_1, setI_2, setI_3, upd_same, upd_upd, ite_true, ite_false, exists_eq', eq_self, and_assoc, rIsS, isTy_bb, isTy_bi, isTy_ib, isTy_ii, isTy_ss, isTy_nb, isTy_ni, Bool.not_true, Bool.not_false, not_true_eq_false, not_false_eq_true, tChain, tRz1, tRz2, rIsX, tFx, tMethE, tCallS, tCallZ, tMeth, tMake, tFld, sFld, HO.ins.injEq, HO.lst.injEq, HO.dK.injEq, HO.tup.injEq, dcAt, rDInM, rDGetM, rDSetM, rDLenM, keyOf_int, keyOf_str, rIsBM, plainV_b, plainV_i, plainV_n, plainV_s, rInM, rListM, rSortM, rSumM, rIsD, tBMM, tBM0M, tSl, rSlM, rAppend, rPop, rClear, wAs, reduceCtorEq, false_implies, true_implies, implies_true, forall_const, cxH_K, clsV_ref, clsV_ty, HO.xd.injEq, Value.ref.injEq, lkc, lkn, pfn, pfc, List.map_nil, rExtend, rCat, rRep, tMethE0, rSortD, rPush, rPopH, tDGetM, gAll, iRev, tCB, sDDel, exf_NoRoom T, exf_NoNumber T, sne_Store_room_entries, sne_Store_room_words, sne_Store_entries_words, sne_Store_room__places, sne_Store_entries__places, sne_Store_words__places, sne_Store_room__free, sne_Store_entries__free, sne_Store_words__free, sne_Store__places__free, sne_Store_room__fresh, sne_Store_entries__fresh, sne_Store_words__fresh, sne_Store__places__fresh, sne_Store__free__fresh, T.no_NoRoom_need, T.ex_NoRoom_NoNumber, T.ex_NoRoom_SaggarError, T.kit_NoRoom_NoNumber, T.kit_NoRoom_NoRoom, T.no_NoNumber_limit, T.ex_NoNumber_NoNumber, T.ex_NoNumber_SaggarError, T.kit_NoNumber_NoNumber, T.kit_NoNumber_NoRoom, T.cl_Store, T.no_Store_room, T.no_Store_entries, T.no_Store_words, T.no_Store__places, T.no_Store__free, T.no_Store__fresh]
    refine ⟨by decide, fun d hd => ?_⟩
    have ad : a ≠ d := ne_of_none upd_same hd
    have wd : w ≠ d := ne_of_none (by rw [upd_ne (Ne.symm aw), upd_same]) hd
    have hd0 : H d = none := by
      rw [upd_ne (Ne.symm ad), upd_ne (Ne.symm wd), upd_ne (Ne.symm ad)] at hd
      exact hd
    dsimp only
    rw [upd_ne ad, upd_same]
    simp (config := { maxSteps := 4000000 }) only [tSeq, tNext, tDrop, tRet, tRetN, tIfS, tAsg, tTest, tAnd, tOr, tNot, tAndV, tOrV, tNotV, tIf, tOp, tUn, tVar, tC, tCB, tCons, tNil, tCall, tPart, tNoPart, tM0, tM1, tTup, tLst, tB, tIsN, tNotN, rI0, rI, rU, rEq, rNe, rAdd, gName, gTup, gCons, gNil, gSub, rSetL, rIxL, rIxT, rIxS, L2.start,
      List.map_cons, List.map_nil, List.cons_append, List.nil_append, List.append_nil, List.length_cons, List.length_nil, List.replicate, List.getElem?_cons_zero, List.getElem?_cons_succ, List.set_cons_zero, List.set_cons_succ, Nat.reduceAdd, Nat.reduceSub, Nat.sub_self, Nat.zero_add,
      Option.some.injEq, V.int.injEq, V.str.injEq, V.bl.injEq, V.ref.injEq, V.ty.injEq, List.cons.injEq, and_true, true_and, exists_eq_left, exists_eq_left', exists_eq_right, exists_and_left, exists_and_right, exists_const, decide_eq_true_eq, decide_eq_false_iff_not, if_true, if_false, reduceIte, Bool.false_eq_true, Bool.not_eq_true', sc_ii, sc_ss, sc_bb, str1, cx_K, lstAt, rIxM, rSetM, rLenM, atI_0, atI_1, atI_2, atI_3, setI_0, setI_1, setI_2, setI_3, upd_same, upd_upd, ite_true, ite_false, exists_eq', eq_self, and_assoc, rIsS, isTy_bb, isTy_bi, isTy_ib, isTy_ii, isTy_ss, isTy_nb, isTy_ni, Bool.not_true, Bool.not_false, not_true_eq_false, not_false_eq_true, tChain, tRz1, tRz2, rIsX, tFx, tMethE, tCallS, tCallZ, tMeth, tMake, tFld, sFld, HO.ins.injEq, HO.lst.injEq, HO.dK.injEq, HO.tup.injEq, dcAt, rDInM, rDGetM, rDSetM, rDLenM, keyOf_int, keyOf_str, rIsBM, plainV_b, plainV_i, plainV_n, plainV_s, rInM, rListM, rSortM, rSumM, rIsD, tBMM, tBM0M, tSl, rSlM, rAppend, rPop, rClear, wAs, reduceCtorEq, false_implies, true_implies, implies_true, forall_const, cxH_K, clsV_ref, clsV_ty, HO.xd.injEq, Value.ref.injEq, lkc, lkn, pfn, pfc, List.map_nil, rExtend, rCat, rRep, tMethE0, rSortD, rPush, rPopH, tDGetM, gAll, iRev, tCB, sDDel, exf_NoRoom T, exf_NoNumber T, sne_Store_room_entries, sne_Store_room_words, sne_Store_entries_words, sne_Store_room__places, sne_Store_entries__places, sne_Store_words__places, sne_Store_room__free, sne_Store_entries__free, sne_Store_words__free, sne_Store__places__free, sne_Store_room__fresh, sne_Store_entries__fresh, sne_Store_words__fresh, sne_Store__places__fresh, sne_Store__free__fresh, T.no_NoRoom_need, T.ex_NoRoom_NoNumber, T.ex_NoRoom_SaggarError, T.kit_NoRoom_NoNumber, T.kit_NoRoom_NoRoom, T.no_NoNumber_limit, T.ex_NoNumber_NoNumber, T.ex_NoNumber_SaggarError, T.kit_NoNumber_NoNumber, T.kit_NoNumber_NoRoom, T.cl_Store, T.no_Store_room, T.no_Store_entries, T.no_Store_words, T.no_Store__places, T.no_Store__free, T.no_Store__fresh]
    refine ⟨by decide, Nat.zero_le _, fun f hf => ?_⟩
    have af : a ≠ f := ne_of_none upd_same hf
    have df : d ≠ f := ne_of_none (by rw [upd_ne (Ne.symm ad), upd_same]) hf
    have wf : w ≠ f := ne_of_none (by rw [upd_ne (Ne.symm aw), upd_ne wd, upd_ne (Ne.symm aw), upd_same]) hf
    have hf0 : H f = none := by
      rw [upd_ne (Ne.symm af), upd_ne (Ne.symm df), upd_ne (Ne.symm af), upd_ne (Ne.symm wf), upd_ne (Ne.symm af)] at hf
      exact hf
    rw [upd_ne af, upd_same]
    simp (config := { maxSteps := 4000000 }) only [tSeq, tNext, tDrop, tRet, tRetN, tIfS, tAsg, tTest, tAnd, tOr, tNot, tAndV, tOrV, tNotV, tIf, tOp, tUn, tVar, tC, tCB, tCons, tNil, tCall, tPart, tNoPart, tM0, tM1, tTup, tLst, tB, tIsN, tNotN, rI0, rI, rU, rEq, rNe, rAdd, gName, gTup, gCons, gNil, gSub, rSetL, rIxL, rIxT, rIxS, L2.start,
      List.map_cons, List.map_nil, List.cons_append, List.nil_append, List.append_nil, List.length_cons, List.length_nil, List.replicate, List.getElem?_cons_zero, List.getElem?_cons_succ, List.set_cons_zero, List.set_cons_succ, Nat.reduceAdd, Nat.reduceSub, Nat.sub_self, Nat.zero_add,
      Option.some.injEq, V.int.injEq, V.str.injEq, V.bl.injEq, V.ref.injEq, V.ty.injEq, List.cons.injEq, and_true, true_and, exists_eq_left, exists_eq_left', exists_eq_right, exists_and_left, exists_and_right, exists_const, decide_eq_true_eq, decide_eq_false_iff_not, if_true, if_false, reduceIte, Bool.false_eq_true, Bool.not_eq_true', sc_ii, sc_ss, sc_bb, str1, cx_K, lstAt, rIxM, rSetM, rLenM, atI_0, atI_1, atI_2, atI_3, setI_0, setI_1, setI_2, setI_3, upd_same, upd_upd, ite_true, ite_false, exists_eq', eq_self, and_assoc, rIsS, isTy_bb, isTy_bi, isTy_ib, isTy_ii, isTy_ss, isTy_nb, isTy_ni, Bool.not_true, Bool.not_false, not_true_eq_false, not_false_eq_true, tChain, tRz1, tRz2, rIsX, tFx, tMethE, tCallS, tCallZ, tMeth, tMake, tFld, sFld, HO.ins.injEq, HO.lst.injEq, HO.dK.injEq, HO.tup.injEq, dcAt, rDInM, rDGetM, rDSetM, rDLenM, keyOf_int, keyOf_str, rIsBM, plainV_b, plainV_i, plainV_n, plainV_s, rInM, rListM, rSortM, rSumM, rIsD, tBMM, tBM0M, tSl, rSlM, rAppend, rPop, rClear, wAs, reduceCtorEq, false_implies, true_implies, implies_true, forall_const, cxH_K, clsV_ref, clsV_ty, HO.xd.injEq, Value.ref.injEq, lkc, lkn, pfn, pfc, List.map_nil, rExtend, rCat, rRep, tMethE0, rSortD, rPush, rPopH, tDGetM, gAll, iRev, tCB, sDDel, exf_NoRoom T, exf_NoNumber T, sne_Store_room_entries, sne_Store_room_words, sne_Store_entries_words, sne_Store_room__places, sne_Store_entries__places, sne_Store_words__places, sne_Store_room__free, sne_Store_entries__free, sne_Store_words__free, sne_Store__places__free, sne_Store_room__fresh, sne_Store_entries__fresh, sne_Store_words__fresh, sne_Store__places__fresh, sne_Store__free__fresh, T.no_NoRoom_need, T.ex_NoRoom_NoNumber, T.ex_NoRoom_SaggarError, T.kit_NoRoom_NoNumber, T.kit_NoRoom_NoRoom, T.no_NoNumber_limit, T.ex_NoNumber_NoNumber, T.ex_NoNumber_SaggarError, T.kit_NoNumber_NoNumber, T.kit_NoNumber_NoRoom, T.cl_Store, T.no_Store_room, T.no_Store_entries, T.no_Store_words, T.no_Store__places, T.no_Store__free, T.no_Store__fresh]
    refine ⟨by decide, by decide, ?_⟩
    refine k w d f _ hw0 hd0 hf0 wf upd_same ?_ ?_ ?_ ?_
    · rw [upd_ne (Ne.symm aw), upd_ne wf, upd_ne (Ne.symm aw), upd_ne wd, upd_ne (Ne.symm aw), upd_same]
    · rw [upd_ne (Ne.symm ad), upd_ne df, upd_ne (Ne.symm ad), upd_same]
    · rw [upd_ne (Ne.symm af), upd_same]
    · intro b b1 b2 b3 b4
      rw [upd_ne b1, upd_ne b4, upd_ne b1, upd_ne b3, upd_ne b1, upd_ne b2, upd_ne b1]
end

def sp_used (A : Ad) : Sp := fun vs H Q _ => ∃ a dx w d f rm en ws kvs fr fs F, vs = [.ref a] ∧ Si A H a dx w d f rm en ws kvs fr fs F ∧ Q (.int ws.length) H
theorem sp_used_len {A vs H Q E} (h : sp_used A vs H Q E) : vs.length = (["self"] : List Str).length := by
  obtain ⟨_, _, _, _, _, _, _, _, _, _, _, _, rfl, _⟩ := h
  rfl
theorem used_of {A : Ad} {H : Hp} {a : Addr} {rm en : Int} {row : List OB} {F : Hp} {Q : VK} {E : XK} (S : St A H a rm en row F) (k : Q (.int (flat row).length) H) : sp_used A [.ref a] H Q E := by
  obtain ⟨dx, w, d, f, ws, kvs, fr, fs, I, R⟩ := S
  exact ⟨a, dx, w, d, f, rm, en, ws, kvs, fr, fs, F, rfl, I, by rw [R.ws]; exact k⟩
section
variable {P : Program} {w : World} {K : PySem.W.Frag} {mg : Str → Option Value} {base : Heap} {A : Ad}
theorem ok_Store_used (T : Txt K mg A) : FnOk P w K mg base CX0 1 A.f_Store_used A.d_Store_used ["self"] (sp_used A) := by
  refine Fun.ok T.F_Store_used sc_Store_used (fun vs H Q E h => ?_) (fun cdv Ar outer s H vs Q E hr h => ?_)
  · exact sp_used_len h
  · have hu := hu_of hr
    refine ⟨_, (pss_one (ps_ret (pe_callB call_lenM (by rfl) T.z_len PySem.boot_len (pa_cons (pe_fld (pv 0) rfl) pa_nil)))), ?_⟩
    obtain ⟨a, dx, w, d, f, rm, en, ws, kvs, fr, fs, F, rfl, I, k⟩ := h
    simp (config := { maxSteps := 4000000 }) only [tSeq, tNext, tDrop, tRet, tRetN, tIfS, tAsg, tTest, tAnd, tOr, tNot, tAndV, tOrV, tNotV, tIf, tOp, tUn, tVar, tC, tCB, tCons, tNil, tCall, tPart, tNoPart, tM0, tM1, tTup, tLst, tB, tIsN, tNotN, rI0, rI, rU, rEq, rNe, rAdd, gName, gTup, gCons, gNil, gSub, rSetL, rIxL, rIxT, rIxS, L2.start,
      List.map_cons, List.map_nil, List.cons_append, List.nil_append, List.append_nil, List.length_cons, List.length_nil, List.replicate, List.getElem?_cons_zero, List.getElem?_cons_succ, List.set_cons_zero, List.set_cons_succ, Nat.reduceAdd, Nat.reduceSub, Nat.sub_self, Nat.zero_add,
      Option.some.injEq, V.int.injEq, V.str.injEq, V.bl.injEq, V.ref.injEq, V.ty.injEq, List.cons.injEq, and_true, true_and, exists_eq_left, exists_eq_left', exists_eq_right, exists_and_left, exists_and_right, exists_const, decide_eq_true_eq, decide_eq_false_iff_not, if_true, if_false, reduceIte, Bool.false_eq_true, Bool.not_eq_true', sc_ii, sc_ss, sc_bb, str1, cx_K, lstAt, rIxM, rSetM, rLenM, atI_0, atI_1, atI_2, atI_3, setI_0, setI_1, setI_2, setI_3, upd_same, upd_upd, ite_true, ite_false, exists_eq', eq_self, and_assoc, rIsS, isTy_bb, isTy_bi, isTy_ib, isTy_ii, isTy_ss, isTy_nb, isTy_ni, Bool.not_true, Bool.not_false, not_true_eq_false, not_false_eq_true, tChain, tRz1, tRz2, rIsX, tFx, tMethE, tCallS, tCallZ, tMeth, tMake, tFld, sFld, HO.ins.injEq, HO.lst.injEq, HO.dK.injEq, HO.tup.injEq, dcAt, rDInM, rDGetM, rDSetM, rDLenM, keyOf_int, keyOf_str, rIsBM, plainV_b, plainV_i, plainV_n, plainV_s, rInM, rListM, rSortM, rSumM, rIsD, tBMM, tBM0M, tSl, rSlM, rAppend, rPop, rClear, wAs, reduceCtorEq, false_implies, true_implies, implies_true, forall_const, cxH_K, clsV_ref, clsV_ty, HO.xd.injEq, Value.ref.injEq, lkc, lkn, pfn, pfc, List.map_nil, rExtend, rCat, rRep, tMethE0, rSortD, rPush, rPopH, tDGetM, gAll, iRev, tCB, sDDel, exf_NoRoom T, exf_NoNumber T, sne_Store_room_entries, sne_Store_room_words, sne_Store_entries_words, sne_Store_room__places, sne_Store_entries__places, sne_Store_words__places, sne_Store_room__free, sne_Store_entries__free, sne_Store_words__free, sne_Store__places__free, sne_Store_room__fresh, sne_Store_entries__fresh, sne_Store_words__fresh, sne_Store__places__fresh, sne_Store__free__fresh, T.no_NoRoom_need, T.ex_NoRoom_NoNumber, T.ex_NoRoom_SaggarError, T.kit_NoRoom_NoNumber, T.kit_NoRoom_NoRoom, T.no_NoNumber_limit, T.ex_NoNumber_NoNumber, T.ex_NoNumber_SaggarError, T.kit_NoNumber_NoNumber, T.kit_NoNumber_NoRoom, I.ho, I.hw, I.hd, I.hf, T.cl_Store, T.no_Store_room, T.no_Store_entries, T.no_Store_words, T.no_Store__places, T.no_Store__free, T.no_Store__fresh, stF_room, stF_entries, stF_words, stF_places, stF_free, stF_fresh, stF_mused, stF_mexists, stF_mnumbers, stF_mfree, stF_malloc, stF_msize, stF_mkind, stF_mskind, stF_mget, stF_mput, stF_mslots, stF_mdrop, stF_mclose, stF_msnap, stF_mrest, stF_mexch, stF_len, stF_pf, stF_pd, stF_pl, List.length_map]
    exact k
end

def sp_exists (A : Ad) : Sp := fun vs H Q _ => ∃ a rm en row F n, vs = [.ref a, .int n] ∧ St A H a rm en row F ∧ Q (.bl (decide (n ∈ nums row))) H
theorem sp_exists_len {A vs H Q E} (h : sp_exists A vs H Q E) : vs.length = (["self", "number"] : List Str).length := by
  obtain ⟨_, _, _, _, _, _, rfl, _⟩ := h
  rfl
section
variable {P : Program} {w : World} {K : PySem.W.Frag} {mg : Str → Option Value} {base : Heap} {A : Ad}
theorem ok_Store_exists (T : Txt K mg A) : FnOk P w K mg base CX0 1 A.f_Store_exists A.d_Store_exists ["self", "number"] (sp_exists A) := by
  refine Fun.ok T.F_Store_exists sc_Store_exists (fun vs H Q E h => ?_) (fun cdv Ar outer s H vs Q E hr h => ?_)
  · exact sp_exists_len h
  · have hu := hu_of hr
    refine ⟨_, (pss_one (ps_ret (pe_cmpR (op_dinM hu) (pv 1) (pe_fld (pv 0) rfl) (by rfl)))), ?_⟩
    obtain ⟨a, rm, en, row, F, n, rfl, ⟨dx, w, d, f, ws, kvs, fr, fs, I, R⟩, k⟩ := h
    simp (config := { maxSteps := 4000000 }) only [tSeq, tNext, tDrop, tRet, tRetN, tIfS, tAsg, tTest, tAnd, tOr, tNot, tAndV, tOrV, tNotV, tIf, tOp, tUn, tVar, tC, tCB, tCons, tNil, tCall, tPart, tNoPart, tM0, tM1, tTup, tLst, tB, tIsN, tNotN, rI0, rI, rU, rEq, rNe, rAdd, gName, gTup, gCons, gNil, gSub, rSetL, rIxL, rIxT, rIxS, L2.start,
      List.map_cons, List.map_nil, List.cons_append, List.nil_append, List.append_nil, List.length_cons, List.length_nil, List.replicate, List.getElem?_cons_zero, List.getElem?_cons_succ, List.set_cons_zero, List.set_cons_succ, Nat.reduceAdd, Nat.reduceSub, Nat.sub_self, Nat.zero_add,
      Option.some.injEq, V.int.injEq, V.str.injEq, V.bl.injEq, V.ref.injEq, V.ty.injEq, List.cons.injEq, and_true, true_and, exists_eq_left, exists_eq_left', exists_eq_right, exists_and_left, exists_and_right, exists_const, decide_eq_true_eq, decide_eq_false_iff_not, if_true, if_false, reduceIte, Bool.false_eq_true, Bool.not_eq_true', sc_ii, sc_ss, sc_bb, str1, cx_K, lstAt, rIxM, rSetM, rLenM, atI_0, atI_1, atI_2, atI_3, setI_0, setI_1, setI_2, setI_3, upd_same, upd_upd, ite_true, ite_false, exists_eq', eq_self, and_assoc, rIsS, isTy_bb, isTy_bi, isTy_ib, isTy_ii, isTy_ss, isTy_nb, isTy_ni, Bool.not_true, Bool.not_false, not_true_eq_false, not_false_eq_true, tChain, tRz1, tRz2, rIsX, tFx, tMethE, tCallS, tCallZ, tMeth, tMake, tFld, sFld, HO.ins.injEq, HO.lst.injEq, HO.dK.injEq, HO.tup.injEq, dcAt, rDInM, rDGetM, rDSetM, rDLenM, keyOf_int, keyOf_str, rIsBM, plainV_b, plainV_i, plainV_n, plainV_s, rInM, rListM, rSortM, rSumM, rIsD, tBMM, tBM0M, tSl, rSlM, rAppend, rPop, rClear, wAs, reduceCtorEq, false_implies, true_implies, implies_true, forall_const, cxH_K, clsV_ref, clsV_ty, HO.xd.injEq, Value.ref.injEq, lkc, lkn, pfn, pfc, List.map_nil, rExtend, rCat, rRep, tMethE0, rSortD, rPush, rPopH, tDGetM, gAll, iRev, tCB, sDDel, exf_NoRoom T, exf_NoNumber T, sne_Store_room_entries, sne_Store_room_words, sne_Store_entries_words, sne_Store_room__places, sne_Store_entries__places, sne_Store_words__places, sne_Store_room__free, sne_Store_entries__free, sne_Store_words__free, sne_Store__places__free, sne_Store_room__fresh, sne_Store_entries__fresh, sne_Store_words__fresh, sne_Store__places__fresh, sne_Store__free__fresh, T.no_NoRoom_need, T.ex_NoRoom_NoNumber, T.ex_NoRoom_SaggarError, T.kit_NoRoom_NoNumber, T.kit_NoRoom_NoRoom, T.no_NoNumber_limit, T.ex_NoNumber_NoNumber, T.ex_NoNumber_SaggarError, T.kit_NoNumber_NoNumber, T.kit_NoNumber_NoRoom, I.ho, I.hw, I.hd, I.hf, T.cl_Store, T.no_Store_room, T.no_Store_entries, T.no_Store_words, T.no_Store__places, T.no_Store__free, T.no_Store__fresh, stF_room, stF_entries, stF_words, stF_places, stF_free, stF_fresh, stF_mused, stF_mexists, stF_mnumbers, stF_mfree, stF_malloc, stF_msize, stF_mkind, stF_mskind, stF_mget, stF_mput, stF_mslots, stF_mdrop, stF_mclose, stF_msnap, stF_mrest, stF_mexch, stF_len, stF_pf, stF_pd, stF_pl, List.length_map]
    rw [R.pk.1, Option.isSome_map, pos_some]
    exact k
end

def sp_numbers (A : Ad) : Sp := fun vs H Q _ => ∃ a rm en row F, vs = [.ref a] ∧ St A H a rm en row F ∧ ∀ (ys : List Int) (p : Addr), ys.Perm (nums row) → ys.Pairwise (· ≤ ·) → H p = none → Q (.ref p) (upd H p (.lst (ys.map V.int)))
theorem sp_numbers_len {A vs H Q E} (h : sp_numbers A vs H Q E) : vs.length = (["self"] : List Str).length := by
  obtain ⟨_, _, _, _, _, rfl, _⟩ := h
  rfl
section
variable {P : Program} {w : World} {K : PySem.W.Frag} {mg : Str → Option Value} {base : Heap} {A : Ad}
theorem ok_Store_numbers (T : Txt K mg A) : FnOk P w K mg base CX0 1 A.f_Store_numbers A.d_Store_numbers ["self"] (sp_numbers A) := by
  refine Fun.ok T.F_Store_numbers sc_Store_numbers (fun vs H Q E h => ?_) (fun cdv Ar outer s H vs Q E hr h => ?_)
  · exact sp_numbers_len h
  · have hu := hu_of hr
    refine ⟨_, (pss_one (ps_ret (pe_callB (call_sortD rfl) (by rfl) T.z_sorted (by decide +kernel) (pa_cons (pe_fld (pv 0) rfl) pa_nil)))), ?_⟩
    obtain ⟨a, rm, en, row, F, rfl, ⟨dx, w, d, f, ws, kvs, fr, fs, I, R⟩, k⟩ := h
    simp (config := { maxSteps := 4000000 }) only [tSeq, tNext, tDrop, tRet, tRetN, tIfS, tAsg, tTest, tAnd, tOr, tNot, tAndV, tOrV, tNotV, tIf, tOp, tUn, tVar, tC, tCB, tCons, tNil, tCall, tPart, tNoPart, tM0, tM1, tTup, tLst, tB, tIsN, tNotN, rI0, rI, rU, rEq, rNe, rAdd, gName, gTup, gCons, gNil, gSub, rSetL, rIxL, rIxT, rIxS, L2.start,
      List.map_cons, List.map_nil, List.cons_append, List.nil_append, List.append_nil, List.length_cons, List.length_nil, List.replicate, List.getElem?_cons_zero, List.getElem?_cons_succ, List.set_cons_zero, List.set_cons_succ, Nat.reduceAdd, Nat.reduceSub, Nat.sub_self, Nat.zero_add,
      Option.some.injEq, V.int.injEq, V.str.injEq, V.bl.injEq, V.ref.injEq, V.ty.injEq, List.cons.injEq, and_true, true_and, exists_eq_left, exists_eq_left', exists_eq_right, exists_and_left, exists_and_right, exists_const, decide_eq_true_eq, decide_eq_false_iff_not, if_true, if_false, reduceIte, Bool.false_eq_true, Bool.not_eq_true', sc_ii, sc_ss, sc_bb, str1, cx_K, lstAt, rIxM, rSetM, rLenM, atI_0, atI_1, atI_2, atI_3, setI_0, setI_1, setI_2, setI_3, upd_same, upd_upd, ite_true, ite_false, exists_eq', eq_self, and_assoc, rIsS, isTy_bb, isTy_bi, isTy_ib, isTy_ii, isTy_ss, isTy_nb, isTy_ni, Bool.not_true, Bool.not_false, not_true_eq_false, not_false_eq_true, tChain, tRz1, tRz2, rIsX, tFx, tMethE, tCallS, tCallZ, tMeth, tMake, tFld, sFld, HO.ins.injEq, HO.lst.injEq, HO.dK.injEq, HO.tup.injEq, dcAt, rDInM, rDGetM, rDSetM, rDLenM, keyOf_int, keyOf_str, rIsBM, plainV_b, plainV_i, plainV_n, plainV_s, rInM, rListM, rSortM, rSumM, rIsD, tBMM, tBM0M, tSl, rSlM, rAppend, rPop, rClear, wAs, reduceCtorEq, false_implies, true_implies, implies_true, forall_const, cxH_K, clsV_ref, clsV_ty, HO.xd.injEq, Value.ref.injEq, lkc, lkn, pfn, pfc, List.map_nil, rExtend, rCat, rRep, tMethE0, rSortD, rPush, rPopH, tDGetM, gAll, iRev, tCB, sDDel, exf_NoRoom T, exf_NoNumber T, sne_Store_room_entries, sne_Store_room_words, sne_Store_entries_words, sne_Store_room__places, sne_Store_entries__places, sne_Store_words__places, sne_Store_room__free, sne_Store_entries__free, sne_Store_words__free, sne_Store__places__free, sne_Store_room__fresh, sne_Store_entries__fresh, sne_Store_words__fresh, sne_Store__places__fresh, sne_Store__free__fresh, T.no_NoRoom_need, T.ex_NoRoom_NoNumber, T.ex_NoRoom_SaggarError, T.kit_NoRoom_NoNumber, T.kit_NoRoom_NoRoom, T.no_NoNumber_limit, T.ex_NoNumber_NoNumber, T.ex_NoNumber_SaggarError, T.kit_NoNumber_NoNumber, T.kit_NoNumber_NoRoom, I.ho, I.hw, I.hd, I.hf, T.cl_Store, T.no_Store_room, T.no_Store_entries, T.no_Store_words, T.no_Store__places, T.no_Store__free, T.no_Store__fresh, stF_room, stF_entries, stF_words, stF_places, stF_free, stF_fresh, stF_mused, stF_mexists, stF_mnumbers, stF_mfree, stF_malloc, stF_msize, stF_mkind, stF_mskind, stF_mget, stF_mput, stF_mslots, stF_mdrop, stF_mclose, stF_msnap, stF_mrest, stF_mexch, stF_len, stF_pf, stF_pd, stF_pl, List.length_map]
    obtain ⟨_, ks, h1, h2⟩ := R.pk
    exact ⟨ks, h1, fun ys p h3 h4 h5 => k ys p (h3.trans h2) h4 h5⟩
end

def sp_free (A : Ad) : Sp := fun vs H Q E => ∃ a rm en row F, vs = [.ref a] ∧ St A H a rm en row F ∧ ∀ n, IsFree row n → (n < en → Q (.int n) H) ∧ (en ≤ n → ∀ dd, H dd = none → E (.ref A.C_NoNumber) (some dd) (upd H dd (.xd [("limit", .int en)])))
theorem sp_free_len {A vs H Q E} (h : sp_free A vs H Q E) : vs.length = (["self"] : List Str).length := by
  obtain ⟨_, _, _, _, _, rfl, _⟩ := h
  rfl
section
variable {P : Program} {w : World} {K : PySem.W.Frag} {mg : Str → Option Value} {base : Heap} {A : Ad}
theorem ok_Store_free_number (T : Txt K mg A) : FnOk P w K mg base (L2N.CX P w) 3 A.f_Store_free_number A.d_Store_free_number ["self"] (sp_free A) := by
  refine okN T.F_Store_free_number sc_Store_free_number (fun vs H Q E h => ?_) (fun cdv Ar outer s H vs Q E hr h => ?_)
  · exact sp_free_len h
  · have hu := hu_of hr
    refine ⟨_, (pss_cons (ps_if (pt_truth (pe_fld (pv 0) rfl) (by intro _; rfl)) (pss_one (ps_ret (pe_ix ix_lstM (pe_fld (pv 0) rfl) pe_int (fun _ _ => rfl)))) pss_nil)
    (pss_cons (ps_if (pt_cmpR op_ge (pe_fld (pv 0) rfl) (pe_fld (pv 0) rfl) (nomark _)) (pss_one (ps_rz1 rfl T.x_NoNumber (ok_NoNumber___init__ T) (hr.mono (by decide)) T.b_NoNumber___init__ (L2N.takes_of rfl rfl rfl rfl) (by rfl) T.m_NoNumber (pa_cons (pe_fld (pv 0) rfl) pa_nil))) pss_nil)
    (pss_one (ps_ret (pe_fld (pv 0) rfl))))), ?_⟩
    obtain ⟨a, rm, en, row, F, rfl, ⟨dx, w, d, f, ws, kvs, fr, fs, I, R⟩, k⟩ := h
    simp (config := { maxSteps := 4000000 }) only [tSeq, tNext, tDrop, tRet, tRetN, tIfS, tAsg, tTest, tAnd, tOr, tNot, tAndV, tOrV, tNotV, tIf, tOp, tUn, tVar, tC, tCB, tCons, tNil, tCall, tPart, tNoPart, tM0, tM1, tTup, tLst, tB, tIsN, tNotN, rI0, rI, rU, rEq, rNe, rAdd, gName, gTup, gCons, gNil, gSub, rSetL, rIxL, rIxT, rIxS, L2.start,
      List.map_cons, List.map_nil, List.cons_append, List.nil_append, List.append_nil, List.length_cons, List.length_nil, List.replicate, List.getElem?_cons_zero, List.getElem?_cons_succ, List.set_cons_zero, List.set_cons_succ, Nat.reduceAdd, Nat.reduceSub, Nat.sub_self, Nat.zero_add,
      Option.some.injEq, V.int.injEq, V.str.injEq, V.bl.injEq, V.ref.injEq, V.ty.injEq, List.cons.injEq, and_true, true_and, exists_eq_left, exists_eq_left', exists_eq_right, exists_and_left, exists_and_right, exists_const, decide_eq_true_eq, decide_eq_false_iff_not, if_true, if_false, reduceIte, Bool.false_eq_true, Bool.not_eq_true', sc_ii, sc_ss, sc_bb, str1, cx_K, lstAt, rIxM, rSetM, rLenM, atI_0, atI_1, atI_2, atI_3, setI_0, setI_1, setI_2, setI_3, upd_same, upd_upd, ite_true, ite_false, exists_eq', eq_self, and_assoc, rIsS, isTy_bb, isTy_bi, isTy_ib, isTy_ii, isTy_ss, isTy_nb, isTy_ni, Bool.not_true, Bool.not_false, not_true_eq_false, not_false_eq_true, tChain, tRz1, tRz2, rIsX, tFx, tMethE, tCallS, tCallZ, tMeth, tMake, tFld, sFld, HO.ins.injEq, HO.lst.injEq, HO.dK.injEq, HO.tup.injEq, dcAt, rDInM, rDGetM, rDSetM, rDLenM, keyOf_int, keyOf_str, rIsBM, plainV_b, plainV_i, plainV_n, plainV_s, rInM, rListM, rSortM, rSumM, rIsD, tBMM, tBM0M, tSl, rSlM, rAppend, rPop, rClear, wAs, reduceCtorEq, false_implies, true_implies, implies_true, forall_const, cxH_K, clsV_ref, clsV_ty, HO.xd.injEq, Value.ref.injEq, lkc, lkn, pfn, pfc, List.map_nil, rExtend, rCat, rRep, tMethE0, rSortD, rPush, rPopH, tDGetM, gAll, iRev, tCB, sDDel, exf_NoRoom T, exf_NoNumber T, sne_Store_room_entries, sne_Store_room_words, sne_Store_entries_words, sne_Store_room__places, sne_Store_entries__places, sne_Store_words__places, sne_Store_room__free, sne_Store_entries__free, sne_Store_words__free, sne_Store__places__free, sne_Store_room__fresh, sne_Store_entries__fresh, sne_Store_words__fresh, sne_Store__places__fresh, sne_Store__free__fresh, T.no_NoRoom_need, T.ex_NoRoom_NoNumber, T.ex_NoRoom_SaggarError, T.kit_NoRoom_NoNumber, T.kit_NoRoom_NoRoom, T.no_NoNumber_limit, T.ex_NoNumber_NoNumber, T.ex_NoNumber_SaggarError, T.kit_NoNumber_NoNumber, T.kit_NoNumber_NoRoom, I.ho, I.hw, I.hd, I.hf, T.cl_Store, T.no_Store_room, T.no_Store_entries, T.no_Store_words, T.no_Store__places, T.no_Store__free, T.no_Store__fresh, stF_room, stF_entries, stF_words, stF_places, stF_free, stF_fresh, stF_mused, stF_mexists, stF_mnumbers, stF_mfree, stF_malloc, stF_msize, stF_mkind, stF_mskind, stF_mget, stF_mput, stF_mslots, stF_mdrop, stF_mclose, stF_msnap, stF_mrest, stF_mexch, stF_len, stF_pf, stF_pd, stF_pl, List.length_map]
    refine ⟨!(fr.map V.int).isEmpty, .inl ⟨_, .inl (.inl I.hf), rfl⟩, ?_⟩
    cases fr with
    | nil =>
      obtain ⟨k1, k2⟩ := k fs R.free_nil
      simp only [List.map_nil, List.isEmpty_nil, Bool.not_true, Bool.false_eq_true, if_false]
      refine ite2 (fun c => k2 c) (fun c => k1 (by omega))
    | cons x fr =>
      obtain ⟨k1, k2⟩ := k x R.free_hd.1
      simp only [List.map_cons, List.isEmpty_cons, Bool.not_false, if_true]
      exact ⟨_, atI_0, k1 R.free_hd.2⟩
end

def sp_alloc (A : Ad) : Sp := fun vs H Q E => ∃ (a : Addr) (rm en : Int) (row : List OB) (F : Hp) (kd : Int) (m : Nat), vs = [.ref a, .int kd, .int (m : Int)] ∧ St A H a rm en row F ∧ (flat row).length + (3 + m) ≤ 100000 ∧
  (rm < ((flat row).length : Int) + (3 + (m : Int)) → ∀ dd, H dd = none → E (.ref A.C_NoRoom) (some dd) (upd H dd (.xd [("need", .int (3 + (m : Int)))]))) ∧
  (((flat row).length : Int) + (3 + (m : Int)) ≤ rm → ∀ n, IsFree row n → (en ≤ n → ∀ dd, H dd = none → E (.ref A.C_NoNumber) (some dd) (upd H dd (.xd [("limit", .int en)]))) ∧
    (n < en → ∀ H', St A H' a rm en (row ++ [⟨n, kd, List.replicate m 0, true⟩]) F → Q (.int n) H'))
theorem sp_alloc_len {A vs H Q E} (h : sp_alloc A vs H Q E) : vs.length = (["self", "kind", "size"] : List Str).length := by
  obtain ⟨_, _, _, _, _, _, _, rfl, _⟩ := h
  rfl
section
variable {P : Program} {w : World} {K : PySem.W.Frag} {mg : Str → Option Value} {base : Heap} {A : Ad}
theorem ok_Store_allocate (T : Txt K mg A) : FnOk P w K mg base (L2N.CX P w) 4 A.f_Store_allocate A.d_Store_allocate ["self", "kind", "size"] (sp_alloc A) := by
  refine okN T.F_Store_allocate sc_Store_allocate (fun vs H Q E h => ?_) (fun cdv Ar outer s H vs Q E hr h => ?_)
  · exact sp_alloc_len h
  · have hu := hu_of hr
    refine ⟨_, (pss_cons (ps_asg (pe_op op_add (pe_glob (v := .int (3)) (by rfl) T.c_HEADER ⟨_, rfl⟩) (pv 2)) (pg_name (i := 3) sc_Store_allocate.nd rfl (Or.inl rfl)))
    (pss_cons (ps_if (pt_cmpR op_gt (pe_op op_add (pe_meth0 (pv 0) T.cl_Store T.me_Store_used (ok_Store_used T) (hr.mono (by decide)) T.b_Store_used .nil pass0) (pv 3)) (pe_fld (pv 0) rfl) (nomark _)) (pss_one (ps_rz1 rfl T.x_NoRoom (ok_NoRoom___init__ T) (hr.mono (by decide)) T.b_NoRoom___init__ (L2N.takes_of rfl rfl rfl rfl) (by rfl) T.m_NoRoom (pa_cons (pv 3) pa_nil))) pss_nil)
    (pss_cons (ps_asg (pe_methE0 (pv 0) T.cl_Store T.me_Store_free_number (ok_Store_free_number T) (hr.mono (by decide)) T.b_Store_free_number (fun σ => L2N.passAt (L2N.takes_of rfl rfl rfl rfl) σ)) (pg_name (i := 4) sc_Store_allocate.nd rfl (Or.inl rfl)))
    (Evl.pss_cut (ps_if (pt_truth (pe_fld (pv 0) rfl) (by intro _; rfl)) (pss_one (ps_expr (StS.pe_callG call_popH (by rfl) T.h_heappop (pa_cons (pe_fld (pv 0) rfl) pa_nil)))) (pss_one (ps_fld (pv 0) (pe_op op_add (pv 4) pe_int) rfl)))
    (pss_cons (ps_asg (pe_meth0 (pv 0) T.cl_Store T.me_Store_used (ok_Store_used T) (hr.mono (by decide)) T.b_Store_used .nil pass0) (pg_sub (pe_fld (pv 0) rfl) (pv 4) (set_dictM hu)))
    (pss_cons (ps_expr (pe_bmM PySem.F.slot_list_extend PySem.F.type_list_extend mt_extend (pe_fld (pv 0) rfl) (pa_cons (pe_op op_cat (pe_lst (pa_cons (pv 4) (pa_cons (pv 2) (pa_cons (pv 1) pa_nil)))) (pe_op op_rep (pe_lst (pa_cons (pe_glob (v := .int (0)) (by rfl) T.c_NIL ⟨_, rfl⟩) pa_nil)) (pv 2))) pa_nil)))
    (pss_one (ps_ret (pv 4))))))))), ?_⟩
    obtain ⟨a, rm, en, row, F, kd, m, rfl, S, hz, k1, k2⟩ := h
    have S0 := S
    obtain ⟨dx, w, d, f, ws, kvs, fr, fs, I, R⟩ := S
    have sz : (200000 : Nat) ≤ sizeLine := by decide
    have p63 : (100000 : Int) < 2 ^ 63 := by decide
    simp (config := { maxSteps := 4000000 }) only [tSeq, tNext, tDrop, tRet, tRetN, tIfS, tAsg, tTest, tAnd, tOr, tNot, tAndV, tOrV, tNotV, tIf, tOp, tUn, tVar, tC, tCB, tCons, tNil, tCall, tPart, tNoPart, tM0, tM1, tTup, tLst, tB, tIsN, tNotN, rI0, rI, rU, rEq, rNe, rAdd, gName, gTup, gCons, gNil, gSub, rSetL, rIxL, rIxT, rIxS, L2.start,
      List.map_cons, List.map_nil, List.cons_append, List.nil_append, List.append_nil, List.length_cons, List.length_nil, List.replicate, List.getElem?_cons_zero, List.getElem?_cons_succ, List.set_cons_zero, List.set_cons_succ, Nat.reduceAdd, Nat.reduceSub, Nat.sub_self, Nat.zero_add,
      Option.some.injEq, V.int.injEq, V.str.injEq, V.bl.injEq, V.ref.injEq, V.ty.injEq, List.cons.injEq, and_true, true_and, exists_eq_left, exists_eq_left', exists_eq_right, exists_and_left, exists_and_right, exists_const, decide_eq_true_eq, decide_eq_false_iff_not, if_true, if_false, reduceIte, Bool.false_eq_true, Bool.not_eq_true', sc_ii, sc_ss, sc_bb, str1, cx_K, lstAt, rIxM, rSetM, rLenM, atI_0, atI_1, atI_2, atI_3, setI_0, setI_1, setI_2, setI_3, upd_same, upd_upd, ite_true, ite_false, exists_eq', eq_self, and_assoc, rIsS, isTy_bb, isTy_bi, isTy_ib, isTy_ii, isTy_ss, isTy_nb, isTy_ni, Bool.not_true, Bool.not_false, not_true_eq_false, not_false_eq_true, tChain, tRz1, tRz2, rIsX, tFx, tMethE, tCallS, tCallZ, tMeth, tMake, tFld, sFld, HO.ins.injEq, HO.lst.injEq, HO.dK.injEq, HO.tup.injEq, dcAt, rDInM, rDGetM, rDSetM, rDLenM, keyOf_int, keyOf_str, rIsBM, plainV_b, plainV_i, plainV_n, plainV_s, rInM, rListM, rSortM, rSumM, rIsD, tBMM, tBM0M, tSl, rSlM, rAppend, rPop, rClear, wAs, reduceCtorEq, false_implies, true_implies, implies_true, forall_const, cxH_K, clsV_ref, clsV_ty, HO.xd.injEq, Value.ref.injEq, lkc, lkn, pfn, pfc, List.map_nil, rExtend, rCat, rRep, tMethE0, rSortD, rPush, rPopH, tDGetM, gAll, iRev, tCB, sDDel, exf_NoRoom T, exf_NoNumber T, sne_Store_room_entries, sne_Store_room_words, sne_Store_entries_words, sne_Store_room__places, sne_Store_entries__places, sne_Store_words__places, sne_Store_room__free, sne_Store_entries__free, sne_Store_words__free, sne_Store__places__free, sne_Store_room__fresh, sne_Store_entries__fresh, sne_Store_words__fresh, sne_Store__places__fresh, sne_Store__free__fresh, T.no_NoRoom_need, T.ex_NoRoom_NoNumber, T.ex_NoRoom_SaggarError, T.kit_NoRoom_NoNumber, T.kit_NoRoom_NoRoom, T.no_NoNumber_limit, T.ex_NoNumber_NoNumber, T.ex_NoNumber_SaggarError, T.kit_NoNumber_NoNumber, T.kit_NoNumber_NoRoom, I.ho, I.hw, I.hd, I.hf, T.cl_Store, T.no_Store_room, T.no_Store_entries, T.no_Store_words, T.no_Store__places, T.no_Store__free, T.no_Store__fresh, stF_room, stF_entries, stF_words, stF_places, stF_free, stF_fresh, stF_mused, stF_mexists, stF_mnumbers, stF_mfree, stF_malloc, stF_msize, stF_mkind, stF_mskind, stF_mget, stF_mput, stF_mslots, stF_mdrop, stF_mclose, stF_msnap, stF_mrest, stF_mexch, stF_len, stF_pf, stF_pd, stF_pl, List.length_map]
    refine used_of S0 ?_
    simp (config := { maxSteps := 4000000 }) only [tSeq, tNext, tDrop, tRet, tRetN, tIfS, tAsg, tTest, tAnd, tOr, tNot, tAndV, tOrV, tNotV, tIf, tOp, tUn, tVar, tC, tCB, tCons, tNil, tCall, tPart, tNoPart, tM0, tM1, tTup, tLst, tB, tIsN, tNotN, rI0, rI, rU, rEq, rNe, rAdd, gName, gTup, gCons, gNil, gSub, rSetL, rIxL, rIxT, rIxS, L2.start,
      List.map_cons, List.map_nil, List.cons_append, List.nil_append, List.append_nil, List.length_cons, List.length_nil, List.replicate, List.getElem?_cons_zero, List.getElem?_cons_succ, List.set_cons_zero, List.set_cons_succ, Nat.reduceAdd, Nat.reduceSub, Nat.sub_self, Nat.zero_add,
      Option.some.injEq, V.int.injEq, V.str.injEq, V.bl.injEq, V.ref.injEq, V.ty.injEq, List.cons.injEq, and_true, true_and, exists_eq_left, exists_eq_left', exists_eq_right, exists_and_left, exists_and_right, exists_const, decide_eq_true_eq, decide_eq_false_iff_not, if_true, if_false, reduceIte, Bool.false_eq_true, Bool.not_eq_true', sc_ii, sc_ss, sc_bb, str1, cx_K, lstAt, rIxM, rSetM, rLenM, atI_0, atI_1, atI_2, atI_3, setI_0, setI_1, setI_2, setI_3, upd_same, upd_upd, ite_true, ite_false, exists_eq', eq_self, and_assoc, rIsS, isTy_bb, isTy_bi, isTy_ib, isTy_ii, isTy_ss, isTy_nb, isTy_ni, Bool.not_true, Bool.not_false, not_true_eq_false, not_false_eq_true, tChain, tRz1, tRz2, rIsX, tFx, tMethE, tCallS, tCallZ, tMeth, tMake, tFld, sFld, HO.ins.injEq, HO.lst.injEq, HO.dK.injEq, HO.tup.injEq, dcAt, rDInM, rDGetM, rDSetM, rDLenM, keyOf_int, keyOf_str, rIsBM, plainV_b, plainV_i, plainV_n, plainV_s, rInM, rListM, rSortM, rSumM, rIsD, tBMM, tBM0M, tSl, rSlM, rAppend, rPop, rClear, wAs, reduceCtorEq, false_implies, true_implies, implies_true, forall_const, cxH_K, clsV_ref, clsV_ty, HO.xd.injEq, Value.ref.injEq, lkc, lkn, pfn, pfc, List.map_nil, rExtend, rCat, rRep, tMethE0, rSortD, rPush, rPopH, tDGetM, gAll, iRev, tCB, sDDel, exf_NoRoom T, exf_NoNumber T, sne_Store_room_entries, sne_Store_room_words, sne_Store_entries_words, sne_Store_room__places, sne_Store_entries__places, sne_Store_words__places, sne_Store_room__free, sne_Store_entries__free, sne_Store_words__free, sne_Store__places__free, sne_Store_room__fresh, sne_Store_entries__fresh, sne_Store_words__fresh, sne_Store__places__fresh, sne_Store__free__fresh, T.no_NoRoom_need, T.ex_NoRoom_NoNumber, T.ex_NoRoom_SaggarError, T.kit_NoRoom_NoNumber, T.kit_NoRoom_NoRoom, T.no_NoNumber_limit, T.ex_NoNumber_NoNumber, T.ex_NoNumber_SaggarError, T.kit_NoNumber_NoNumber, T.kit_NoNumber_NoRoom, I.ho, I.hw, I.hd, I.hf, T.cl_Store, T.no_Store_room, T.no_Store_entries, T.no_Store_words, T.no_Store__places, T.no_Store__free, T.no_Store__fresh, stF_room, stF_entries, stF_words, stF_places, stF_free, stF_fresh, stF_mused, stF_mexists, stF_mnumbers, stF_mfree, stF_malloc, stF_msize, stF_mkind, stF_mskind, stF_mget, stF_mput, stF_mslots, stF_mdrop, stF_mclose, stF_msnap, stF_mrest, stF_mexch, stF_len, stF_pf, stF_pd, stF_pl, List.length_map]
    refine ite2 (fun c => k1 (by omega)) (fun c => ?_)
    have k3 := k2 (by omega)
    refine ⟨a, rm, en, row, F, rfl, S0, fun n hn => ⟨fun c2 => ?_, fun c2 => (k3 n hn).1 c2⟩⟩
    have k4 := (k3 n hn).2 c2
    refine ⟨fun σ2 H2 => σ2 = [some (V.ref a), some (V.int kd), some (V.int m), some (V.int (3 + m)), some (V.int n)] ∧ ∃ fr' fs', Si A H2 a dx w d f rm en ws kvs fr' fs' F ∧ fr'.Nodup ∧ (∀ x, x ∈ fr' ↔ 0 ≤ x ∧ x < fs' ∧ x ∉ nums row ∧ x ≠ n) ∧ HpL fr' ∧ n < fs' ∧ fs ≤ fs' ∧ fs' ≤ en, ?_, ?_⟩
    · simp (config := { maxSteps := 4000000 }) only [tSeq, tNext, tDrop, tRet, tRetN, tIfS, tAsg, tTest, tAnd, tOr, tNot, tAndV, tOrV, tNotV, tIf, tOp, tUn, tVar, tC, tCB, tCons, tNil, tCall, tPart, tNoPart, tM0, tM1, tTup, tLst, tB, tIsN, tNotN, rI0, rI, rU, rEq, rNe, rAdd, gName, gTup, gCons, gNil, gSub, rSetL, rIxL, rIxT, rIxS, L2.start,
      List.map_cons, List.map_nil, List.cons_append, List.nil_append, List.append_nil, List.length_cons, List.length_nil, List.replicate, List.getElem?_cons_zero, List.getElem?_cons_succ, List.set_cons_zero, List.set_cons_succ, Nat.reduceAdd, Nat.reduceSub, Nat.sub_self, Nat.zero_add,
      Option.some.injEq, V.int.injEq, V.str.injEq, V.bl.injEq, V.ref.injEq, V.ty.injEq, List.cons.injEq, and_true, true_and, exists_eq_left, exists_eq_left', exists_eq_right, exists_and_left, exists_and_right, exists_const, decide_eq_true_eq, decide_eq_false_iff_not, if_true, if_false, reduceIte, Bool.false_eq_true, Bool.not_eq_true', sc_ii, sc_ss, sc_bb, str1, cx_K, lstAt, rIxM, rSetM, rLenM, atI_0, atI_1, atI_2, atI_3, setI_0, setI_1, setI_2, setI_3, upd_same, upd_upd, ite_true, ite_false, exists_eq', eq_self, and_assoc, rIsS, isTy_bb, isTy_bi, isTy_ib, isTy_ii, isTy_ss, isTy_nb, isTy_ni, Bool.not_true, Bool.not_false, not_true_eq_false, not_false_eq_true, tChain, tRz1, tRz2, rIsX, tFx, tMethE, tCallS, tCallZ, tMeth, tMake, tFld, sFld, HO.ins.injEq, HO.lst.injEq, HO.dK.injEq, HO.tup.injEq, dcAt, rDInM, rDGetM, rDSetM, rDLenM, keyOf_int, keyOf_str, rIsBM, plainV_b, plainV_i, plainV_n, plainV_s, rInM, rListM, rSortM, rSumM, rIsD, tBMM, tBM0M, tSl, rSlM, rAppend, rPop, rClear, wAs, reduceCtorEq, false_implies, true_implies, implies_true, forall_const, cxH_K, clsV_ref, clsV_ty, HO.xd.injEq, Value.ref.injEq, lkc, lkn, pfn, pfc, List.map_nil, rExtend, rCat, rRep, tMethE0, rSortD, rPush, rPopH, tDGetM, gAll, iRev, tCB, sDDel, exf_NoRoom T, exf_NoNumber T, sne_Store_room_entries, sne_Store_room_words, sne_Store_entries_words, sne_Store_room__places, sne_Store_entries__places, sne_Store_words__places, sne_Store_room__free, sne_Store_entries__free, sne_Store_words__free, sne_Store__places__free, sne_Store_room__fresh, sne_Store_entries__fresh, sne_Store_words__fresh, sne_Store__places__fresh, sne_Store__free__fresh, T.no_NoRoom_need, T.ex_NoRoom_NoNumber, T.ex_NoRoom_SaggarError, T.kit_NoRoom_NoNumber, T.kit_NoRoom_NoRoom, T.no_NoNumber_limit, T.ex_NoNumber_NoNumber, T.ex_NoNumber_SaggarError, T.kit_NoNumber_NoNumber, T.kit_NoNumber_NoRoom, I.ho, I.hw, I.hd, I.hf, T.cl_Store, T.no_Store_room, T.no_Store_entries, T.no_Store_words, T.no_Store__places, T.no_Store__free, T.no_Store__fresh, stF_room, stF_entries, stF_words, stF_places, stF_free, stF_fresh, stF_mused, stF_mexists, stF_mnumbers, stF_mfree, stF_malloc, stF_msize, stF_mkind, stF_mskind, stF_mget, stF_mput, stF_mslots, stF_mdrop, stF_mclose, stF_msnap, stF_mrest, stF_mexch, stF_len, stF_pf, stF_pd, stF_pl, List.length_map]
      refine ⟨!(fr.map V.int).isEmpty, .inl ⟨_, .inl (.inl I.hf), rfl⟩, ?_⟩
      cases fr with
      | nil =>
        have e := hn.uniq R.free_nil
        subst e
        simp only [List.map_nil, List.isEmpty_nil, Bool.not_true, Bool.false_eq_true, if_false]
        refine ⟨by decide, [], n + 1, I.fresh _, List.nodup_nil, fun x => ?_, HpL.nil, by omega, by omega, by omega⟩
        constructor
        · intro h
          cases h
        · rintro ⟨x0, x1, x2, x3⟩
          exact absurd ((R.fm x).mpr ⟨x0, by omega, x2⟩) (by simp)
      | cons x fr =>
        have e := hn.uniq R.free_hd.1
        subst e
        simp only [List.map_cons, List.isEmpty_cons, Bool.not_false, if_true]
        have fl := R.frl
        refine ⟨n, fr, rfl, by simp at fl; omega, fun ys hp hh => ?_⟩
        have nd := List.nodup_cons.mp R.fn
        refine ⟨ys, fs, I.free ys, hp.nodup_iff.mpr nd.2, fun x => ?_, hh R.hp, ?_, Int.le_refl _, R.fe⟩
        · rw [hp.mem_iff]
          have := R.fm x
          rw [List.mem_cons] at this
          constructor
          · intro hx
            have q := this.mp (.inr hx)
            exact ⟨q.1, q.2.1, q.2.2, fun e => nd.1 (e ▸ hx)⟩
          · rintro ⟨x0, x1, x2, x3⟩
            rcases this.mpr ⟨x0, x1, x2⟩ with e | h
            · exact absurd e x3
            · exact h
        · exact ((R.fm n).mp (List.mem_cons_self ..)).2.1
    · rintro σ2 H2 ⟨rfl, fr', fs', J, n1, n2, n3, n4, n5, n6⟩
      simp (config := { maxSteps := 4000000 }) only [tSeq, tNext, tDrop, tRet, tRetN, tIfS, tAsg, tTest, tAnd, tOr, tNot, tAndV, tOrV, tNotV, tIf, tOp, tUn, tVar, tC, tCB, tCons, tNil, tCall, tPart, tNoPart, tM0, tM1, tTup, tLst, tB, tIsN, tNotN, rI0, rI, rU, rEq, rNe, rAdd, gName, gTup, gCons, gNil, gSub, rSetL, rIxL, rIxT, rIxS, L2.start,
      List.map_cons, List.map_nil, List.cons_append, List.nil_append, List.append_nil, List.length_cons, List.length_nil, List.replicate, List.getElem?_cons_zero, List.getElem?_cons_succ, List.set_cons_zero, List.set_cons_succ, Nat.reduceAdd, Nat.reduceSub, Nat.sub_self, Nat.zero_add,
      Option.some.injEq, V.int.injEq, V.str.injEq, V.bl.injEq, V.ref.injEq, V.ty.injEq, List.cons.injEq, and_true, true_and, exists_eq_left, exists_eq_left', exists_eq_right, exists_and_left, exists_and_right, exists_const, decide_eq_true_eq, decide_eq_false_iff_not, if_true, if_false, reduceIte, Bool.false_eq_true, Bool.not_eq_true', sc_ii, sc_ss, sc_bb, str1, cx_K, lstAt, rIxM, rSetM, rLenM, atI_0, atI_1, atI_2, atI_3, setI_0, setI_1, setI_2, setI_3, upd_same, upd_upd, ite_true, ite_false, exists_eq', eq_self, and_assoc, rIsS, isTy_bb, isTy_bi, isTy_ib, isTy_ii, isTy_ss, isTy_nb, isTy_ni, Bool.not_true, Bool.not_false, not_true_eq_false, not_false_eq_true, tChain, tRz1, tRz2, rIsX, tFx, tMethE, tCallS, tCallZ, tMeth, tMake, tFld, sFld, HO.ins.injEq, HO.lst.injEq, HO.dK.injEq, HO.tup.injEq, dcAt, rDInM, rDGetM, rDSetM, rDLenM, keyOf_int, keyOf_str, rIsBM, plainV_b, plainV_i, plainV_n, plainV_s, rInM, rListM, rSortM, rSumM, rIsD, tBMM, tBM0M, tSl, rSlM, rAppend, rPop, rClear, wAs, reduceCtorEq, false_implies, true_implies, implies_true, forall_const, cxH_K, clsV_ref, clsV_ty, HO.xd.injEq, Value.ref.injEq, lkc, lkn, pfn, pfc, List.map_nil, rExtend, rCat, rRep, tMethE0, rSortD, rPush, rPopH, tDGetM, gAll, iRev, tCB, sDDel, exf_NoRoom T, exf_NoNumber T, sne_Store_room_entries, sne_Store_room_words, sne_Store_entries_words, sne_Store_room__places, sne_Store_entries__places, sne_Store_words__places, sne_Store_room__free, sne_Store_entries__free, sne_Store_words__free, sne_Store__places__free, sne_Store_room__fresh, sne_Store_entries__fresh, sne_Store_words__fresh, sne_Store__places__fresh, sne_Store__free__fresh, T.no_NoRoom_need, T.ex_NoRoom_NoNumber, T.ex_NoRoom_SaggarError, T.kit_NoRoom_NoNumber, T.kit_NoRoom_NoRoom, T.no_NoNumber_limit, T.ex_NoNumber_NoNumber, T.ex_NoNumber_SaggarError, T.kit_NoNumber_NoNumber, T.kit_NoNumber_NoRoom, J.ho, J.hw, J.hd, J.hf, T.cl_Store, T.no_Store_room, T.no_Store_entries, T.no_Store_words, T.no_Store__places, T.no_Store__free, T.no_Store__fresh, stF_room, stF_entries, stF_words, stF_places, stF_free, stF_fresh, stF_mused, stF_mexists, stF_mnumbers, stF_mfree, stF_malloc, stF_msize, stF_mkind, stF_mskind, stF_mget, stF_mput, stF_mslots, stF_mdrop, stF_mclose, stF_msnap, stF_mrest, stF_mexch, stF_len, stF_pf, stF_pd, stF_pl, List.length_map]
      refine ⟨a, dx, w, d, f, rm, en, ws, kvs, fr', fs', F, rfl, J, ?_⟩
      have kl := R.kvl
      have e1 : (List.replicate m [V.int 0]).flatten.length = m := by rw [rep0, List.length_map, List.length_replicate]
      have J2 := J.places (putK kvs (Sum.inl n) (.int (ws.length : Int)))
      simp (config := { maxSteps := 4000000 }) only [tSeq, tNext, tDrop, tRet, tRetN, tIfS, tAsg, tTest, tAnd, tOr, tNot, tAndV, tOrV, tNotV, tIf, tOp, tUn, tVar, tC, tCB, tCons, tNil, tCall, tPart, tNoPart, tM0, tM1, tTup, tLst, tB, tIsN, tNotN, rI0, rI, rU, rEq, rNe, rAdd, gName, gTup, gCons, gNil, gSub, rSetL, rIxL, rIxT, rIxS, L2.start,
      List.map_cons, List.map_nil, List.cons_append, List.nil_append, List.append_nil, List.length_cons, List.length_nil, List.replicate, List.getElem?_cons_zero, List.getElem?_cons_succ, List.set_cons_zero, List.set_cons_succ, Nat.reduceAdd, Nat.reduceSub, Nat.sub_self, Nat.zero_add,
      Option.some.injEq, V.int.injEq, V.str.injEq, V.bl.injEq, V.ref.injEq, V.ty.injEq, List.cons.injEq, and_true, true_and, exists_eq_left, exists_eq_left', exists_eq_right, exists_and_left, exists_and_right, exists_const, decide_eq_true_eq, decide_eq_false_iff_not, if_true, if_false, reduceIte, Bool.false_eq_true, Bool.not_eq_true', sc_ii, sc_ss, sc_bb, str1, cx_K, lstAt, rIxM, rSetM, rLenM, atI_0, atI_1, atI_2, atI_3, setI_0, setI_1, setI_2, setI_3, upd_same, upd_upd, ite_true, ite_false, exists_eq', eq_self, and_assoc, rIsS, isTy_bb, isTy_bi, isTy_ib, isTy_ii, isTy_ss, isTy_nb, isTy_ni, Bool.not_true, Bool.not_false, not_true_eq_false, not_false_eq_true, tChain, tRz1, tRz2, rIsX, tFx, tMethE, tCallS, tCallZ, tMeth, tMake, tFld, sFld, HO.ins.injEq, HO.lst.injEq, HO.dK.injEq, HO.tup.injEq, dcAt, rDInM, rDGetM, rDSetM, rDLenM, keyOf_int, keyOf_str, rIsBM, plainV_b, plainV_i, plainV_n, plainV_s, rInM, rListM, rSortM, rSumM, rIsD, tBMM, tBM0M, tSl, rSlM, rAppend, rPop, rClear, wAs, reduceCtorEq, false_implies, true_implies, implies_true, forall_const, cxH_K, clsV_ref, clsV_ty, HO.xd.injEq, Value.ref.injEq, lkc, lkn, pfn, pfc, List.map_nil, rExtend, rCat, rRep, tMethE0, rSortD, rPush, rPopH, tDGetM, gAll, iRev, tCB, sDDel, exf_NoRoom T, exf_NoNumber T, sne_Store_room_entries, sne_Store_room_words, sne_Store_entries_words, sne_Store_room__places, sne_Store_entries__places, sne_Store_words__places, sne_Store_room__free, sne_Store_entries__free, sne_Store_words__free, sne_Store__places__free, sne_Store_room__fresh, sne_Store_entries__fresh, sne_Store_words__fresh, sne_Store__places__fresh, sne_Store__free__fresh, T.no_NoRoom_need, T.ex_NoRoom_NoNumber, T.ex_NoRoom_SaggarError, T.kit_NoRoom_NoNumber, T.kit_NoRoom_NoRoom, T.no_NoNumber_limit, T.ex_NoNumber_NoNumber, T.ex_NoNumber_SaggarError, T.kit_NoNumber_NoNumber, T.kit_NoNumber_NoRoom, J.ho, J.hw, J.hd, J.hf, T.cl_Store, T.no_Store_room, T.no_Store_entries, T.no_Store_words, T.no_Store__places, T.no_Store__free, T.no_Store__fresh, stF_room, stF_entries, stF_words, stF_places, stF_free, stF_fresh, stF_mused, stF_mexists, stF_mnumbers, stF_mfree, stF_malloc, stF_msize, stF_mkind, stF_mskind, stF_mget, stF_mput, stF_mslots, stF_mdrop, stF_mclose, stF_msnap, stF_mrest, stF_mexch, stF_len, stF_pf, stF_pd, stF_pl, List.length_map]
      refine ⟨by omega, ?_⟩
      simp (config := { maxSteps := 4000000 }) only [tSeq, tNext, tDrop, tRet, tRetN, tIfS, tAsg, tTest, tAnd, tOr, tNot, tAndV, tOrV, tNotV, tIf, tOp, tUn, tVar, tC, tCB, tCons, tNil, tCall, tPart, tNoPart, tM0, tM1, tTup, tLst, tB, tIsN, tNotN, rI0, rI, rU, rEq, rNe, rAdd, gName, gTup, gCons, gNil, gSub, rSetL, rIxL, rIxT, rIxS, L2.start,
      List.map_cons, List.map_nil, List.cons_append, List.nil_append, List.append_nil, List.length_cons, List.length_nil, List.replicate, List.getElem?_cons_zero, List.getElem?_cons_succ, List.set_cons_zero, List.set_cons_succ, Nat.reduceAdd, Nat.reduceSub, Nat.sub_self, Nat.zero_add,
      Option.some.injEq, V.int.injEq, V.str.injEq, V.bl.injEq, V.ref.injEq, V.ty.injEq, List.cons.injEq, and_true, true_and, exists_eq_left, exists_eq_left', exists_eq_right, exists_and_left, exists_and_right, exists_const, decide_eq_true_eq, decide_eq_false_iff_not, if_true, if_false, reduceIte, Bool.false_eq_true, Bool.not_eq_true', sc_ii, sc_ss, sc_bb, str1, cx_K, lstAt, rIxM, rSetM, rLenM, atI_0, atI_1, atI_2, atI_3, setI_0, setI_1, setI_2, setI_3, upd_same, upd_upd, ite_true, ite_false, exists_eq', eq_self, and_assoc, rIsS, isTy_bb, isTy_bi, isTy_ib, isTy_ii, isTy_ss, isTy_nb, isTy_ni, Bool.not_true, Bool.not_false, not_true_eq_false, not_false_eq_true, tChain, tRz1, tRz2, rIsX, tFx, tMethE, tCallS, tCallZ, tMeth, tMake, tFld, sFld, HO.ins.injEq, HO.lst.injEq, HO.dK.injEq, HO.tup.injEq, dcAt, rDInM, rDGetM, rDSetM, rDLenM, keyOf_int, keyOf_str, rIsBM, plainV_b, plainV_i, plainV_n, plainV_s, rInM, rListM, rSortM, rSumM, rIsD, tBMM, tBM0M, tSl, rSlM, rAppend, rPop, rClear, wAs, reduceCtorEq, false_implies, true_implies, implies_true, forall_const, cxH_K, clsV_ref, clsV_ty, HO.xd.injEq, Value.ref.injEq, lkc, lkn, pfn, pfc, List.map_nil, rExtend, rCat, rRep, tMethE0, rSortD, rPush, rPopH, tDGetM, gAll, iRev, tCB, sDDel, exf_NoRoom T, exf_NoNumber T, sne_Store_room_entries, sne_Store_room_words, sne_Store_entries_words, sne_Store_room__places, sne_Store_entries__places, sne_Store_words__places, sne_Store_room__free, sne_Store_entries__free, sne_Store_words__free, sne_Store__places__free, sne_Store_room__fresh, sne_Store_entries__fresh, sne_Store_words__fresh, sne_Store__places__fresh, sne_Store__free__fresh, T.no_NoRoom_need, T.ex_NoRoom_NoNumber, T.ex_NoRoom_SaggarError, T.kit_NoRoom_NoNumber, T.kit_NoRoom_NoRoom, T.no_NoNumber_limit, T.ex_NoNumber_NoNumber, T.ex_NoNumber_SaggarError, T.kit_NoNumber_NoNumber, T.kit_NoNumber_NoRoom, J2.ho, J2.hw, J2.hd, J2.hf, Int.toNat_natCast, T.cl_Store, T.no_Store_room, T.no_Store_entries, T.no_Store_words, T.no_Store__places, T.no_Store__free, T.no_Store__fresh, stF_room, stF_entries, stF_words, stF_places, stF_free, stF_fresh, stF_mused, stF_mexists, stF_mnumbers, stF_mfree, stF_malloc, stF_msize, stF_mkind, stF_mskind, stF_mget, stF_mput, stF_mslots, stF_mdrop, stF_mclose, stF_msnap, stF_mrest, stF_mexch, stF_len, stF_pf, stF_pd, stF_pl, List.length_map]
      refine ⟨by omega, fun p hp => ⟨by omega, fun p1 h1 => ⟨by omega, by omega, by omega, fun p2 h2 => ?_⟩⟩⟩
      have g1 := ne_of_none upd_same h1
      have g2 := ne_of_none (by rw [upd_ne g1, upd_same]) h2
      refine ⟨_, by rw [upd_ne g2, upd_ne g1, upd_same], by rw [e1]; simp; omega, fun p3 h3 => ?_⟩
      have J5 := (((J2.same (same_new hp)).same (same_new h1)).same (same_new h2)).same (same_new (o := .lst ([V.int n, V.int m, V.int kd] ++ (List.replicate m [V.int 0]).flatten)) h3)
      have hz2 : ws.length + (3 + m) ≤ 100000 := by rw [R.ws]; exact hz
      refine ⟨_, J5.hw, by rw [List.length_append, e1, List.length_map]; simp; omega, ?_⟩
      have ee : ws.map V.int ++ ([V.int n, V.int m, V.int kd] ++ (List.replicate m [V.int 0]).flatten) = (ws ++ flatO ⟨n, kd, List.replicate m 0, true⟩).map V.int := by
        rw [rep0, List.map_append, flatO]
        simp
      rw [ee]
      refine k4 _ ⟨dx, w, d, f, _, _, _, _, J5.words _, ?_⟩
      have := R.add (o := ⟨n, kd, List.replicate m 0, true⟩) rfl hn.2.1 (by rw [List.length_replicate]; exact hz) n1 n2 n3 ⟨hn.1, n4⟩ n5 n6
      rw [R.ws] at this ⊢
      exact this
end

def sp_size (A : Ad) : Sp := fun vs H Q _ => ∃ a rm en row F n o, vs = [.ref a, .int n] ∧ St A H a rm en row F ∧ getO row n = some o ∧ Q (.int (o.sl.length : Int)) H
theorem sp_size_len {A vs H Q E} (h : sp_size A vs H Q E) : vs.length = (["self", "number"] : List Str).length := by
  obtain ⟨_, _, _, _, _, _, _, rfl, _⟩ := h
  rfl
section
variable {P : Program} {w : World} {K : PySem.W.Frag} {mg : Str → Option Value} {base : Heap} {A : Ad}
theorem ok_Store_size (T : Txt K mg A) : FnOk P w K mg base CX0 1 A.f_Store_size A.d_Store_size ["self", "number"] (sp_size A) := by
  refine Fun.ok T.F_Store_size sc_Store_size (fun vs H Q E h => ?_) (fun cdv Ar outer s H vs Q E hr h => ?_)
  · exact sp_size_len h
  · have hu := hu_of hr
    refine ⟨_, (pss_one (ps_ret (pe_ix ix_lstM (pe_fld (pv 0) rfl) (pe_op op_add (pe_ix (ix_dictM hu) (pe_fld (pv 0) rfl) (pv 1) (fun _ _ => rfl)) pe_int) (fun _ _ => rfl)))), ?_⟩
    obtain ⟨a, rm, en, row, F, n, o, rfl, ⟨dx, w, d, f, ws, kvs, fr, fs, I, R⟩, ho, k⟩ := h
    obtain ⟨i, p1, p2, p3, p4, p5, p6⟩ := word_at ho
    have hv : valV kvs (Sum.inl n) = some (.int (i : Int)) := by rw [R.pk.1, p1]; rfl
    have hat : atI (ws.map V.int) ((i : Int) + 1) = some (.int (o.sl.length : Int)) := by
      rw [show (i : Int) + 1 = ((i + 1 : Nat) : Int) by omega]
      exact atI_nat (by rw [R.ws, List.getElem?_map, p4]; rfl)
    simp (config := { maxSteps := 4000000 }) only [tSeq, tNext, tDrop, tRet, tRetN, tIfS, tAsg, tTest, tAnd, tOr, tNot, tAndV, tOrV, tNotV, tIf, tOp, tUn, tVar, tC, tCB, tCons, tNil, tCall, tPart, tNoPart, tM0, tM1, tTup, tLst, tB, tIsN, tNotN, rI0, rI, rU, rEq, rNe, rAdd, gName, gTup, gCons, gNil, gSub, rSetL, rIxL, rIxT, rIxS, L2.start,
      List.map_cons, List.map_nil, List.cons_append, List.nil_append, List.append_nil, List.length_cons, List.length_nil, List.replicate, List.getElem?_cons_zero, List.getElem?_cons_succ, List.set_cons_zero, List.set_cons_succ, Nat.reduceAdd, Nat.reduceSub, Nat.sub_self, Nat.zero_add,
      Option.some.injEq, V.int.injEq, V.str.injEq, V.bl.injEq, V.ref.injEq, V.ty.injEq, List.cons.injEq, and_true, true_and, exists_eq_left, exists_eq_left', exists_eq_right, exists_and_left, exists_and_right, exists_const, decide_eq_true_eq, decide_eq_false_iff_not, if_true, if_false, reduceIte, Bool.false_eq_true, Bool.not_eq_true', sc_ii, sc_ss, sc_bb, str1, cx_K, lstAt, rIxM, rSetM, rLenM, atI_0, atI_1, atI_2, atI_3, setI_0, setI_1, setI_2, setI_3, upd_same, upd_upd, ite_true, ite_false, exists_eq', eq_self, and_assoc, rIsS, isTy_bb, isTy_bi, isTy_ib, isTy_ii, isTy_ss, isTy_nb, isTy_ni, Bool.not_true, Bool.not_false, not_true_eq_false, not_false_eq_true, tChain, tRz1, tRz2, rIsX, tFx, tMethE, tCallS, tCallZ, tMeth, tMake, tFld, sFld, HO.ins.injEq, HO.lst.injEq, HO.dK.injEq, HO.tup.injEq, dcAt, rDInM, rDGetM, rDSetM, rDLenM, keyOf_int, keyOf_str, rIsBM, plainV_b, plainV_i, plainV_n, plainV_s, rInM, rListM, rSortM, rSumM, rIsD, tBMM, tBM0M, tSl, rSlM, rAppend, rPop, rClear, wAs, reduceCtorEq, false_implies, true_implies, implies_true, forall_const, cxH_K, clsV_ref, clsV_ty, HO.xd.injEq, Value.ref.injEq, lkc, lkn, pfn, pfc, List.map_nil, rExtend, rCat, rRep, tMethE0, rSortD, rPush, rPopH, tDGetM, gAll, iRev, tCB, sDDel, exf_NoRoom T, exf_NoNumber T, sne_Store_room_entries, sne_Store_room_words, sne_Store_entries_words, sne_Store_room__places, sne_Store_entries__places, sne_Store_words__places, sne_Store_room__free, sne_Store_entries__free, sne_Store_words__free, sne_Store__places__free, sne_Store_room__fresh, sne_Store_entries__fresh, sne_Store_words__fresh, sne_Store__places__fresh, sne_Store__free__fresh, T.no_NoRoom_need, T.ex_NoRoom_NoNumber, T.ex_NoRoom_SaggarError, T.kit_NoRoom_NoNumber, T.kit_NoRoom_NoRoom, T.no_NoNumber_limit, T.ex_NoNumber_NoNumber, T.ex_NoNumber_SaggarError, T.kit_NoNumber_NoNumber, T.kit_NoNumber_NoRoom, I.ho, I.hw, I.hd, I.hf, T.cl_Store, T.no_Store_room, T.no_Store_entries, T.no_Store_words, T.no_Store__places, T.no_Store__free, T.no_Store__fresh, stF_room, stF_entries, stF_words, stF_places, stF_free, stF_fresh, stF_mused, stF_mexists, stF_mnumbers, stF_mfree, stF_malloc, stF_msize, stF_mkind, stF_mskind, stF_mget, stF_mput, stF_mslots, stF_mdrop, stF_mclose, stF_msnap, stF_mrest, stF_mexch, stF_len, stF_pf, stF_pd, stF_pl, List.length_map, hv, hat]
    exact k
end

def sp_kind (A : Ad) : Sp := fun vs H Q _ => ∃ a rm en row F n o, vs = [.ref a, .int n] ∧ St A H a rm en row F ∧ getO row n = some o ∧ Q (.int o.kind) H
theorem sp_kind_len {A vs H Q E} (h : sp_kind A vs H Q E) : vs.length = (["self", "number"] : List Str).length := by
  obtain ⟨_, _, _, _, _, _, _, rfl, _⟩ := h
  rfl
section
variable {P : Program} {w : World} {K : PySem.W.Frag} {mg : Str → Option Value} {base : Heap} {A : Ad}
theorem ok_Store_kind (T : Txt K mg A) : FnOk P w K mg base CX0 1 A.f_Store_kind A.d_Store_kind ["self", "number"] (sp_kind A) := by
  refine Fun.ok T.F_Store_kind sc_Store_kind (fun vs H Q E h => ?_) (fun cdv Ar outer s H vs Q E hr h => ?_)
  · exact sp_kind_len h
  · have hu := hu_of hr
    refine ⟨_, (pss_one (ps_ret (pe_ix ix_lstM (pe_fld (pv 0) rfl) (pe_op op_add (pe_ix (ix_dictM hu) (pe_fld (pv 0) rfl) (pv 1) (fun _ _ => rfl)) pe_int) (fun _ _ => rfl)))), ?_⟩
    obtain ⟨a, rm, en, row, F, n, o, rfl, ⟨dx, w, d, f, ws, kvs, fr, fs, I, R⟩, ho, k⟩ := h
    obtain ⟨i, p1, p2, p3, p4, p5, p6⟩ := word_at ho
    have hv : valV kvs (Sum.inl n) = some (.int (i : Int)) := by rw [R.pk.1, p1]; rfl
    have hat : atI (ws.map V.int) ((i : Int) + 2) = some (.int o.kind) := by
      rw [show (i : Int) + 2 = ((i + 2 : Nat) : Int) by omega]
      exact atI_nat (by rw [R.ws, List.getElem?_map, p5]; rfl)
    simp (config := { maxSteps := 4000000 }) only [tSeq, tNext, tDrop, tRet, tRetN, tIfS, tAsg, tTest, tAnd, tOr, tNot, tAndV, tOrV, tNotV, tIf, tOp, tUn, tVar, tC, tCB, tCons, tNil, tCall, tPart, tNoPart, tM0, tM1, tTup, tLst, tB, tIsN, tNotN, rI0, rI, rU, rEq, rNe, rAdd, gName, gTup, gCons, gNil, gSub, rSetL, rIxL, rIxT, rIxS, L2.start,
      List.map_cons, List.map_nil, List.cons_append, List.nil_append, List.append_nil, List.length_cons, List.length_nil, List.replicate, List.getElem?_cons_zero, List.getElem?_cons_succ, List.set_cons_zero, List.set_cons_succ, Nat.reduceAdd, Nat.reduceSub, Nat.sub_self, Nat.zero_add,
      Option.some.injEq, V.int.injEq, V.str.injEq, V.bl.injEq, V.ref.injEq, V.ty.injEq, List.cons.injEq, and_true, true_and, exists_eq_left, exists_eq_left', exists_eq_right, exists_and_left, exists_and_right, exists_const, decide_eq_true_eq, decide_eq_false_iff_not, if_true, if_false, reduceIte, Bool.false_eq_true, Bool.not_eq_true', sc_ii, sc_ss, sc_bb, str1, cx_K, lstAt, rIxM, rSetM, rLenM, atI_0, atI_1, atI_2, atI_3, setI_0, setI_1, setI_2, setI_3, upd_same, upd_upd, ite_true, ite_false, exists_eq', eq_self, and_assoc, rIsS, isTy_bb, isTy_bi, isTy_ib, isTy_ii, isTy_ss, isTy_nb, isTy_ni, Bool.not_true, Bool.not_false, not_true_eq_false, not_false_eq_true, tChain, tRz1, tRz2, rIsX, tFx, tMethE, tCallS, tCallZ, tMeth, tMake, tFld, sFld, HO.ins.injEq, HO.lst.injEq, HO.dK.injEq, HO.tup.injEq, dcAt, rDInM, rDGetM, rDSetM, rDLenM, keyOf_int, keyOf_str, rIsBM, plainV_b, plainV_i, plainV_n, plainV_s, rInM, rListM, rSortM, rSumM, rIsD, tBMM, tBM0M, tSl, rSlM, rAppend, rPop, rClear, wAs, reduceCtorEq, false_implies, true_implies, implies_true, forall_const, cxH_K, clsV_ref, clsV_ty, HO.xd.injEq, Value.ref.injEq, lkc, lkn, pfn, pfc, List.map_nil, rExtend, rCat, rRep, tMethE0, rSortD, rPush, rPopH, tDGetM, gAll, iRev, tCB, sDDel, exf_NoRoom T, exf_NoNumber T, sne_Store_room_entries, sne_Store_room_words, sne_Store_entries_words, sne_Store_room__places, sne_Store_entries__places, sne_Store_words__places, sne_Store_room__free, sne_Store_entries__free, sne_Store_words__free, sne_Store__places__free, sne_Store_room__fresh, sne_Store_entries__fresh, sne_Store_words__fresh, sne_Store__places__fresh, sne_Store__free__fresh, T.no_NoRoom_need, T.ex_NoRoom_NoNumber, T.ex_NoRoom_SaggarError, T.kit_NoRoom_NoNumber, T.kit_NoRoom_NoRoom, T.no_NoNumber_limit, T.ex_NoNumber_NoNumber, T.ex_NoNumber_SaggarError, T.kit_NoNumber_NoNumber, T.kit_NoNumber_NoRoom, I.ho, I.hw, I.hd, I.hf, T.cl_Store, T.no_Store_room, T.no_Store_entries, T.no_Store_words, T.no_Store__places, T.no_Store__free, T.no_Store__fresh, stF_room, stF_entries, stF_words, stF_places, stF_free, stF_fresh, stF_mused, stF_mexists, stF_mnumbers, stF_mfree, stF_malloc, stF_msize, stF_mkind, stF_mskind, stF_mget, stF_mput, stF_mslots, stF_mdrop, stF_mclose, stF_msnap, stF_mrest, stF_mexch, stF_len, stF_pf, stF_pd, stF_pl, List.length_map, hv, hat]
    exact k
end

def sp_get (A : Ad) : Sp := fun vs H Q _ => ∃ a rm en row F n o, ∃ (j : Nat) (v : Int), vs = [.ref a, .int n, .int (j : Int)] ∧ St A H a rm en row F ∧ getO row n = some o ∧ o.sl[j]? = some v ∧ Q (.int v) H
theorem sp_get_len {A vs H Q E} (h : sp_get A vs H Q E) : vs.length = (["self", "number", "at"] : List Str).length := by
  obtain ⟨_, _, _, _, _, _, _, _, _, rfl, _⟩ := h
  rfl
section
variable {P : Program} {w : World} {K : PySem.W.Frag} {mg : Str → Option Value} {base : Heap} {A : Ad}
theorem ok_Store_get (T : Txt K mg A) : FnOk P w K mg base CX0 1 A.f_Store_get A.d_Store_get ["self", "number", "at"] (sp_get A) := by
  refine Fun.ok T.F_Store_get sc_Store_get (fun vs H Q E h => ?_) (fun cdv Ar outer s H vs Q E hr h => ?_)
  · exact sp_get_len h
  · have hu := hu_of hr
    refine ⟨_, (pss_one (ps_ret (pe_ix ix_lstM (pe_fld (pv 0) rfl) (pe_op op_add (pe_op op_add (pe_ix (ix_dictM hu) (pe_fld (pv 0) rfl) (pv 1) (fun _ _ => rfl)) (pe_glob (v := .int (3)) (by rfl) T.c_HEADER ⟨_, rfl⟩)) (pv 2)) (fun _ _ => rfl)))), ?_⟩
    obtain ⟨a, rm, en, row, F, n, o, j, v, rfl, ⟨dx, w, d, f, ws, kvs, fr, fs, I, R⟩, ho, hj, k⟩ := h
    obtain ⟨i, p1, p2, p3, p4, p5, p6⟩ := word_at ho
    have hv : valV kvs (Sum.inl n) = some (.int (i : Int)) := by rw [R.pk.1, p1]; rfl
    have hlt := (List.getElem?_eq_some_iff.mp hj).1
    have hat : atI (ws.map V.int) ((i : Int) + 3 + (j : Int)) = some (.int v) := by
      rw [show (i : Int) + 3 + (j : Int) = ((i + (3 + j) : Nat) : Int) by omega]
      exact atI_nat (by rw [R.ws, List.getElem?_map, p6 j hlt, hj]; rfl)
    simp (config := { maxSteps := 4000000 }) only [tSeq, tNext, tDrop, tRet, tRetN, tIfS, tAsg, tTest, tAnd, tOr, tNot, tAndV, tOrV, tNotV, tIf, tOp, tUn, tVar, tC, tCB, tCons, tNil, tCall, tPart, tNoPart, tM0, tM1, tTup, tLst, tB, tIsN, tNotN, rI0, rI, rU, rEq, rNe, rAdd, gName, gTup, gCons, gNil, gSub, rSetL, rIxL, rIxT, rIxS, L2.start,
      List.map_cons, List.map_nil, List.cons_append, List.nil_append, List.append_nil, List.length_cons, List.length_nil, List.replicate, List.getElem?_cons_zero, List.getElem?_cons_succ, List.set_cons_zero, List.set_cons_succ, Nat.reduceAdd, Nat.reduceSub, Nat.sub_self, Nat.zero_add,
      Option.some.injEq, V.int.injEq, V.str.injEq, V.bl.injEq, V.ref.injEq, V.ty.injEq, List.cons.injEq, and_true, true_and, exists_eq_left, exists_eq_left', exists_eq_right, exists_and_left, exists_and_right, exists_const, decide_eq_true_eq, decide_eq_false_iff_not, if_true, if_false, reduceIte, Bool.false_eq_true, Bool.not_eq_true', sc_ii, sc_ss, sc_bb, str1, cx_K, lstAt, rIxM, rSetM, rLenM, atI_0, atI_1, atI_2, atI_3, setI_0, setI_1, setI_2, setI_3, upd_same, upd_upd, ite_true, ite_false, exists_eq', eq_self, and_assoc, rIsS, isTy_bb, isTy_bi, isTy_ib, isTy_ii, isTy_ss, isTy_nb, isTy_ni, Bool.not_true, Bool.not_false, not_true_eq_false, not_false_eq_true, tChain, tRz1, tRz2, rIsX, tFx, tMethE, tCallS, tCallZ, tMeth, tMake, tFld, sFld, HO.ins.injEq, HO.lst.injEq, HO.dK.injEq, HO.tup.injEq, dcAt, rDInM, rDGetM, rDSetM, rDLenM, keyOf_int, keyOf_str, rIsBM, plainV_b, plainV_i, plainV_n, plainV_s, rInM, rListM, rSortM, rSumM, rIsD, tBMM, tBM0M, tSl, rSlM, rAppend, rPop, rClear, wAs, reduceCtorEq, false_implies, true_implies, implies_true, forall_const, cxH_K, clsV_ref, clsV_ty, HO.xd.injEq, Value.ref.injEq, lkc, lkn, pfn, pfc, List.map_nil, rExtend, rCat, rRep, tMethE0, rSortD, rPush, rPopH, tDGetM, gAll, iRev, tCB, sDDel, exf_NoRoom T, exf_NoNumber T, sne_Store_room_entries, sne_Store_room_words, sne_Store_entries_words, sne_Store_room__places, sne_Store_entries__places, sne_Store_words__places, sne_Store_room__free, sne_Store_entries__free, sne_Store_words__free, sne_Store__places__free, sne_Store_room__fresh, sne_Store_entries__fresh, sne_Store_words__fresh, sne_Store__places__fresh, sne_Store__free__fresh, T.no_NoRoom_need, T.ex_NoRoom_NoNumber, T.ex_NoRoom_SaggarError, T.kit_NoRoom_NoNumber, T.kit_NoRoom_NoRoom, T.no_NoNumber_limit, T.ex_NoNumber_NoNumber, T.ex_NoNumber_SaggarError, T.kit_NoNumber_NoNumber, T.kit_NoNumber_NoRoom, I.ho, I.hw, I.hd, I.hf, T.cl_Store, T.no_Store_room, T.no_Store_entries, T.no_Store_words, T.no_Store__places, T.no_Store__free, T.no_Store__fresh, stF_room, stF_entries, stF_words, stF_places, stF_free, stF_fresh, stF_mused, stF_mexists, stF_mnumbers, stF_mfree, stF_malloc, stF_msize, stF_mkind, stF_mskind, stF_mget, stF_mput, stF_mslots, stF_mdrop, stF_mclose, stF_msnap, stF_mrest, stF_mexch, stF_len, stF_pf, stF_pd, stF_pl, List.length_map, hv, hat]
    exact k
end

def sp_put (A : Ad) : Sp := fun vs H Q _ => ∃ a rm en row F n o, ∃ (j : Nat) (v : Int), vs = [.ref a, .int n, .int (j : Int), .int v] ∧ St A H a rm en row F ∧ getO row n = some o ∧ j < o.sl.length ∧ ∀ H', St A H' a rm en (putO row n j v) F → Q .non H'
theorem sp_put_len {A vs H Q E} (h : sp_put A vs H Q E) : vs.length = (["self", "number", "at", "word"] : List Str).length := by
  obtain ⟨_, _, _, _, _, _, _, _, _, rfl, _⟩ := h
  rfl
section
variable {P : Program} {w : World} {K : PySem.W.Frag} {mg : Str → Option Value} {base : Heap} {A : Ad}
theorem ok_Store_put (T : Txt K mg A) : FnOk P w K mg base CX0 1 A.f_Store_put A.d_Store_put ["self", "number", "at", "word"] (sp_put A) := by
  refine Fun.ok T.F_Store_put sc_Store_put (fun vs H Q E h => ?_) (fun cdv Ar outer s H vs Q E hr h => ?_)
  · exact sp_put_len h
  · have hu := hu_of hr
    refine ⟨_, (pss_one (ps_asg (pv 3) (pg_sub (pe_fld (pv 0) rfl) (pe_op op_add (pe_op op_add (pe_ix (ix_dictM hu) (pe_fld (pv 0) rfl) (pv 1) (fun _ _ => rfl)) (pe_glob (v := .int (3)) (by rfl) T.c_HEADER ⟨_, rfl⟩)) (pv 2)) set_lstM))), ?_⟩
    obtain ⟨a, rm, en, row, F, n, o, j, v, rfl, ⟨dx, w, d, f, ws, kvs, fr, fs, I, R⟩, ho, hj, k⟩ := h
    obtain ⟨i, p1, p2, p3, p4, p5, p6⟩ := word_at ho
    have hv : valV kvs (Sum.inl n) = some (.int (i : Int)) := by rw [R.pk.1, p1]; rfl
    have hset : setI (ws.map V.int) ((i : Int) + 3 + (j : Int)) (.int v) = some ((ws.set (i + (3 + j)) v).map V.int) := by
      rw [show (i : Int) + 3 + (j : Int) = ((i + (3 + j) : Nat) : Int) by omega]
      rw [setI_nat (by rw [List.length_map, R.ws]; omega), List.map_set]
    simp (config := { maxSteps := 4000000 }) only [tSeq, tNext, tDrop, tRet, tRetN, tIfS, tAsg, tTest, tAnd, tOr, tNot, tAndV, tOrV, tNotV, tIf, tOp, tUn, tVar, tC, tCB, tCons, tNil, tCall, tPart, tNoPart, tM0, tM1, tTup, tLst, tB, tIsN, tNotN, rI0, rI, rU, rEq, rNe, rAdd, gName, gTup, gCons, gNil, gSub, rSetL, rIxL, rIxT, rIxS, L2.start,
      List.map_cons, List.map_nil, List.cons_append, List.nil_append, List.append_nil, List.length_cons, List.length_nil, List.replicate, List.getElem?_cons_zero, List.getElem?_cons_succ, List.set_cons_zero, List.set_cons_succ, Nat.reduceAdd, Nat.reduceSub, Nat.sub_self, Nat.zero_add,
      Option.some.injEq, V.int.injEq, V.str.injEq, V.bl.injEq, V.ref.injEq, V.ty.injEq, List.cons.injEq, and_true, true_and, exists_eq_left, exists_eq_left', exists_eq_right, exists_and_left, exists_and_right, exists_const, decide_eq_true_eq, decide_eq_false_iff_not, if_true, if_false, reduceIte, Bool.false_eq_true, Bool.not_eq_true', sc_ii, sc_ss, sc_bb, str1, cx_K, lstAt, rIxM, rSetM, rLenM, atI_0, atI_1, atI_2, atI_3, setI_0, setI_1, setI_2, setI_3, upd_same, upd_upd, ite_true, ite_false, exists_eq', eq_self, and_assoc, rIsS, isTy_bb, isTy_bi, isTy_ib, isTy_ii, isTy_ss, isTy_nb, isTy_ni, Bool.not_true, Bool.not_false, not_true_eq_false, not_false_eq_true, tChain, tRz1, tRz2, rIsX, tFx, tMethE, tCallS, tCallZ, tMeth, tMake, tFld, sFld, HO.ins.injEq, HO.lst.injEq, HO.dK.injEq, HO.tup.injEq, dcAt, rDInM, rDGetM, rDSetM, rDLenM, keyOf_int, keyOf_str, rIsBM, plainV_b, plainV_i, plainV_n, plainV_s, rInM, rListM, rSortM, rSumM, rIsD, tBMM, tBM0M, tSl, rSlM, rAppend, rPop, rClear, wAs, reduceCtorEq, false_implies, true_implies, implies_true, forall_const, cxH_K, clsV_ref, clsV_ty, HO.xd.injEq, Value.ref.injEq, lkc, lkn, pfn, pfc, List.map_nil, rExtend, rCat, rRep, tMethE0, rSortD, rPush, rPopH, tDGetM, gAll, iRev, tCB, sDDel, exf_NoRoom T, exf_NoNumber T, sne_Store_room_entries, sne_Store_room_words, sne_Store_entries_words, sne_Store_room__places, sne_Store_entries__places, sne_Store_words__places, sne_Store_room__free, sne_Store_entries__free, sne_Store_words__free, sne_Store__places__free, sne_Store_room__fresh, sne_Store_entries__fresh, sne_Store_words__fresh, sne_Store__places__fresh, sne_Store__free__fresh, T.no_NoRoom_need, T.ex_NoRoom_NoNumber, T.ex_NoRoom_SaggarError, T.kit_NoRoom_NoNumber, T.kit_NoRoom_NoRoom, T.no_NoNumber_limit, T.ex_NoNumber_NoNumber, T.ex_NoNumber_SaggarError, T.kit_NoNumber_NoNumber, T.kit_NoNumber_NoRoom, I.ho, I.hw, I.hd, I.hf, T.cl_Store, T.no_Store_room, T.no_Store_entries, T.no_Store_words, T.no_Store__places, T.no_Store__free, T.no_Store__fresh, stF_room, stF_entries, stF_words, stF_places, stF_free, stF_fresh, stF_mused, stF_mexists, stF_mnumbers, stF_mfree, stF_malloc, stF_msize, stF_mkind, stF_mskind, stF_mget, stF_mput, stF_mslots, stF_mdrop, stF_mclose, stF_msnap, stF_mrest, stF_mexch, stF_len, stF_pf, stF_pd, stF_pl, List.length_map, hv, hset]
    exact k _ ⟨dx, w, d, f, _, _, _, _, I.words _, R.put ho p1 hj⟩
end

def sp_skind (A : Ad) : Sp := fun vs H Q _ => ∃ a rm en row F n o, ∃ (v : Int), vs = [.ref a, .int n, .int v] ∧ St A H a rm en row F ∧ getO row n = some o ∧ ∀ H', St A H' a rm en (kindO row n v) F → Q .non H'
theorem sp_skind_len {A vs H Q E} (h : sp_skind A vs H Q E) : vs.length = (["self", "number", "word"] : List Str).length := by
  obtain ⟨_, _, _, _, _, _, _, _, rfl, _⟩ := h
  rfl
section
variable {P : Program} {w : World} {K : PySem.W.Frag} {mg : Str → Option Value} {base : Heap} {A : Ad}
theorem ok_Store_set_kind (T : Txt K mg A) : FnOk P w K mg base CX0 1 A.f_Store_set_kind A.d_Store_set_kind ["self", "number", "word"] (sp_skind A) := by
  refine Fun.ok T.F_Store_set_kind sc_Store_set_kind (fun vs H Q E h => ?_) (fun cdv Ar outer s H vs Q E hr h => ?_)
  · exact sp_skind_len h
  · have hu := hu_of hr
    refine ⟨_, (pss_one (ps_asg (pv 2) (pg_sub (pe_fld (pv 0) rfl) (pe_op op_add (pe_ix (ix_dictM hu) (pe_fld (pv 0) rfl) (pv 1) (fun _ _ => rfl)) pe_int) set_lstM))), ?_⟩
    obtain ⟨a, rm, en, row, F, n, o, v, rfl, ⟨dx, w, d, f, ws, kvs, fr, fs, I, R⟩, ho, k⟩ := h
    obtain ⟨i, p1, p2, p3, p4, p5, p6⟩ := word_at ho
    have hv : valV kvs (Sum.inl n) = some (.int (i : Int)) := by rw [R.pk.1, p1]; rfl
    have hset : setI (ws.map V.int) ((i : Int) + 2) (.int v) = some ((ws.set (i + 2) v).map V.int) := by
      rw [show (i : Int) + 2 = ((i + 2 : Nat) : Int) by omega]
      rw [setI_nat (by rw [List.length_map, R.ws]; omega), List.map_set]
    simp (config := { maxSteps := 4000000 }) only [tSeq, tNext, tDrop, tRet, tRetN, tIfS, tAsg, tTest, tAnd, tOr, tNot, tAndV, tOrV, tNotV, tIf, tOp, tUn, tVar, tC, tCB, tCons, tNil, tCall, tPart, tNoPart, tM0, tM1, tTup, tLst, tB, tIsN, tNotN, rI0, rI, rU, rEq, rNe, rAdd, gName, gTup, gCons, gNil, gSub, rSetL, rIxL, rIxT, rIxS, L2.start,
      List.map_cons, List.map_nil, List.cons_append, List.nil_append, List.append_nil, List.length_cons, List.length_nil, List.replicate, List.getElem?_cons_zero, List.getElem?_cons_succ, List.set_cons_zero, List.set_cons_succ, Nat.reduceAdd, Nat.reduceSub, Nat.sub_self, Nat.zero_add,
      Option.some.injEq, V.int.injEq, V.str.injEq, V.bl.injEq, V.ref.injEq, V.ty.injEq, List.cons.injEq, and_true, true_and, exists_eq_left, exists_eq_left', exists_eq_right, exists_and_left, exists_and_right, exists_const, decide_eq_true_eq, decide_eq_false_iff_not, if_true, if_false, reduceIte, Bool.false_eq_true, Bool.not_eq_true', sc_ii, sc_ss, sc_bb, str1, cx_K, lstAt, rIxM, rSetM, rLenM, atI_0, atI_1, atI_2, atI_3, setI_0, setI_1, setI_2, setI_3, upd_same, upd_upd, ite_true, ite_false, exists_eq', eq_self, and_assoc, rIsS, isTy_bb, isTy_bi, isTy_ib, isTy_ii, isTy_ss, isTy_nb, isTy_ni, Bool.not_true, Bool.not_false, not_true_eq_false, not_false_eq_true, tChain, tRz1, tRz2, rIsX, tFx, tMethE, tCallS, tCallZ, tMeth, tMake, tFld, sFld, HO.ins.injEq, HO.lst.injEq, HO.dK.injEq, HO.tup.injEq, dcAt, rDInM, rDGetM, rDSetM, rDLenM, keyOf_int, keyOf_str, rIsBM, plainV_b, plainV_i, plainV_n, plainV_s, rInM, rListM, rSortM, rSumM, rIsD, tBMM, tBM0M, tSl, rSlM, rAppend, rPop, rClear, wAs, reduceCtorEq, false_implies, true_implies, implies_true, forall_const, cxH_K, clsV_ref, clsV_ty, HO.xd.injEq, Value.ref.injEq, lkc, lkn, pfn, pfc, List.map_nil, rExtend, rCat, rRep, tMethE0, rSortD, rPush, rPopH, tDGetM, gAll, iRev, tCB, sDDel, exf_NoRoom T, exf_NoNumber T, sne_Store_room_entries, sne_Store_room_words, sne_Store_entries_words, sne_Store_room__places, sne_Store_entries__places, sne_Store_words__places, sne_Store_room__free, sne_Store_entries__free, sne_Store_words__free, sne_Store__places__free, sne_Store_room__fresh, sne_Store_entries__fresh, sne_Store_words__fresh, sne_Store__places__fresh, sne_Store__free__fresh, T.no_NoRoom_need, T.ex_NoRoom_NoNumber, T.ex_NoRoom_SaggarError, T.kit_NoRoom_NoNumber, T.kit_NoRoom_NoRoom, T.no_NoNumber_limit, T.ex_NoNumber_NoNumber, T.ex_NoNumber_SaggarError, T.kit_NoNumber_NoNumber, T.kit_NoNumber_NoRoom, I.ho, I.hw, I.hd, I.hf, T.cl_Store, T.no_Store_room, T.no_Store_entries, T.no_Store_words, T.no_Store__places, T.no_Store__free, T.no_Store__fresh, stF_room, stF_entries, stF_words, stF_places, stF_free, stF_fresh, stF_mused, stF_mexists, stF_mnumbers, stF_mfree, stF_malloc, stF_msize, stF_mkind, stF_mskind, stF_mget, stF_mput, stF_mslots, stF_mdrop, stF_mclose, stF_msnap, stF_mrest, stF_mexch, stF_len, stF_pf, stF_pd, stF_pl, List.length_map, hv, hset]
    exact k _ ⟨dx, w, d, f, _, _, _, _, I.words _, R.kind ho p1⟩
end

def sp_slots (A : Ad) : Sp := fun vs H Q _ => ∃ a rm en row F n o, vs = [.ref a, .int n] ∧ St A H a rm en row F ∧ getO row n = some o ∧ ∀ p, H p = none → Q (.ref p) (upd H p (.lst (o.sl.map V.int)))
theorem sp_slots_len {A vs H Q E} (h : sp_slots A vs H Q E) : vs.length = (["self", "number"] : List Str).length := by
  obtain ⟨_, _, _, _, _, _, _, rfl, _⟩ := h
  rfl
section
variable {P : Program} {w : World} {K : PySem.W.Frag} {mg : Str → Option Value} {base : Heap} {A : Ad}
theorem ok_Store_slots (T : Txt K mg A) : FnOk P w K mg base CX0 2 A.f_Store_slots A.d_Store_slots ["self", "number"] (sp_slots A) := by
  refine Fun.ok T.F_Store_slots sc_Store_slots (fun vs H Q E h => ?_) (fun cdv Ar outer s H vs Q E hr h => ?_)
  · exact sp_slots_len h
  · have hu := hu_of hr
    refine ⟨_, (pss_cons (ps_asg (pe_op op_add (pe_ix (ix_dictM hu) (pe_fld (pv 0) rfl) (pv 1) (fun _ _ => rfl)) (pe_glob (v := .int (3)) (by rfl) T.c_HEADER ⟨_, rfl⟩)) (pg_name (i := 2) sc_Store_slots.nd rfl (Or.inl rfl)))
    (pss_one (ps_ret (pe_slice sl_listM (pe_fld (pv 0) rfl) (po_some (pv 2)) (po_some (pe_op op_add (pv 2) (pe_meth (pv 0) T.cl_Store T.me_Store_size (ok_Store_size T) (hr.mono (by decide)) T.b_Store_size .nil pass0 (pa_cons (pv 1) pa_nil)))))))), ?_⟩
    obtain ⟨a, rm, en, row, F, n, o, rfl, S, ho, k⟩ := h
    have S0 := S
    obtain ⟨dx, w, d, f, ws, kvs, fr, fs, I, R⟩ := S
    obtain ⟨i, p1, p2, p3, p4, p5, p6⟩ := word_at ho
    have hv : valV kvs (Sum.inl n) = some (.int (i : Int)) := by rw [R.pk.1, p1]; rfl
    simp (config := { maxSteps := 4000000 }) only [tSeq, tNext, tDrop, tRet, tRetN, tIfS, tAsg, tTest, tAnd, tOr, tNot, tAndV, tOrV, tNotV, tIf, tOp, tUn, tVar, tC, tCB, tCons, tNil, tCall, tPart, tNoPart, tM0, tM1, tTup, tLst, tB, tIsN, tNotN, rI0, rI, rU, rEq, rNe, rAdd, gName, gTup, gCons, gNil, gSub, rSetL, rIxL, rIxT, rIxS, L2.start,
      List.map_cons, List.map_nil, List.cons_append, List.nil_append, List.append_nil, List.length_cons, List.length_nil, List.replicate, List.getElem?_cons_zero, List.getElem?_cons_succ, List.set_cons_zero, List.set_cons_succ, Nat.reduceAdd, Nat.reduceSub, Nat.sub_self, Nat.zero_add,
      Option.some.injEq, V.int.injEq, V.str.injEq, V.bl.injEq, V.ref.injEq, V.ty.injEq, List.cons.injEq, and_true, true_and, exists_eq_left, exists_eq_left', exists_eq_right, exists_and_left, exists_and_right, exists_const, decide_eq_true_eq, decide_eq_false_iff_not, if_true, if_false, reduceIte, Bool.false_eq_true, Bool.not_eq_true', sc_ii, sc_ss, sc_bb, str1, cx_K, lstAt, rIxM, rSetM, rLenM, atI_0, atI_1, atI_2, atI_3, setI_0, setI_1, setI_2, setI_3, upd_same, upd_upd, ite_true, ite_false, exists_eq', eq_self, and_assoc, rIsS, isTy_bb, isTy_bi, isTy_ib, isTy_ii, isTy_ss, isTy_nb, isTy_ni, Bool.not_true, Bool.not_false, not_true_eq_false, not_false_eq_true, tChain, tRz1, tRz2, rIsX, tFx, tMethE, tCallS, tCallZ, tMeth, tMake, tFld, sFld, HO.ins.injEq, HO.lst.injEq, HO.dK.injEq, HO.tup.injEq, dcAt, rDInM, rDGetM, rDSetM, rDLenM, keyOf_int, keyOf_str, rIsBM, plainV_b, plainV_i, plainV_n, plainV_s, rInM, rListM, rSortM, rSumM, rIsD, tBMM, tBM0M, tSl, rSlM, rAppend, rPop, rClear, wAs, reduceCtorEq, false_implies, true_implies, implies_true, forall_const, cxH_K, clsV_ref, clsV_ty, HO.xd.injEq, Value.ref.injEq, lkc, lkn, pfn, pfc, List.map_nil, rExtend, rCat, rRep, tMethE0, rSortD, rPush, rPopH, tDGetM, gAll, iRev, tCB, sDDel, exf_NoRoom T, exf_NoNumber T, sne_Store_room_entries, sne_Store_room_words, sne_Store_entries_words, sne_Store_room__places, sne_Store_entries__places, sne_Store_words__places, sne_Store_room__free, sne_Store_entries__free, sne_Store_words__free, sne_Store__places__free, sne_Store_room__fresh, sne_Store_entries__fresh, sne_Store_words__fresh, sne_Store__places__fresh, sne_Store__free__fresh, T.no_NoRoom_need, T.ex_NoRoom_NoNumber, T.ex_NoRoom_SaggarError, T.kit_NoRoom_NoNumber, T.kit_NoRoom_NoRoom, T.no_NoNumber_limit, T.ex_NoNumber_NoNumber, T.ex_NoNumber_SaggarError, T.kit_NoNumber_NoNumber, T.kit_NoNumber_NoRoom, I.ho, I.hw, I.hd, I.hf, T.cl_Store, T.no_Store_room, T.no_Store_entries, T.no_Store_words, T.no_Store__places, T.no_Store__free, T.no_Store__fresh, stF_room, stF_entries, stF_words, stF_places, stF_free, stF_fresh, stF_mused, stF_mexists, stF_mnumbers, stF_mfree, stF_malloc, stF_msize, stF_mkind, stF_mskind, stF_mget, stF_mput, stF_mslots, stF_mdrop, stF_mclose, stF_msnap, stF_mrest, stF_mexch, stF_len, stF_pf, stF_pd, stF_pl, List.length_map, hv]
    refine ⟨a, rm, en, row, F, n, o, rfl, S0, ho, ?_⟩
    have e : cutV (ws.map V.int) (some ((i : Int) + 3)) (some ((i : Int) + 3 + (o.sl.length : Int))) = o.sl.map V.int := by
      rw [show (i : Int) + 3 = ((i + 3 : Nat) : Int) by omega, show ((i + 3 : Nat) : Int) + (o.sl.length : Int) = ((i + 3 + o.sl.length : Nat) : Int) by omega, cutV_mid, R.ws, ← List.map_drop, ← List.map_take, show i + 3 + o.sl.length - (i + 3) = o.sl.length by omega, slots_at ho p1]
      · omega
      · rw [List.length_map, R.ws]
        omega
    simp (config := { maxSteps := 4000000 }) only [tSeq, tNext, tDrop, tRet, tRetN, tIfS, tAsg, tTest, tAnd, tOr, tNot, tAndV, tOrV, tNotV, tIf, tOp, tUn, tVar, tC, tCB, tCons, tNil, tCall, tPart, tNoPart, tM0, tM1, tTup, tLst, tB, tIsN, tNotN, rI0, rI, rU, rEq, rNe, rAdd, gName, gTup, gCons, gNil, gSub, rSetL, rIxL, rIxT, rIxS, L2.start,
      List.map_cons, List.map_nil, List.cons_append, List.nil_append, List.append_nil, List.length_cons, List.length_nil, List.replicate, List.getElem?_cons_zero, List.getElem?_cons_succ, List.set_cons_zero, List.set_cons_succ, Nat.reduceAdd, Nat.reduceSub, Nat.sub_self, Nat.zero_add,
      Option.some.injEq, V.int.injEq, V.str.injEq, V.bl.injEq, V.ref.injEq, V.ty.injEq, List.cons.injEq, and_true, true_and, exists_eq_left, exists_eq_left', exists_eq_right, exists_and_left, exists_and_right, exists_const, decide_eq_true_eq, decide_eq_false_iff_not, if_true, if_false, reduceIte, Bool.false_eq_true, Bool.not_eq_true', sc_ii, sc_ss, sc_bb, str1, cx_K, lstAt, rIxM, rSetM, rLenM, atI_0, atI_1, atI_2, atI_3, setI_0, setI_1, setI_2, setI_3, upd_same, upd_upd, ite_true, ite_false, exists_eq', eq_self, and_assoc, rIsS, isTy_bb, isTy_bi, isTy_ib, isTy_ii, isTy_ss, isTy_nb, isTy_ni, Bool.not_true, Bool.not_false, not_true_eq_false, not_false_eq_true, tChain, tRz1, tRz2, rIsX, tFx, tMethE, tCallS, tCallZ, tMeth, tMake, tFld, sFld, HO.ins.injEq, HO.lst.injEq, HO.dK.injEq, HO.tup.injEq, dcAt, rDInM, rDGetM, rDSetM, rDLenM, keyOf_int, keyOf_str, rIsBM, plainV_b, plainV_i, plainV_n, plainV_s, rInM, rListM, rSortM, rSumM, rIsD, tBMM, tBM0M, tSl, rSlM, rAppend, rPop, rClear, wAs, reduceCtorEq, false_implies, true_implies, implies_true, forall_const, cxH_K, clsV_ref, clsV_ty, HO.xd.injEq, Value.ref.injEq, lkc, lkn, pfn, pfc, List.map_nil, rExtend, rCat, rRep, tMethE0, rSortD, rPush, rPopH, tDGetM, gAll, iRev, tCB, sDDel, exf_NoRoom T, exf_NoNumber T, sne_Store_room_entries, sne_Store_room_words, sne_Store_entries_words, sne_Store_room__places, sne_Store_entries__places, sne_Store_words__places, sne_Store_room__free, sne_Store_entries__free, sne_Store_words__free, sne_Store__places__free, sne_Store_room__fresh, sne_Store_entries__fresh, sne_Store_words__fresh, sne_Store__places__fresh, sne_Store__free__fresh, T.no_NoRoom_need, T.ex_NoRoom_NoNumber, T.ex_NoRoom_SaggarError, T.kit_NoRoom_NoNumber, T.kit_NoRoom_NoRoom, T.no_NoNumber_limit, T.ex_NoNumber_NoNumber, T.ex_NoNumber_SaggarError, T.kit_NoNumber_NoNumber, T.kit_NoNumber_NoRoom, I.ho, I.hw, I.hd, I.hf, T.cl_Store, T.no_Store_room, T.no_Store_entries, T.no_Store_words, T.no_Store__places, T.no_Store__free, T.no_Store__fresh, stF_room, stF_entries, stF_words, stF_places, stF_free, stF_fresh, stF_mused, stF_mexists, stF_mnumbers, stF_mfree, stF_malloc, stF_msize, stF_mkind, stF_mskind, stF_mget, stF_mput, stF_mslots, stF_mdrop, stF_mclose, stF_msnap, stF_mrest, stF_mexch, stF_len, stF_pf, stF_pd, stF_pl, List.length_map, hv, e]
    exact k
end

def sp_drop (A : Ad) : Sp := fun vs H Q _ => ∃ a rm en row F n, vs = [.ref a, .int n] ∧ St A H a rm en row F ∧ n ∈ nums row ∧ ∀ H', St A H' a rm en (dropO row n) F → Q .non H'
theorem sp_drop_len {A vs H Q E} (h : sp_drop A vs H Q E) : vs.length = (["self", "number"] : List Str).length := by
  obtain ⟨_, _, _, _, _, _, rfl, _⟩ := h
  rfl
section
variable {P : Program} {w : World} {K : PySem.W.Frag} {mg : Str → Option Value} {base : Heap} {A : Ad}
theorem ok_Store_drop (T : Txt K mg A) : FnOk P w K mg base CX0 1 A.f_Store_drop A.d_Store_drop ["self", "number"] (sp_drop A) := by
  refine Fun.ok T.F_Store_drop sc_Store_drop (fun vs H Q E h => ?_) (fun cdv Ar outer s H vs Q E hr h => ?_)
  · exact sp_drop_len h
  · have hu := hu_of hr
    refine ⟨_, (pss_cons (ps_ddel (pe_fld (pv 0) rfl) (pv 1))
    (pss_one (ps_expr (StS.pe_callG call_push (by rfl) T.h_heappush (pa_cons (pe_fld (pv 0) rfl) (pa_cons (pv 1) pa_nil)))))), ?_⟩
    obtain ⟨a, rm, en, row, F, n, rfl, ⟨dx, w, d, f, ws, kvs, fr, fs, I, R⟩, hn, k⟩ := h
    simp (config := { maxSteps := 4000000 }) only [tSeq, tNext, tDrop, tRet, tRetN, tIfS, tAsg, tTest, tAnd, tOr, tNot, tAndV, tOrV, tNotV, tIf, tOp, tUn, tVar, tC, tCB, tCons, tNil, tCall, tPart, tNoPart, tM0, tM1, tTup, tLst, tB, tIsN, tNotN, rI0, rI, rU, rEq, rNe, rAdd, gName, gTup, gCons, gNil, gSub, rSetL, rIxL, rIxT, rIxS, L2.start,
      List.map_cons, List.map_nil, List.cons_append, List.nil_append, List.append_nil, List.length_cons, List.length_nil, List.replicate, List.getElem?_cons_zero, List.getElem?_cons_succ, List.set_cons_zero, List.set_cons_succ, Nat.reduceAdd, Nat.reduceSub, Nat.sub_self, Nat.zero_add,
      Option.some.injEq, V.int.injEq, V.str.injEq, V.bl.injEq, V.ref.injEq, V.ty.injEq, List.cons.injEq, and_true, true_and, exists_eq_left, exists_eq_left', exists_eq_right, exists_and_left, exists_and_right, exists_const, decide_eq_true_eq, decide_eq_false_iff_not, if_true, if_false, reduceIte, Bool.false_eq_true, Bool.not_eq_true', sc_ii, sc_ss, sc_bb, str1, cx_K, lstAt, rIxM, rSetM, rLenM, atI_0, atI_1, atI_2, atI_3, setI_0, setI_1, setI_2, setI_3, upd_same, upd_upd, ite_true, ite_false, exists_eq', eq_self, and_assoc, rIsS, isTy_bb, isTy_bi, isTy_ib, isTy_ii, isTy_ss, isTy_nb, isTy_ni, Bool.not_true, Bool.not_false, not_true_eq_false, not_false_eq_true, tChain, tRz1, tRz2, rIsX, tFx, tMethE, tCallS, tCallZ, tMeth, tMake, tFld, sFld, HO.ins.injEq, HO.lst.injEq, HO.dK.injEq, HO.tup.injEq, dcAt, rDInM, rDGetM, rDSetM, rDLenM, keyOf_int, keyOf_str, rIsBM, plainV_b, plainV_i, plainV_n, plainV_s, rInM, rListM, rSortM, rSumM, rIsD, tBMM, tBM0M, tSl, rSlM, rAppend, rPop, rClear, wAs, reduceCtorEq, false_implies, true_implies, implies_true, forall_const, cxH_K, clsV_ref, clsV_ty, HO.xd.injEq, Value.ref.injEq, lkc, lkn, pfn, pfc, List.map_nil, rExtend, rCat, rRep, tMethE0, rSortD, rPush, rPopH, tDGetM, gAll, iRev, tCB, sDDel, exf_NoRoom T, exf_NoNumber T, sne_Store_room_entries, sne_Store_room_words, sne_Store_entries_words, sne_Store_room__places, sne_Store_entries__places, sne_Store_words__places, sne_Store_room__free, sne_Store_entries__free, sne_Store_words__free, sne_Store__places__free, sne_Store_room__fresh, sne_Store_entries__fresh, sne_Store_words__fresh, sne_Store__places__fresh, sne_Store__free__fresh, T.no_NoRoom_need, T.ex_NoRoom_NoNumber, T.ex_NoRoom_SaggarError, T.kit_NoRoom_NoNumber, T.kit_NoRoom_NoRoom, T.no_NoNumber_limit, T.ex_NoNumber_NoNumber, T.ex_NoNumber_SaggarError, T.kit_NoNumber_NoNumber, T.kit_NoNumber_NoRoom, I.ho, I.hw, I.hd, I.hf, T.cl_Store, T.no_Store_room, T.no_Store_entries, T.no_Store_words, T.no_Store__places, T.no_Store__free, T.no_Store__fresh, stF_room, stF_entries, stF_words, stF_places, stF_free, stF_fresh, stF_mused, stF_mexists, stF_mnumbers, stF_mfree, stF_malloc, stF_msize, stF_mkind, stF_mskind, stF_mget, stF_mput, stF_mslots, stF_mdrop, stF_mclose, stF_msnap, stF_mrest, stF_mexch, stF_len, stF_pf, stF_pd, stF_pl, List.length_map]
    have J := I.places (dropK kvs (Sum.inl n))
    refine ⟨Sum.inl n, rfl, ?_, ?_⟩
    · rw [R.pk.1, Option.isSome_map, pos_some]
      exact decide_eq_true hn
    · simp (config := { maxSteps := 4000000 }) only [tSeq, tNext, tDrop, tRet, tRetN, tIfS, tAsg, tTest, tAnd, tOr, tNot, tAndV, tOrV, tNotV, tIf, tOp, tUn, tVar, tC, tCB, tCons, tNil, tCall, tPart, tNoPart, tM0, tM1, tTup, tLst, tB, tIsN, tNotN, rI0, rI, rU, rEq, rNe, rAdd, gName, gTup, gCons, gNil, gSub, rSetL, rIxL, rIxT, rIxS, L2.start,
      List.map_cons, List.map_nil, List.cons_append, List.nil_append, List.append_nil, List.length_cons, List.length_nil, List.replicate, List.getElem?_cons_zero, List.getElem?_cons_succ, List.set_cons_zero, List.set_cons_succ, Nat.reduceAdd, Nat.reduceSub, Nat.sub_self, Nat.zero_add,
      Option.some.injEq, V.int.injEq, V.str.injEq, V.bl.injEq, V.ref.injEq, V.ty.injEq, List.cons.injEq, and_true, true_and, exists_eq_left, exists_eq_left', exists_eq_right, exists_and_left, exists_and_right, exists_const, decide_eq_true_eq, decide_eq_false_iff_not, if_true, if_false, reduceIte, Bool.false_eq_true, Bool.not_eq_true', sc_ii, sc_ss, sc_bb, str1, cx_K, lstAt, rIxM, rSetM, rLenM, atI_0, atI_1, atI_2, atI_3, setI_0, setI_1, setI_2, setI_3, upd_same, upd_upd, ite_true, ite_false, exists_eq', eq_self, and_assoc, rIsS, isTy_bb, isTy_bi, isTy_ib, isTy_ii, isTy_ss, isTy_nb, isTy_ni, Bool.not_true, Bool.not_false, not_true_eq_false, not_false_eq_true, tChain, tRz1, tRz2, rIsX, tFx, tMethE, tCallS, tCallZ, tMeth, tMake, tFld, sFld, HO.ins.injEq, HO.lst.injEq, HO.dK.injEq, HO.tup.injEq, dcAt, rDInM, rDGetM, rDSetM, rDLenM, keyOf_int, keyOf_str, rIsBM, plainV_b, plainV_i, plainV_n, plainV_s, rInM, rListM, rSortM, rSumM, rIsD, tBMM, tBM0M, tSl, rSlM, rAppend, rPop, rClear, wAs, reduceCtorEq, false_implies, true_implies, implies_true, forall_const, cxH_K, clsV_ref, clsV_ty, HO.xd.injEq, Value.ref.injEq, lkc, lkn, pfn, pfc, List.map_nil, rExtend, rCat, rRep, tMethE0, rSortD, rPush, rPopH, tDGetM, gAll, iRev, tCB, sDDel, exf_NoRoom T, exf_NoNumber T, sne_Store_room_entries, sne_Store_room_words, sne_Store_entries_words, sne_Store_room__places, sne_Store_entries__places, sne_Store_words__places, sne_Store_room__free, sne_Store_entries__free, sne_Store_words__free, sne_Store__places__free, sne_Store_room__fresh, sne_Store_entries__fresh, sne_Store_words__fresh, sne_Store__places__fresh, sne_Store__free__fresh, T.no_NoRoom_need, T.ex_NoRoom_NoNumber, T.ex_NoRoom_SaggarError, T.kit_NoRoom_NoNumber, T.kit_NoRoom_NoRoom, T.no_NoNumber_limit, T.ex_NoNumber_NoNumber, T.ex_NoNumber_SaggarError, T.kit_NoNumber_NoNumber, T.kit_NoNumber_NoRoom, J.ho, J.hw, J.hd, J.hf, T.cl_Store, T.no_Store_room, T.no_Store_entries, T.no_Store_words, T.no_Store__places, T.no_Store__free, T.no_Store__fresh, stF_room, stF_entries, stF_words, stF_places, stF_free, stF_fresh, stF_mused, stF_mexists, stF_mnumbers, stF_mfree, stF_malloc, stF_msize, stF_mkind, stF_mskind, stF_mget, stF_mput, stF_mslots, stF_mdrop, stF_mclose, stF_msnap, stF_mrest, stF_mexch, stF_len, stF_pf, stF_pd, stF_pl, List.length_map]
      have fl := R.frl
      refine ⟨fr, rfl, fl, fun ys hp hh => ?_⟩
      exact k _ ⟨dx, w, d, f, _, _, _, _, J.free ys, R.drop hn hp (hh R.hp)⟩
end

def sp_close (A : Ad) : Sp := fun vs H Q _ => ∃ a rm en row F, vs = [.ref a] ∧ St A H a rm en row F ∧ ∀ H', St A H' a rm en (row.filter (·.al)) F → Q .non H'
theorem sp_close_len {A vs H Q E} (h : sp_close A vs H Q E) : vs.length = (["self"] : List Str).length := by
  obtain ⟨_, _, _, _, _, rfl, _⟩ := h
  rfl
/-- closing up, under way: the first i objects have been looked at -/
structure Cl (A : Ad) (H : Hp) (H0 : Hp) (a dx w d f : Addr) (rm en : Int) (ws : List Int) (kvs : List (Key × V)) (fr : List Int) (fs : Int) (F : Hp) (p pd : Addr) (row : List OB) (i : Nat) (kvs' : List (Key × V)) : Prop where
  st : Si A H a dx w d f rm en ws kvs fr fs F
  hp : H p = some (.lst ((flat ((row.take i).filter (·.al))).map V.int))
  hd : H pd = some (.dK kvs')
  pk : PK kvs' ((row.take i).filter (·.al))
  n1 : H0 p = none
  n2 : H0 pd = none
section
variable {P : Program} {w : World} {K : PySem.W.Frag} {mg : Str → Option Value} {base : Heap} {A : Ad}
theorem ok_Store_close_up (T : Txt K mg A) : FnOk P w K mg base CX0 1 A.f_Store_close_up A.d_Store_close_up ["self"] (sp_close A) := by
  refine Fun.ok T.F_Store_close_up sc_Store_close_up (fun vs H Q E h => ?_) (fun cdv Ar outer s H vs Q E hr h => ?_)
  · exact sp_close_len h
  · have hu := hu_of hr
    refine ⟨_, (pss_cons (ps_asg (pe_lst pa_nil) (pg_name (i := 1) sc_Store_close_up.nd rfl (Or.inl rfl)))
    (pss_cons (ps_asg pe_dnewK (pg_name (i := 2) sc_Store_close_up.nd rfl (Or.inl rfl)))
    (pss_cons (ps_asg pe_int (pg_name (i := 3) sc_Store_close_up.nd rfl (Or.inl rfl)))
    (pss_cons (ps_while PassesOwn.never (pt_cmpR op_lt (pv 3) (pe_callB call_lenM (by rfl) T.z_len PySem.boot_len (pa_cons (pe_fld (pv 0) rfl) pa_nil)) (nomark _)) (pss_cons (ps_asg (pe_ix ix_lstM (pe_fld (pv 0) rfl) (pv 3) (fun _ _ => rfl)) (pg_name (i := 4) sc_Store_close_up.nd rfl (Or.inl rfl)))
    (pss_cons (ps_asg (pe_op op_add (pe_op op_add (pv 3) (pe_glob (v := .int (3)) (by rfl) T.c_HEADER ⟨_, rfl⟩)) (pe_ix ix_lstM (pe_fld (pv 0) rfl) (pe_op op_add (pv 3) pe_int) (fun _ _ => rfl))) (pg_name (i := 5) sc_Store_close_up.nd rfl (Or.inl rfl)))
    (Evl.pss_cut (ps_if (pt_cmpR op_eq (pe_dgetM hu (pe_fld (pv 0) rfl) (pv 4) ⟨by rfl, by rfl, by rfl, by rfl⟩) (pv 3) (nomark _)) (pss_cons (ps_asg (pe_callB call_lenM (by rfl) T.z_len PySem.boot_len (pa_cons (pv 1) pa_nil)) (pg_sub (pv 2) (pv 4) (set_dictM hu)))
    (pss_one (ps_expr (pe_bmM PySem.F.slot_list_extend PySem.F.type_list_extend mt_extend (pv 1) (pa_cons (pe_slice sl_listM (pe_fld (pv 0) rfl) (po_some (pv 3)) (po_some (pv 5))) pa_nil))))) pss_nil)
    (pss_one (ps_asg (pv 5) (pg_name (i := 3) sc_Store_close_up.nd rfl (Or.inl rfl))))))))
    (pss_cons (ps_asg (pv 1) (pg_all (pe_fld (pv 0) rfl)))
    (pss_one (ps_fld (pv 0) (pv 2) rfl))))))), ?_⟩
    obtain ⟨a, rm, en, row, F, rfl, ⟨dx, w, d, f, ws, kvs, fr, fs, I, R⟩, k⟩ := h
    simp (config := { maxSteps := 4000000 }) only [tSeq, tNext, tDrop, tRet, tRetN, tIfS, tAsg, tTest, tAnd, tOr, tNot, tAndV, tOrV, tNotV, tIf, tOp, tUn, tVar, tC, tCB, tCons, tNil, tCall, tPart, tNoPart, tM0, tM1, tTup, tLst, tB, tIsN, tNotN, rI0, rI, rU, rEq, rNe, rAdd, gName, gTup, gCons, gNil, gSub, rSetL, rIxL, rIxT, rIxS, L2.start,
      List.map_cons, List.map_nil, List.cons_append, List.nil_append, List.append_nil, List.length_cons, List.length_nil, List.replicate, List.getElem?_cons_zero, List.getElem?_cons_succ, List.set_cons_zero, List.set_cons_succ, Nat.reduceAdd, Nat.reduceSub, Nat.sub_self, Nat.zero_add,
      Option.some.injEq, V.int.injEq, V.str.injEq, V.bl.injEq, V.ref.injEq, V.ty.injEq, List.cons.injEq, and_true, true_and, exists_eq_left, exists_eq_left', exists_eq_right, exists_and_left, exists_and_right, exists_const, decide_eq_true_eq, decide_eq_false_iff_not, if_true, if_false, reduceIte, Bool.false_eq_true, Bool.not_eq_true', sc_ii, sc_ss, sc_bb, str1, cx_K, lstAt, rIxM, rSetM, rLenM, atI_0, atI_1, atI_2, atI_3, setI_0, setI_1, setI_2, setI_3, upd_same, upd_upd, ite_true, ite_false, exists_eq', eq_self, and_assoc, rIsS, isTy_bb, isTy_bi, isTy_ib, isTy_ii, isTy_ss, isTy_nb, isTy_ni, Bool.not_true, Bool.not_false, not_true_eq_false, not_false_eq_true, tChain, tRz1, tRz2, rIsX, tFx, tMethE, tCallS, tCallZ, tMeth, tMake, tFld, sFld, HO.ins.injEq, HO.lst.injEq, HO.dK.injEq, HO.tup.injEq, dcAt, rDInM, rDGetM, rDSetM, rDLenM, keyOf_int, keyOf_str, rIsBM, plainV_b, plainV_i, plainV_n, plainV_s, rInM, rListM, rSortM, rSumM, rIsD, tBMM, tBM0M, tSl, rSlM, rAppend, rPop, rClear, wAs, reduceCtorEq, false_implies, true_implies, implies_true, forall_const, cxH_K, clsV_ref, clsV_ty, HO.xd.injEq, Value.ref.injEq, lkc, lkn, pfn, pfc, List.map_nil, rExtend, rCat, rRep, tMethE0, rSortD, rPush, rPopH, tDGetM, gAll, iRev, tCB, sDDel, exf_NoRoom T, exf_NoNumber T, sne_Store_room_entries, sne_Store_room_words, sne_Store_entries_words, sne_Store_room__places, sne_Store_entries__places, sne_Store_words__places, sne_Store_room__free, sne_Store_entries__free, sne_Store_words__free, sne_Store__places__free, sne_Store_room__fresh, sne_Store_entries__fresh, sne_Store_words__fresh, sne_Store__places__fresh, sne_Store__free__fresh, T.no_NoRoom_need, T.ex_NoRoom_NoNumber, T.ex_NoRoom_SaggarError, T.kit_NoRoom_NoNumber, T.kit_NoRoom_NoRoom, T.no_NoNumber_limit, T.ex_NoNumber_NoNumber, T.ex_NoNumber_SaggarError, T.kit_NoNumber_NoNumber, T.kit_NoNumber_NoRoom, I.ho, I.hw, I.hd, I.hf, T.cl_Store, T.no_Store_room, T.no_Store_entries, T.no_Store_words, T.no_Store__places, T.no_Store__free, T.no_Store__fresh, stF_room, stF_entries, stF_words, stF_places, stF_free, stF_fresh, stF_mused, stF_mexists, stF_mnumbers, stF_mfree, stF_malloc, stF_msize, stF_mkind, stF_mskind, stF_mget, stF_mput, stF_mslots, stF_mdrop, stF_mclose, stF_msnap, stF_mrest, stF_mexch, stF_len, stF_pf, stF_pd, stF_pl, List.length_map]
    refine ⟨Nat.zero_le _, fun p hp => ?_⟩
    intro pd hpd
    have ppd : p ≠ pd := ne_of_none upd_same hpd
    have hpd0 : H pd = none := by
      rw [upd_ne (Ne.symm ppd)] at hpd
      exact hpd
    have J0 : Cl A (upd (upd H p (.lst [])) pd (.dK [])) H a dx w d f rm en ws kvs fr fs F p pd row 0 [] :=
      ⟨(I.same (same_new hp)).same (same_new hpd), by rw [upd_ne ppd, upd_same]; rfl, upd_same, PK.nil, hp, hpd0⟩
    have op := I.part hp
    have od := I.part hpd0
    have Fp := I.out hp
    have Fd := I.out hpd0
    have rl := flat_rows row
    have rz := R.sz
    have sz : (300000 : Nat) ≤ sizeLine := by decide
    refine ⟨fun m σ2 H2 => ∃ (i : Nat) (kvs' : List (Key × V)) (x y : Option V), σ2 = [some (V.ref a), some (V.ref p), some (V.ref pd), some (V.int (flat (row.take i)).length), x, y] ∧ i ≤ row.length ∧ m = row.length - i ∧ Cl A H2 H a dx w d f rm en ws kvs fr fs F p pd row i kvs', ⟨_, 0, [], none, none, rfl, Nat.zero_le _, rfl, J0⟩, ?_⟩
    rintro m σ2 H2 ⟨i, kvs', x, y, rfl, hi, rfl, C⟩
    have J := C.st
    simp (config := { maxSteps := 4000000 }) only [tSeq, tNext, tDrop, tRet, tRetN, tIfS, tAsg, tTest, tAnd, tOr, tNot, tAndV, tOrV, tNotV, tIf, tOp, tUn, tVar, tC, tCB, tCons, tNil, tCall, tPart, tNoPart, tM0, tM1, tTup, tLst, tB, tIsN, tNotN, rI0, rI, rU, rEq, rNe, rAdd, gName, gTup, gCons, gNil, gSub, rSetL, rIxL, rIxT, rIxS, L2.start,
      List.map_cons, List.map_nil, List.cons_append, List.nil_append, List.append_nil, List.length_cons, List.length_nil, List.replicate, List.getElem?_cons_zero, List.getElem?_cons_succ, List.set_cons_zero, List.set_cons_succ, Nat.reduceAdd, Nat.reduceSub, Nat.sub_self, Nat.zero_add,
      Option.some.injEq, V.int.injEq, V.str.injEq, V.bl.injEq, V.ref.injEq, V.ty.injEq, List.cons.injEq, and_true, true_and, exists_eq_left, exists_eq_left', exists_eq_right, exists_and_left, exists_and_right, exists_const, decide_eq_true_eq, decide_eq_false_iff_not, if_true, if_false, reduceIte, Bool.false_eq_true, Bool.not_eq_true', sc_ii, sc_ss, sc_bb, str1, cx_K, lstAt, rIxM, rSetM, rLenM, atI_0, atI_1, atI_2, atI_3, setI_0, setI_1, setI_2, setI_3, upd_same, upd_upd, ite_true, ite_false, exists_eq', eq_self, and_assoc, rIsS, isTy_bb, isTy_bi, isTy_ib, isTy_ii, isTy_ss, isTy_nb, isTy_ni, Bool.not_true, Bool.not_false, not_true_eq_false, not_false_eq_true, tChain, tRz1, tRz2, rIsX, tFx, tMethE, tCallS, tCallZ, tMeth, tMake, tFld, sFld, HO.ins.injEq, HO.lst.injEq, HO.dK.injEq, HO.tup.injEq, dcAt, rDInM, rDGetM, rDSetM, rDLenM, keyOf_int, keyOf_str, rIsBM, plainV_b, plainV_i, plainV_n, plainV_s, rInM, rListM, rSortM, rSumM, rIsD, tBMM, tBM0M, tSl, rSlM, rAppend, rPop, rClear, wAs, reduceCtorEq, false_implies, true_implies, implies_true, forall_const, cxH_K, clsV_ref, clsV_ty, HO.xd.injEq, Value.ref.injEq, lkc, lkn, pfn, pfc, List.map_nil, rExtend, rCat, rRep, tMethE0, rSortD, rPush, rPopH, tDGetM, gAll, iRev, tCB, sDDel, exf_NoRoom T, exf_NoNumber T, sne_Store_room_entries, sne_Store_room_words, sne_Store_entries_words, sne_Store_room__places, sne_Store_entries__places, sne_Store_words__places, sne_Store_room__free, sne_Store_entries__free, sne_Store_words__free, sne_Store__places__free, sne_Store_room__fresh, sne_Store_entries__fresh, sne_Store_words__fresh, sne_Store__places__fresh, sne_Store__free__fresh, T.no_NoRoom_need, T.ex_NoRoom_NoNumber, T.ex_NoRoom_SaggarError, T.kit_NoRoom_NoNumber, T.kit_NoRoom_NoRoom, T.no_NoNumber_limit, T.ex_NoNumber_NoNumber, T.ex_NoNumber_SaggarError, T.kit_NoNumber_NoNumber, T.kit_NoNumber_NoRoom, J.ho, J.hw, J.hd, J.hf, C.hp, C.hd, T.cl_Store, T.no_Store_room, T.no_Store_entries, T.no_Store_words, T.no_Store__places, T.no_Store__free, T.no_Store__fresh, stF_room, stF_entries, stF_words, stF_places, stF_free, stF_fresh, stF_mused, stF_mexists, stF_mnumbers, stF_mfree, stF_malloc, stF_msize, stF_mkind, stF_mskind, stF_mget, stF_mput, stF_mslots, stF_mdrop, stF_mclose, stF_msnap, stF_mrest, stF_mexch, stF_len, stF_pf, stF_pd, stF_pl, List.length_map]
    by_cases hlt : i < row.length
    · have e0 : row = row.take i ++ row[i] :: row.drop (i + 1) := by rw [← List.drop_eq_getElem_cons hlt, List.take_append_drop]
      generalize row[i] = o at e0
      generalize hr1 : row.take i = r1 at *
      generalize row.drop (i + 1) = r2 at e0
      have tk1 : row.take (i + 1) = r1 ++ [o] := by
        have l1 : r1.length = i := by
          rw [← hr1, List.length_take]
          omega
        rw [e0, List.take_append, l1, show i + 1 - i = 1 by omega, List.take_of_length_le (by omega)]
        rfl
      have fw : flat row = flat r1 ++ (flatO o ++ flat r2) := by rw [e0, flat_app, flat]
      have wl : ws.length = (flat r1).length + (3 + o.sl.length + (flat r2).length) := by rw [R.ws, fw, List.length_append, List.length_append, flatO_len]
      have nd := R.nd
      rw [e0] at nd
      rw [R.ws] at wl
      have e1 : atI (ws.map V.int) ((flat r1).length : Int) = some (.int o.num) := atI_nat (by
        rw [R.ws, List.getElem?_map, fw, List.getElem?_append_right (Nat.le_refl _), Nat.sub_self]
        rfl)
      have e2 : atI (ws.map V.int) (((flat r1).length : Int) + 1) = some (.int (o.sl.length : Int)) := by
        rw [show ((flat r1).length : Int) + 1 = (((flat r1).length + 1 : Nat) : Int) by omega]
        exact atI_nat (by
          rw [R.ws, List.getElem?_map, fw, List.getElem?_append_right (by omega), show (flat r1).length + 1 - (flat r1).length = 1 by omega]
          rfl)
      have e3 : cutV (ws.map V.int) (some ((flat r1).length : Int)) (some (((flat r1).length : Int) + 3 + (o.sl.length : Int))) = (flatO o).map V.int := by
        rw [show ((flat r1).length : Int) + 3 + (o.sl.length : Int) = (((flat r1).length + (3 + o.sl.length) : Nat) : Int) by omega, cutV_mid (by omega) (by rw [List.length_map, R.ws]; omega), R.ws, fw, ← List.map_drop, ← List.map_take, List.drop_append, List.drop_length, Nat.sub_self, List.nil_append, List.drop_zero,
          show (flat r1).length + (3 + o.sl.length) - (flat r1).length = (flatO o).length by rw [flatO_len]; omega, List.take_left']
        rfl
      have e4 : ((valV kvs (Sum.inl o.num)).getD .non = .int ((flat r1).length : Int)) ↔ o.al = true := by
        rw [R.pk.1]
        have ph := pos_here nd
        rw [← e0] at ph
        rw [← ph]
        cases hq : pos row o.num with
        | none => simp
        | some j =>
          simp
          omega
      have e5 : scal ((valV kvs (Sum.inl o.num)).getD .non) (.int ((flat r1).length : Int)) = true := by
        rw [R.pk.1]
        cases pos row o.num with
        | none => rfl
        | some j => rfl
      have nx : ((flat (row.take (i + 1))).length : Int) = ((flat r1).length : Int) + 3 + (o.sl.length : Int) := by
        rw [tk1, flat_app, flat_one, List.length_append, flatO_len]
        omega
      have ab : (flat r1).length < ws.length := by rw [R.ws]; omega
      rw [if_pos (by omega)]
      refine ⟨fun σ' H' => ∃ (kvs' : List (Key × V)) (x y : Option V), σ' = [some (V.ref a), some (V.ref p), some (V.ref pd), some (V.int (flat (row.take (i + 1))).length), x, y] ∧ Cl A H' H a dx w d f rm en ws kvs fr fs F p pd row (i + 1) kvs', ?_, ?_⟩
      · rintro σ' H' ⟨kvs2, x, y, rfl, C2⟩
        exact ⟨_, by omega, i + 1, ⟨x, y, rfl⟩, by omega, rfl, kvs2, C2⟩
      · have hpk := C.hp
        have pk := C.pk
        rw [hr1] at hpk pk
        simp (config := { maxSteps := 4000000 }) only [tSeq, tNext, tDrop, tRet, tRetN, tIfS, tAsg, tTest, tAnd, tOr, tNot, tAndV, tOrV, tNotV, tIf, tOp, tUn, tVar, tC, tCB, tCons, tNil, tCall, tPart, tNoPart, tM0, tM1, tTup, tLst, tB, tIsN, tNotN, rI0, rI, rU, rEq, rNe, rAdd, gName, gTup, gCons, gNil, gSub, rSetL, rIxL, rIxT, rIxS, L2.start,
      List.map_cons, List.map_nil, List.cons_append, List.nil_append, List.append_nil, List.length_cons, List.length_nil, List.replicate, List.getElem?_cons_zero, List.getElem?_cons_succ, List.set_cons_zero, List.set_cons_succ, Nat.reduceAdd, Nat.reduceSub, Nat.sub_self, Nat.zero_add,
      Option.some.injEq, V.int.injEq, V.str.injEq, V.bl.injEq, V.ref.injEq, V.ty.injEq, List.cons.injEq, and_true, true_and, exists_eq_left, exists_eq_left', exists_eq_right, exists_and_left, exists_and_right, exists_const, decide_eq_true_eq, decide_eq_false_iff_not, if_true, if_false, reduceIte, Bool.false_eq_true, Bool.not_eq_true', sc_ii, sc_ss, sc_bb, str1, cx_K, lstAt, rIxM, rSetM, rLenM, atI_0, atI_1, atI_2, atI_3, setI_0, setI_1, setI_2, setI_3, upd_same, upd_upd, ite_true, ite_false, exists_eq', eq_self, and_assoc, rIsS, isTy_bb, isTy_bi, isTy_ib, isTy_ii, isTy_ss, isTy_nb, isTy_ni, Bool.not_true, Bool.not_false, not_true_eq_false, not_false_eq_true, tChain, tRz1, tRz2, rIsX, tFx, tMethE, tCallS, tCallZ, tMeth, tMake, tFld, sFld, HO.ins.injEq, HO.lst.injEq, HO.dK.injEq, HO.tup.injEq, dcAt, rDInM, rDGetM, rDSetM, rDLenM, keyOf_int, keyOf_str, rIsBM, plainV_b, plainV_i, plainV_n, plainV_s, rInM, rListM, rSortM, rSumM, rIsD, tBMM, tBM0M, tSl, rSlM, rAppend, rPop, rClear, wAs, reduceCtorEq, false_implies, true_implies, implies_true, forall_const, cxH_K, clsV_ref, clsV_ty, HO.xd.injEq, Value.ref.injEq, lkc, lkn, pfn, pfc, List.map_nil, rExtend, rCat, rRep, tMethE0, rSortD, rPush, rPopH, tDGetM, gAll, iRev, tCB, sDDel, exf_NoRoom T, exf_NoNumber T, sne_Store_room_entries, sne_Store_room_words, sne_Store_entries_words, sne_Store_room__places, sne_Store_entries__places, sne_Store_words__places, sne_Store_room__free, sne_Store_entries__free, sne_Store_words__free, sne_Store__places__free, sne_Store_room__fresh, sne_Store_entries__fresh, sne_Store_words__fresh, sne_Store__places__fresh, sne_Store__free__fresh, T.no_NoRoom_need, T.ex_NoRoom_NoNumber, T.ex_NoRoom_SaggarError, T.kit_NoRoom_NoNumber, T.kit_NoRoom_NoRoom, T.no_NoNumber_limit, T.ex_NoNumber_NoNumber, T.ex_NoNumber_SaggarError, T.kit_NoNumber_NoNumber, T.kit_NoNumber_NoRoom, J.ho, J.hw, J.hd, J.hf, hpk, C.hd, T.cl_Store, T.no_Store_room, T.no_Store_entries, T.no_Store_words, T.no_Store__places, T.no_Store__free, T.no_Store__fresh, stF_room, stF_entries, stF_words, stF_places, stF_free, stF_fresh, stF_mused, stF_mexists, stF_mnumbers, stF_mfree, stF_malloc, stF_msize, stF_mkind, stF_mskind, stF_mget, stF_mput, stF_mslots, stF_mdrop, stF_mclose, stF_msnap, stF_mrest, stF_mexch, stF_len, stF_pf, stF_pd, stF_pl, List.length_map, e1, e2]
        refine ⟨fun σ' H' => ∃ (kvs' : List (Key × V)), σ' = [some (V.ref a), some (V.ref p), some (V.ref pd), some (V.int (flat r1).length), some (V.int o.num), some (V.int (((flat r1).length : Int) + 3 + (o.sl.length : Int)))] ∧ Cl A H' H a dx w d f rm en ws kvs fr fs F p pd row (i + 1) kvs', ?_, ?_⟩
        · simp (config := { maxSteps := 4000000 }) only [tSeq, tNext, tDrop, tRet, tRetN, tIfS, tAsg, tTest, tAnd, tOr, tNot, tAndV, tOrV, tNotV, tIf, tOp, tUn, tVar, tC, tCB, tCons, tNil, tCall, tPart, tNoPart, tM0, tM1, tTup, tLst, tB, tIsN, tNotN, rI0, rI, rU, rEq, rNe, rAdd, gName, gTup, gCons, gNil, gSub, rSetL, rIxL, rIxT, rIxS, L2.start,
      List.map_cons, List.map_nil, List.cons_append, List.nil_append, List.append_nil, List.length_cons, List.length_nil, List.replicate, List.getElem?_cons_zero, List.getElem?_cons_succ, List.set_cons_zero, List.set_cons_succ, Nat.reduceAdd, Nat.reduceSub, Nat.sub_self, Nat.zero_add,
      Option.some.injEq, V.int.injEq, V.str.injEq, V.bl.injEq, V.ref.injEq, V.ty.injEq, List.cons.injEq, and_true, true_and, exists_eq_left, exists_eq_left', exists_eq_right, exists_and_left, exists_and_right, exists_const, decide_eq_true_eq, decide_eq_false_iff_not, if_true, if_false, reduceIte, Bool.false_eq_true, Bool.not_eq_true', sc_ii, sc_ss, sc_bb, str1, cx_K, lstAt, rIxM, rSetM, rLenM, atI_0, atI_1, atI_2, atI_3, setI_0, setI_1, setI_2, setI_3, upd_same, upd_upd, ite_true, ite_false, exists_eq', eq_self, and_assoc, rIsS, isTy_bb, isTy_bi, isTy_ib, isTy_ii, isTy_ss, isTy_nb, isTy_ni, Bool.not_true, Bool.not_false, not_true_eq_false, not_false_eq_true, tChain, tRz1, tRz2, rIsX, tFx, tMethE, tCallS, tCallZ, tMeth, tMake, tFld, sFld, HO.ins.injEq, HO.lst.injEq, HO.dK.injEq, HO.tup.injEq, dcAt, rDInM, rDGetM, rDSetM, rDLenM, keyOf_int, keyOf_str, rIsBM, plainV_b, plainV_i, plainV_n, plainV_s, rInM, rListM, rSortM, rSumM, rIsD, tBMM, tBM0M, tSl, rSlM, rAppend, rPop, rClear, wAs, reduceCtorEq, false_implies, true_implies, implies_true, forall_const, cxH_K, clsV_ref, clsV_ty, HO.xd.injEq, Value.ref.injEq, lkc, lkn, pfn, pfc, List.map_nil, rExtend, rCat, rRep, tMethE0, rSortD, rPush, rPopH, tDGetM, gAll, iRev, tCB, sDDel, exf_NoRoom T, exf_NoNumber T, sne_Store_room_entries, sne_Store_room_words, sne_Store_entries_words, sne_Store_room__places, sne_Store_entries__places, sne_Store_words__places, sne_Store_room__free, sne_Store_entries__free, sne_Store_words__free, sne_Store__places__free, sne_Store_room__fresh, sne_Store_entries__fresh, sne_Store_words__fresh, sne_Store__places__fresh, sne_Store__free__fresh, T.no_NoRoom_need, T.ex_NoRoom_NoNumber, T.ex_NoRoom_SaggarError, T.kit_NoRoom_NoNumber, T.kit_NoRoom_NoRoom, T.no_NoNumber_limit, T.ex_NoNumber_NoNumber, T.ex_NoNumber_SaggarError, T.kit_NoNumber_NoNumber, T.kit_NoNumber_NoRoom, J.ho, J.hw, J.hd, J.hf, hpk, C.hd, T.cl_Store, T.no_Store_room, T.no_Store_entries, T.no_Store_words, T.no_Store__places, T.no_Store__free, T.no_Store__fresh, stF_room, stF_entries, stF_words, stF_places, stF_free, stF_fresh, stF_mused, stF_mexists, stF_mnumbers, stF_mfree, stF_malloc, stF_msize, stF_mkind, stF_mskind, stF_mget, stF_mput, stF_mslots, stF_mdrop, stF_mclose, stF_msnap, stF_mrest, stF_mexch, stF_len, stF_pf, stF_pd, stF_pl, List.length_map, e1, e2, e4]
          have fl := flat_filter_le r1
          refine ⟨e5, ite2 (fun ha => ?_) (fun ha => ?_)⟩
          · have kl := pk.len
            have kl2 := nums_len (row := r1.filter (·.al))
            have kl3 := List.length_filter_le (·.al) r1
            have kl4 := flat_rows r1
            refine ⟨by omega, ?_⟩
            have J2 := J.other (p := pd) (o := .dK (putK kvs' (Sum.inl o.num) (.int ((flat (r1.filter (·.al))).length : Int)))) od Fd
            have hpk2 : upd H2 pd (.dK (putK kvs' (Sum.inl o.num) (.int ((flat (r1.filter (·.al))).length : Int)))) p = some (.lst ((flat (r1.filter (·.al))).map V.int)) := by rw [upd_ne ppd]; exact hpk
            simp (config := { maxSteps := 4000000 }) only [tSeq, tNext, tDrop, tRet, tRetN, tIfS, tAsg, tTest, tAnd, tOr, tNot, tAndV, tOrV, tNotV, tIf, tOp, tUn, tVar, tC, tCB, tCons, tNil, tCall, tPart, tNoPart, tM0, tM1, tTup, tLst, tB, tIsN, tNotN, rI0, rI, rU, rEq, rNe, rAdd, gName, gTup, gCons, gNil, gSub, rSetL, rIxL, rIxT, rIxS, L2.start,
      List.map_cons, List.map_nil, List.cons_append, List.nil_append, List.append_nil, List.length_cons, List.length_nil, List.replicate, List.getElem?_cons_zero, List.getElem?_cons_succ, List.set_cons_zero, List.set_cons_succ, Nat.reduceAdd, Nat.reduceSub, Nat.sub_self, Nat.zero_add,
      Option.some.injEq, V.int.injEq, V.str.injEq, V.bl.injEq, V.ref.injEq, V.ty.injEq, List.cons.injEq, and_true, true_and, exists_eq_left, exists_eq_left', exists_eq_right, exists_and_left, exists_and_right, exists_const, decide_eq_true_eq, decide_eq_false_iff_not, if_true, if_false, reduceIte, Bool.false_eq_true, Bool.not_eq_true', sc_ii, sc_ss, sc_bb, str1, cx_K, lstAt, rIxM, rSetM, rLenM, atI_0, atI_1, atI_2, atI_3, setI_0, setI_1, setI_2, setI_3, upd_same, upd_upd, ite_true, ite_false, exists_eq', eq_self, and_assoc, rIsS, isTy_bb, isTy_bi, isTy_ib, isTy_ii, isTy_ss, isTy_nb, isTy_ni, Bool.not_true, Bool.not_false, not_true_eq_false, not_false_eq_true, tChain, tRz1, tRz2, rIsX, tFx, tMethE, tCallS, tCallZ, tMeth, tMake, tFld, sFld, HO.ins.injEq, HO.lst.injEq, HO.dK.injEq, HO.tup.injEq, dcAt, rDInM, rDGetM, rDSetM, rDLenM, keyOf_int, keyOf_str, rIsBM, plainV_b, plainV_i, plainV_n, plainV_s, rInM, rListM, rSortM, rSumM, rIsD, tBMM, tBM0M, tSl, rSlM, rAppend, rPop, rClear, wAs, reduceCtorEq, false_implies, true_implies, implies_true, forall_const, cxH_K, clsV_ref, clsV_ty, HO.xd.injEq, Value.ref.injEq, lkc, lkn, pfn, pfc, List.map_nil, rExtend, rCat, rRep, tMethE0, rSortD, rPush, rPopH, tDGetM, gAll, iRev, tCB, sDDel, exf_NoRoom T, exf_NoNumber T, sne_Store_room_entries, sne_Store_room_words, sne_Store_entries_words, sne_Store_room__places, sne_Store_entries__places, sne_Store_words__places, sne_Store_room__free, sne_Store_entries__free, sne_Store_words__free, sne_Store__places__free, sne_Store_room__fresh, sne_Store_entries__fresh, sne_Store_words__fresh, sne_Store__places__fresh, sne_Store__free__fresh, T.no_NoRoom_need, T.ex_NoRoom_NoNumber, T.ex_NoRoom_SaggarError, T.kit_NoRoom_NoNumber, T.kit_NoRoom_NoRoom, T.no_NoNumber_limit, T.ex_NoNumber_NoNumber, T.ex_NoNumber_SaggarError, T.kit_NoNumber_NoNumber, T.kit_NoNumber_NoRoom, J2.ho, J2.hw, J2.hd, J2.hf, hpk2, T.cl_Store, T.no_Store_room, T.no_Store_entries, T.no_Store_words, T.no_Store__places, T.no_Store__free, T.no_Store__fresh, stF_room, stF_entries, stF_words, stF_places, stF_free, stF_fresh, stF_mused, stF_mexists, stF_mnumbers, stF_mfree, stF_malloc, stF_msize, stF_mkind, stF_mskind, stF_mget, stF_mput, stF_mslots, stF_mdrop, stF_mclose, stF_msnap, stF_mrest, stF_mexch, stF_len, stF_pf, stF_pd, stF_pl, List.length_map, e3]
            intro q hq
            have pq := ne_of_none hpk2 hq
            have dq : pd ≠ q := ne_of_none upd_same hq
            have hpk3 := same_new (o := .lst ((flatO o).map V.int)) hq _ _ hpk2
            simp (config := { maxSteps := 4000000 }) only [tSeq, tNext, tDrop, tRet, tRetN, tIfS, tAsg, tTest, tAnd, tOr, tNot, tAndV, tOrV, tNotV, tIf, tOp, tUn, tVar, tC, tCB, tCons, tNil, tCall, tPart, tNoPart, tM0, tM1, tTup, tLst, tB, tIsN, tNotN, rI0, rI, rU, rEq, rNe, rAdd, gName, gTup, gCons, gNil, gSub, rSetL, rIxL, rIxT, rIxS, L2.start,
      List.map_cons, List.map_nil, List.cons_append, List.nil_append, List.append_nil, List.length_cons, List.length_nil, List.replicate, List.getElem?_cons_zero, List.getElem?_cons_succ, List.set_cons_zero, List.set_cons_succ, Nat.reduceAdd, Nat.reduceSub, Nat.sub_self, Nat.zero_add,
      Option.some.injEq, V.int.injEq, V.str.injEq, V.bl.injEq, V.ref.injEq, V.ty.injEq, List.cons.injEq, and_true, true_and, exists_eq_left, exists_eq_left', exists_eq_right, exists_and_left, exists_and_right, exists_const, decide_eq_true_eq, decide_eq_false_iff_not, if_true, if_false, reduceIte, Bool.false_eq_true, Bool.not_eq_true', sc_ii, sc_ss, sc_bb, str1, cx_K, lstAt, rIxM, rSetM, rLenM, atI_0, atI_1, atI_2, atI_3, setI_0, setI_1, setI_2, setI_3, upd_same, upd_upd, ite_true, ite_false, exists_eq', eq_self, and_assoc, rIsS, isTy_bb, isTy_bi, isTy_ib, isTy_ii, isTy_ss, isTy_nb, isTy_ni, Bool.not_true, Bool.not_false, not_true_eq_false, not_false_eq_true, tChain, tRz1, tRz2, rIsX, tFx, tMethE, tCallS, tCallZ, tMeth, tMake, tFld, sFld, HO.ins.injEq, HO.lst.injEq, HO.dK.injEq, HO.tup.injEq, dcAt, rDInM, rDGetM, rDSetM, rDLenM, keyOf_int, keyOf_str, rIsBM, plainV_b, plainV_i, plainV_n, plainV_s, rInM, rListM, rSortM, rSumM, rIsD, tBMM, tBM0M, tSl, rSlM, rAppend, rPop, rClear, wAs, reduceCtorEq, false_implies, true_implies, implies_true, forall_const, cxH_K, clsV_ref, clsV_ty, HO.xd.injEq, Value.ref.injEq, lkc, lkn, pfn, pfc, List.map_nil, rExtend, rCat, rRep, tMethE0, rSortD, rPush, rPopH, tDGetM, gAll, iRev, tCB, sDDel, exf_NoRoom T, exf_NoNumber T, sne_Store_room_entries, sne_Store_room_words, sne_Store_entries_words, sne_Store_room__places, sne_Store_entries__places, sne_Store_words__places, sne_Store_room__free, sne_Store_entries__free, sne_Store_words__free, sne_Store__places__free, sne_Store_room__fresh, sne_Store_entries__fresh, sne_Store_words__fresh, sne_Store__places__fresh, sne_Store__free__fresh, T.no_NoRoom_need, T.ex_NoRoom_NoNumber, T.ex_NoRoom_SaggarError, T.kit_NoRoom_NoNumber, T.kit_NoRoom_NoRoom, T.no_NoNumber_limit, T.ex_NoNumber_NoNumber, T.ex_NoNumber_SaggarError, T.kit_NoNumber_NoNumber, T.kit_NoNumber_NoRoom, hpk3, upd_same]
            refine ⟨by simp only [List.length_map, flatO_len]; omega, putK kvs' (Sum.inl o.num) (.int ((flat (r1.filter (·.al))).length : Int)), ?_⟩
            have J3 := (J2.same (same_new (o := .lst ((flatO o).map V.int)) hq)).other (p := p) (o := .lst ((flat (r1.filter (·.al))).map V.int ++ (flatO o).map V.int)) op Fp
            have fe : (r1 ++ [o]).filter (·.al) = r1.filter (·.al) ++ [o] := by
              rw [List.filter_append, List.filter_cons, if_pos ha]
              rfl
            refine ⟨J3, ?_, by rw [upd_ne (Ne.symm ppd), upd_ne dq, upd_same], ?_, hp, hpd0⟩
            · rw [upd_same, tk1, fe, flat_app, flat_one, List.map_append]
            · rw [tk1, fe]
              refine pk.app ha ?_
              rw [nums_filter]
              rw [nums_app, nums_cons, if_pos ha] at nd
              exact fun z => (List.nodup_append.mp nd).2.2 _ z _ (List.mem_cons_self ..) rfl
          · have af : o.al = false := by simpa using ha
            have fe : (row.take (i + 1)).filter (·.al) = r1.filter (·.al) := by
              rw [tk1, List.filter_append, List.filter_cons, if_neg ha]
              simp
            exact ⟨kvs', J, by rw [fe]; exact hpk, C.hd, by rw [fe]; exact pk, hp, hpd0⟩
        · rintro σ' H3 ⟨kvs2, rfl, C2⟩
          simp (config := { maxSteps := 4000000 }) only [tSeq, tNext, tDrop, tRet, tRetN, tIfS, tAsg, tTest, tAnd, tOr, tNot, tAndV, tOrV, tNotV, tIf, tOp, tUn, tVar, tC, tCB, tCons, tNil, tCall, tPart, tNoPart, tM0, tM1, tTup, tLst, tB, tIsN, tNotN, rI0, rI, rU, rEq, rNe, rAdd, gName, gTup, gCons, gNil, gSub, rSetL, rIxL, rIxT, rIxS, L2.start,
      List.map_cons, List.map_nil, List.cons_append, List.nil_append, List.append_nil, List.length_cons, List.length_nil, List.replicate, List.getElem?_cons_zero, List.getElem?_cons_succ, List.set_cons_zero, List.set_cons_succ, Nat.reduceAdd, Nat.reduceSub, Nat.sub_self, Nat.zero_add,
      Option.some.injEq, V.int.injEq, V.str.injEq, V.bl.injEq, V.ref.injEq, V.ty.injEq, List.cons.injEq, and_true, true_and, exists_eq_left, exists_eq_left', exists_eq_right, exists_and_left, exists_and_right, exists_const, decide_eq_true_eq, decide_eq_false_iff_not, if_true, if_false, reduceIte, Bool.false_eq_true, Bool.not_eq_true', sc_ii, sc_ss, sc_bb, str1, cx_K, lstAt, rIxM, rSetM, rLenM, atI_0, atI_1, atI_2, atI_3, setI_0, setI_1, setI_2, setI_3, upd_same, upd_upd, ite_true, ite_false, exists_eq', eq_self, and_assoc, rIsS, isTy_bb, isTy_bi, isTy_ib, isTy_ii, isTy_ss, isTy_nb, isTy_ni, Bool.not_true, Bool.not_false, not_true_eq_false, not_false_eq_true, tChain, tRz1, tRz2, rIsX, tFx, tMethE, tCallS, tCallZ, tMeth, tMake, tFld, sFld, HO.ins.injEq, HO.lst.injEq, HO.dK.injEq, HO.tup.injEq, dcAt, rDInM, rDGetM, rDSetM, rDLenM, keyOf_int, keyOf_str, rIsBM, plainV_b, plainV_i, plainV_n, plainV_s, rInM, rListM, rSortM, rSumM, rIsD, tBMM, tBM0M, tSl, rSlM, rAppend, rPop, rClear, wAs, reduceCtorEq, false_implies, true_implies, implies_true, forall_const, cxH_K, clsV_ref, clsV_ty, HO.xd.injEq, Value.ref.injEq, lkc, lkn, pfn, pfc, List.map_nil, rExtend, rCat, rRep, tMethE0, rSortD, rPush, rPopH, tDGetM, gAll, iRev, tCB, sDDel, exf_NoRoom T, exf_NoNumber T, sne_Store_room_entries, sne_Store_room_words, sne_Store_entries_words, sne_Store_room__places, sne_Store_entries__places, sne_Store_words__places, sne_Store_room__free, sne_Store_entries__free, sne_Store_words__free, sne_Store__places__free, sne_Store_room__fresh, sne_Store_entries__fresh, sne_Store_words__fresh, sne_Store__places__fresh, sne_Store__free__fresh, T.no_NoRoom_need, T.ex_NoRoom_NoNumber, T.ex_NoRoom_SaggarError, T.kit_NoRoom_NoNumber, T.kit_NoRoom_NoRoom, T.no_NoNumber_limit, T.ex_NoNumber_NoNumber, T.ex_NoNumber_SaggarError, T.kit_NoNumber_NoNumber, T.kit_NoNumber_NoRoom, T.cl_Store, T.no_Store_room, T.no_Store_entries, T.no_Store_words, T.no_Store__places, T.no_Store__free, T.no_Store__fresh, stF_room, stF_entries, stF_words, stF_places, stF_free, stF_fresh, stF_mused, stF_mexists, stF_mnumbers, stF_mfree, stF_malloc, stF_msize, stF_mkind, stF_mskind, stF_mget, stF_mput, stF_mslots, stF_mdrop, stF_mclose, stF_msnap, stF_mrest, stF_mexch, stF_len, stF_pf, stF_pd, stF_pl]
          exact ⟨nx.symm, kvs2, C2⟩
    · have e : i = row.length := by omega
      subst e
      have tk : row.take row.length = row := List.take_length ..
      rw [tk, R.ws]
      rw [if_neg (by omega)]
      have hpk := C.hp
      have pk := C.pk
      rw [tk] at hpk pk
      have fl := flat_filter_le row
      refine ⟨op.2.1.symm, by omega, ?_⟩
      have J2 := J.words (flat (row.filter (·.al)))
      simp (config := { maxSteps := 4000000 }) only [tSeq, tNext, tDrop, tRet, tRetN, tIfS, tAsg, tTest, tAnd, tOr, tNot, tAndV, tOrV, tNotV, tIf, tOp, tUn, tVar, tC, tCB, tCons, tNil, tCall, tPart, tNoPart, tM0, tM1, tTup, tLst, tB, tIsN, tNotN, rI0, rI, rU, rEq, rNe, rAdd, gName, gTup, gCons, gNil, gSub, rSetL, rIxL, rIxT, rIxS, L2.start,
      List.map_cons, List.map_nil, List.cons_append, List.nil_append, List.append_nil, List.length_cons, List.length_nil, List.replicate, List.getElem?_cons_zero, List.getElem?_cons_succ, List.set_cons_zero, List.set_cons_succ, Nat.reduceAdd, Nat.reduceSub, Nat.sub_self, Nat.zero_add,
      Option.some.injEq, V.int.injEq, V.str.injEq, V.bl.injEq, V.ref.injEq, V.ty.injEq, List.cons.injEq, and_true, true_and, exists_eq_left, exists_eq_left', exists_eq_right, exists_and_left, exists_and_right, exists_const, decide_eq_true_eq, decide_eq_false_iff_not, if_true, if_false, reduceIte, Bool.false_eq_true, Bool.not_eq_true', sc_ii, sc_ss, sc_bb, str1, cx_K, lstAt, rIxM, rSetM, rLenM, atI_0, atI_1, atI_2, atI_3, setI_0, setI_1, setI_2, setI_3, upd_same, upd_upd, ite_true, ite_false, exists_eq', eq_self, and_assoc, rIsS, isTy_bb, isTy_bi, isTy_ib, isTy_ii, isTy_ss, isTy_nb, isTy_ni, Bool.not_true, Bool.not_false, not_true_eq_false, not_false_eq_true, tChain, tRz1, tRz2, rIsX, tFx, tMethE, tCallS, tCallZ, tMeth, tMake, tFld, sFld, HO.ins.injEq, HO.lst.injEq, HO.dK.injEq, HO.tup.injEq, dcAt, rDInM, rDGetM, rDSetM, rDLenM, keyOf_int, keyOf_str, rIsBM, plainV_b, plainV_i, plainV_n, plainV_s, rInM, rListM, rSortM, rSumM, rIsD, tBMM, tBM0M, tSl, rSlM, rAppend, rPop, rClear, wAs, reduceCtorEq, false_implies, true_implies, implies_true, forall_const, cxH_K, clsV_ref, clsV_ty, HO.xd.injEq, Value.ref.injEq, lkc, lkn, pfn, pfc, List.map_nil, rExtend, rCat, rRep, tMethE0, rSortD, rPush, rPopH, tDGetM, gAll, iRev, tCB, sDDel, exf_NoRoom T, exf_NoNumber T, sne_Store_room_entries, sne_Store_room_words, sne_Store_entries_words, sne_Store_room__places, sne_Store_entries__places, sne_Store_words__places, sne_Store_room__free, sne_Store_entries__free, sne_Store_words__free, sne_Store__places__free, sne_Store_room__fresh, sne_Store_entries__fresh, sne_Store_words__fresh, sne_Store__places__fresh, sne_Store__free__fresh, T.no_NoRoom_need, T.ex_NoRoom_NoNumber, T.ex_NoRoom_SaggarError, T.kit_NoRoom_NoNumber, T.kit_NoRoom_NoRoom, T.no_NoNumber_limit, T.ex_NoNumber_NoNumber, T.ex_NoNumber_SaggarError, T.kit_NoNumber_NoNumber, T.kit_NoNumber_NoRoom, J2.ho, J2.hw, J2.hd, J2.hf, T.cl_Store, T.no_Store_room, T.no_Store_entries, T.no_Store_words, T.no_Store__places, T.no_Store__free, T.no_Store__fresh, stF_room, stF_entries, stF_words, stF_places, stF_free, stF_fresh, stF_mused, stF_mexists, stF_mnumbers, stF_mfree, stF_malloc, stF_msize, stF_mkind, stF_mskind, stF_mget, stF_mput, stF_mslots, stF_mdrop, stF_mclose, stF_msnap, stF_mrest, stF_mexch, stF_len, stF_pf, stF_pd, stF_pl, List.length_map]
      refine ⟨by decide, ?_⟩
      refine k _ ⟨dx, w, pd, f, _, kvs', fr, fs, ⟨upd_same, by rw [upd_ne (Ne.symm J2.aw)]; exact J2.hw, ?_, by rw [upd_ne (Ne.symm J2.af)]; exact J2.hf, J2.ne, fun b u hb => ?_⟩, R.close pk⟩
      · rw [upd_ne od.1, upd_ne od.2.1]
        exact C.hd
      · obtain ⟨q1, q2, q3, q4, q5⟩ := J2.fr b u hb
        refine ⟨by rw [upd_ne q2]; exact q1, q2, q3, ne_of_none hb Fd, q5⟩
end

def sp_exch (A : Ad) : Sp := fun vs H Q _ => ∃ a rm en row F n m, vs = [.ref a, .int n, .int m] ∧ St A H a rm en row F ∧ n ∈ nums row ∧ m ∈ nums row ∧ ∀ H', St A H' a rm en (exch row n m) F → Q .non H'
theorem sp_exch_len {A vs H Q E} (h : sp_exch A vs H Q E) : vs.length = (["self", "first", "second"] : List Str).length := by
  obtain ⟨_, _, _, _, _, _, _, rfl, _⟩ := h
  rfl
section
variable {P : Program} {w : World} {K : PySem.W.Frag} {mg : Str → Option Value} {base : Heap} {A : Ad}
theorem ok_Store_exchange (T : Txt K mg A) : FnOk P w K mg base CX0 1 A.f_Store_exchange A.d_Store_exchange ["self", "first", "second"] (sp_exch A) := by
  refine Fun.ok T.F_Store_exchange sc_Store_exchange (fun vs H Q E h => ?_) (fun cdv Ar outer s H vs Q E hr h => ?_)
  · exact sp_exch_len h
  · have hu := hu_of hr
    refine ⟨_, (pss_cons (ps_asg (pe_ix (ix_dictM hu) (pe_fld (pv 0) rfl) (pv 1) (fun _ _ => rfl)) (pg_name (i := 3) sc_Store_exchange.nd rfl (Or.inl rfl)))
    (pss_cons (ps_asg (pe_ix (ix_dictM hu) (pe_fld (pv 0) rfl) (pv 2) (fun _ _ => rfl)) (pg_name (i := 4) sc_Store_exchange.nd rfl (Or.inl rfl)))
    (pss_cons (ps_asg (pv 2) (pg_sub (pe_fld (pv 0) rfl) (pv 3) set_lstM))
    (pss_cons (ps_asg (pv 1) (pg_sub (pe_fld (pv 0) rfl) (pv 4) set_lstM))
    (pss_cons (ps_asg (pv 4) (pg_sub (pe_fld (pv 0) rfl) (pv 1) (set_dictM hu)))
    (pss_one (ps_asg (pv 3) (pg_sub (pe_fld (pv 0) rfl) (pv 2) (set_dictM hu))))))))), ?_⟩
    obtain ⟨a, rm, en, row, F, n, m, rfl, ⟨dx, w, d, f, ws, kvs, fr, fs, I, R⟩, hn, hm, k⟩ := h
    obtain ⟨o1, ho1⟩ := getO_of_mem hn
    obtain ⟨o2, ho2⟩ := getO_of_mem hm
    obtain ⟨i, p1, p2, _⟩ := word_at ho1
    obtain ⟨j, q1, q2, _⟩ := word_at ho2
    have hv : valV kvs (Sum.inl n) = some (.int (i : Int)) := by rw [R.pk.1, p1]; rfl
    have hv2 : valV kvs (Sum.inl m) = some (.int (j : Int)) := by rw [R.pk.1, q1]; rfl
    have s1 : setI (ws.map V.int) (i : Int) (.int m) = some ((ws.set i m).map V.int) := by
      rw [setI_nat (by rw [List.length_map, R.ws]; omega), List.map_set]
    have s2 : setI ((ws.set i m).map V.int) (j : Int) (.int n) = some (((ws.set i m).set j n).map V.int) := by
      rw [setI_nat (by rw [List.length_map, List.length_set, R.ws]; omega)]
      simp only [List.map_set]
    have kl := R.kvl
    have sz : (200000 : Nat) ≤ sizeLine := by decide
    simp (config := { maxSteps := 4000000 }) only [tSeq, tNext, tDrop, tRet, tRetN, tIfS, tAsg, tTest, tAnd, tOr, tNot, tAndV, tOrV, tNotV, tIf, tOp, tUn, tVar, tC, tCB, tCons, tNil, tCall, tPart, tNoPart, tM0, tM1, tTup, tLst, tB, tIsN, tNotN, rI0, rI, rU, rEq, rNe, rAdd, gName, gTup, gCons, gNil, gSub, rSetL, rIxL, rIxT, rIxS, L2.start,
      List.map_cons, List.map_nil, List.cons_append, List.nil_append, List.append_nil, List.length_cons, List.length_nil, List.replicate, List.getElem?_cons_zero, List.getElem?_cons_succ, List.set_cons_zero, List.set_cons_succ, Nat.reduceAdd, Nat.reduceSub, Nat.sub_self, Nat.zero_add,
      Option.some.injEq, V.int.injEq, V.str.injEq, V.bl.injEq, V.ref.injEq, V.ty.injEq, List.cons.injEq, and_true, true_and, exists_eq_left, exists_eq_left', exists_eq_right, exists_and_left, exists_and_right, exists_const, decide_eq_true_eq, decide_eq_false_iff_not, if_true, if_false, reduceIte, Bool.false_eq_true, Bool.not_eq_true', sc_ii, sc_ss, sc_bb, str1, cx_K, lstAt, rIxM, rSetM, rLenM, atI_0, atI_1, atI_2, atI_3, setI_0, setI_1, setI_2, setI_3, upd_same, upd_upd, ite_true, ite_false, exists_eq', eq_self, and_assoc, rIsS, isTy_bb, isTy_bi, isTy_ib, isTy_ii, isTy_ss, isTy_nb, isTy_ni, Bool.not_true, Bool.not_false, not_true_eq_false, not_false_eq_true, tChain, tRz1, tRz2, rIsX, tFx, tMethE, tCallS, tCallZ, tMeth, tMake, tFld, sFld, HO.ins.injEq, HO.lst.injEq, HO.dK.injEq, HO.tup.injEq, dcAt, rDInM, rDGetM, rDSetM, rDLenM, keyOf_int, keyOf_str, rIsBM, plainV_b, plainV_i, plainV_n, plainV_s, rInM, rListM, rSortM, rSumM, rIsD, tBMM, tBM0M, tSl, rSlM, rAppend, rPop, rClear, wAs, reduceCtorEq, false_implies, true_implies, implies_true, forall_const, cxH_K, clsV_ref, clsV_ty, HO.xd.injEq, Value.ref.injEq, lkc, lkn, pfn, pfc, List.map_nil, rExtend, rCat, rRep, tMethE0, rSortD, rPush, rPopH, tDGetM, gAll, iRev, tCB, sDDel, exf_NoRoom T, exf_NoNumber T, sne_Store_room_entries, sne_Store_room_words, sne_Store_entries_words, sne_Store_room__places, sne_Store_entries__places, sne_Store_words__places, sne_Store_room__free, sne_Store_entries__free, sne_Store_words__free, sne_Store__places__free, sne_Store_room__fresh, sne_Store_entries__fresh, sne_Store_words__fresh, sne_Store__places__fresh, sne_Store__free__fresh, T.no_NoRoom_need, T.ex_NoRoom_NoNumber, T.ex_NoRoom_SaggarError, T.kit_NoRoom_NoNumber, T.kit_NoRoom_NoRoom, T.no_NoNumber_limit, T.ex_NoNumber_NoNumber, T.ex_NoNumber_SaggarError, T.kit_NoNumber_NoNumber, T.kit_NoNumber_NoRoom, I.ho, I.hw, I.hd, I.hf, T.cl_Store, T.no_Store_room, T.no_Store_entries, T.no_Store_words, T.no_Store__places, T.no_Store__free, T.no_Store__fresh, stF_room, stF_entries, stF_words, stF_places, stF_free, stF_fresh, stF_mused, stF_mexists, stF_mnumbers, stF_mfree, stF_malloc, stF_msize, stF_mkind, stF_mskind, stF_mget, stF_mput, stF_mslots, stF_mdrop, stF_mclose, stF_msnap, stF_mrest, stF_mexch, stF_len, stF_pf, stF_pd, stF_pl, List.length_map, hv, hv2, s1]
    have J := I.words (ws.set i m)
    simp (config := { maxSteps := 4000000 }) only [tSeq, tNext, tDrop, tRet, tRetN, tIfS, tAsg, tTest, tAnd, tOr, tNot, tAndV, tOrV, tNotV, tIf, tOp, tUn, tVar, tC, tCB, tCons, tNil, tCall, tPart, tNoPart, tM0, tM1, tTup, tLst, tB, tIsN, tNotN, rI0, rI, rU, rEq, rNe, rAdd, gName, gTup, gCons, gNil, gSub, rSetL, rIxL, rIxT, rIxS, L2.start,
      List.map_cons, List.map_nil, List.cons_append, List.nil_append, List.append_nil, List.length_cons, List.length_nil, List.replicate, List.getElem?_cons_zero, List.getElem?_cons_succ, List.set_cons_zero, List.set_cons_succ, Nat.reduceAdd, Nat.reduceSub, Nat.sub_self, Nat.zero_add,
      Option.some.injEq, V.int.injEq, V.str.injEq, V.bl.injEq, V.ref.injEq, V.ty.injEq, List.cons.injEq, and_true, true_and, exists_eq_left, exists_eq_left', exists_eq_right, exists_and_left, exists_and_right, exists_const, decide_eq_true_eq, decide_eq_false_iff_not, if_true, if_false, reduceIte, Bool.false_eq_true, Bool.not_eq_true', sc_ii, sc_ss, sc_bb, str1, cx_K, lstAt, rIxM, rSetM, rLenM, atI_0, atI_1, atI_2, atI_3, setI_0, setI_1, setI_2, setI_3, upd_same, upd_upd, ite_true, ite_false, exists_eq', eq_self, and_assoc, rIsS, isTy_bb, isTy_bi, isTy_ib, isTy_ii, isTy_ss, isTy_nb, isTy_ni, Bool.not_true, Bool.not_false, not_true_eq_false, not_false_eq_true, tChain, tRz1, tRz2, rIsX, tFx, tMethE, tCallS, tCallZ, tMeth, tMake, tFld, sFld, HO.ins.injEq, HO.lst.injEq, HO.dK.injEq, HO.tup.injEq, dcAt, rDInM, rDGetM, rDSetM, rDLenM, keyOf_int, keyOf_str, rIsBM, plainV_b, plainV_i, plainV_n, plainV_s, rInM, rListM, rSortM, rSumM, rIsD, tBMM, tBM0M, tSl, rSlM, rAppend, rPop, rClear, wAs, reduceCtorEq, false_implies, true_implies, implies_true, forall_const, cxH_K, clsV_ref, clsV_ty, HO.xd.injEq, Value.ref.injEq, lkc, lkn, pfn, pfc, List.map_nil, rExtend, rCat, rRep, tMethE0, rSortD, rPush, rPopH, tDGetM, gAll, iRev, tCB, sDDel, exf_NoRoom T, exf_NoNumber T, sne_Store_room_entries, sne_Store_room_words, sne_Store_entries_words, sne_Store_room__places, sne_Store_entries__places, sne_Store_words__places, sne_Store_room__free, sne_Store_entries__free, sne_Store_words__free, sne_Store__places__free, sne_Store_room__fresh, sne_Store_entries__fresh, sne_Store_words__fresh, sne_Store__places__fresh, sne_Store__free__fresh, T.no_NoRoom_need, T.ex_NoRoom_NoNumber, T.ex_NoRoom_SaggarError, T.kit_NoRoom_NoNumber, T.kit_NoRoom_NoRoom, T.no_NoNumber_limit, T.ex_NoNumber_NoNumber, T.ex_NoNumber_SaggarError, T.kit_NoNumber_NoNumber, T.kit_NoNumber_NoRoom, J.ho, J.hw, J.hd, J.hf, T.cl_Store, T.no_Store_room, T.no_Store_entries, T.no_Store_words, T.no_Store__places, T.no_Store__free, T.no_Store__fresh, stF_room, stF_entries, stF_words, stF_places, stF_free, stF_fresh, stF_mused, stF_mexists, stF_mnumbers, stF_mfree, stF_malloc, stF_msize, stF_mkind, stF_mskind, stF_mget, stF_mput, stF_mslots, stF_mdrop, stF_mclose, stF_msnap, stF_mrest, stF_mexch, stF_len, stF_pf, stF_pd, stF_pl, List.length_map, hv, hv2, s2]
    have J2 := J.words ((ws.set i m).set j n)
    rw [upd_upd] at J2
    simp (config := { maxSteps := 4000000 }) only [tSeq, tNext, tDrop, tRet, tRetN, tIfS, tAsg, tTest, tAnd, tOr, tNot, tAndV, tOrV, tNotV, tIf, tOp, tUn, tVar, tC, tCB, tCons, tNil, tCall, tPart, tNoPart, tM0, tM1, tTup, tLst, tB, tIsN, tNotN, rI0, rI, rU, rEq, rNe, rAdd, gName, gTup, gCons, gNil, gSub, rSetL, rIxL, rIxT, rIxS, L2.start,
      List.map_cons, List.map_nil, List.cons_append, List.nil_append, List.append_nil, List.length_cons, List.length_nil, List.replicate, List.getElem?_cons_zero, List.getElem?_cons_succ, List.set_cons_zero, List.set_cons_succ, Nat.reduceAdd, Nat.reduceSub, Nat.sub_self, Nat.zero_add,
      Option.some.injEq, V.int.injEq, V.str.injEq, V.bl.injEq, V.ref.injEq, V.ty.injEq, List.cons.injEq, and_true, true_and, exists_eq_left, exists_eq_left', exists_eq_right, exists_and_left, exists_and_right, exists_const, decide_eq_true_eq, decide_eq_false_iff_not, if_true, if_false, reduceIte, Bool.false_eq_true, Bool.not_eq_true', sc_ii, sc_ss, sc_bb, str1, cx_K, lstAt, rIxM, rSetM, rLenM, atI_0, atI_1, atI_2, atI_3, setI_0, setI_1, setI_2, setI_3, upd_same, upd_upd, ite_true, ite_false, exists_eq', eq_self, and_assoc, rIsS, isTy_bb, isTy_bi, isTy_ib, isTy_ii, isTy_ss, isTy_nb, isTy_ni, Bool.not_true, Bool.not_false, not_true_eq_false, not_false_eq_true, tChain, tRz1, tRz2, rIsX, tFx, tMethE, tCallS, tCallZ, tMeth, tMake, tFld, sFld, HO.ins.injEq, HO.lst.injEq, HO.dK.injEq, HO.tup.injEq, dcAt, rDInM, rDGetM, rDSetM, rDLenM, keyOf_int, keyOf_str, rIsBM, plainV_b, plainV_i, plainV_n, plainV_s, rInM, rListM, rSortM, rSumM, rIsD, tBMM, tBM0M, tSl, rSlM, rAppend, rPop, rClear, wAs, reduceCtorEq, false_implies, true_implies, implies_true, forall_const, cxH_K, clsV_ref, clsV_ty, HO.xd.injEq, Value.ref.injEq, lkc, lkn, pfn, pfc, List.map_nil, rExtend, rCat, rRep, tMethE0, rSortD, rPush, rPopH, tDGetM, gAll, iRev, tCB, sDDel, exf_NoRoom T, exf_NoNumber T, sne_Store_room_entries, sne_Store_room_words, sne_Store_entries_words, sne_Store_room__places, sne_Store_entries__places, sne_Store_words__places, sne_Store_room__free, sne_Store_entries__free, sne_Store_words__free, sne_Store__places__free, sne_Store_room__fresh, sne_Store_entries__fresh, sne_Store_words__fresh, sne_Store__places__fresh, sne_Store__free__fresh, T.no_NoRoom_need, T.ex_NoRoom_NoNumber, T.ex_NoRoom_SaggarError, T.kit_NoRoom_NoNumber, T.kit_NoRoom_NoRoom, T.no_NoNumber_limit, T.ex_NoNumber_NoNumber, T.ex_NoNumber_SaggarError, T.kit_NoNumber_NoNumber, T.kit_NoNumber_NoRoom, J2.ho, J2.hw, J2.hd, J2.hf, T.cl_Store, T.no_Store_room, T.no_Store_entries, T.no_Store_words, T.no_Store__places, T.no_Store__free, T.no_Store__fresh, stF_room, stF_entries, stF_words, stF_places, stF_free, stF_fresh, stF_mused, stF_mexists, stF_mnumbers, stF_mfree, stF_malloc, stF_msize, stF_mkind, stF_mskind, stF_mget, stF_mput, stF_mslots, stF_mdrop, stF_mclose, stF_msnap, stF_mrest, stF_mexch, stF_len, stF_pf, stF_pd, stF_pl, List.length_map, hv, hv2]
    refine ⟨by omega, ?_⟩
    have J3 := J2.places (putK kvs (Sum.inl n) (.int (j : Int)))
    simp (config := { maxSteps := 4000000 }) only [tSeq, tNext, tDrop, tRet, tRetN, tIfS, tAsg, tTest, tAnd, tOr, tNot, tAndV, tOrV, tNotV, tIf, tOp, tUn, tVar, tC, tCB, tCons, tNil, tCall, tPart, tNoPart, tM0, tM1, tTup, tLst, tB, tIsN, tNotN, rI0, rI, rU, rEq, rNe, rAdd, gName, gTup, gCons, gNil, gSub, rSetL, rIxL, rIxT, rIxS, L2.start,
      List.map_cons, List.map_nil, List.cons_append, List.nil_append, List.append_nil, List.length_cons, List.length_nil, List.replicate, List.getElem?_cons_zero, List.getElem?_cons_succ, List.set_cons_zero, List.set_cons_succ, Nat.reduceAdd, Nat.reduceSub, Nat.sub_self, Nat.zero_add,
      Option.some.injEq, V.int.injEq, V.str.injEq, V.bl.injEq, V.ref.injEq, V.ty.injEq, List.cons.injEq, and_true, true_and, exists_eq_left, exists_eq_left', exists_eq_right, exists_and_left, exists_and_right, exists_const, decide_eq_true_eq, decide_eq_false_iff_not, if_true, if_false, reduceIte, Bool.false_eq_true, Bool.not_eq_true', sc_ii, sc_ss, sc_bb, str1, cx_K, lstAt, rIxM, rSetM, rLenM, atI_0, atI_1, atI_2, atI_3, setI_0, setI_1, setI_2, setI_3, upd_same, upd_upd, ite_true, ite_false, exists_eq', eq_self, and_assoc, rIsS, isTy_bb, isTy_bi, isTy_ib, isTy_ii, isTy_ss, isTy_nb, isTy_ni, Bool.not_true, Bool.not_false, not_true_eq_false, not_false_eq_true, tChain, tRz1, tRz2, rIsX, tFx, tMethE, tCallS, tCallZ, tMeth, tMake, tFld, sFld, HO.ins.injEq, HO.lst.injEq, HO.dK.injEq, HO.tup.injEq, dcAt, rDInM, rDGetM, rDSetM, rDLenM, keyOf_int, keyOf_str, rIsBM, plainV_b, plainV_i, plainV_n, plainV_s, rInM, rListM, rSortM, rSumM, rIsD, tBMM, tBM0M, tSl, rSlM, rAppend, rPop, rClear, wAs, reduceCtorEq, false_implies, true_implies, implies_true, forall_const, cxH_K, clsV_ref, clsV_ty, HO.xd.injEq, Value.ref.injEq, lkc, lkn, pfn, pfc, List.map_nil, rExtend, rCat, rRep, tMethE0, rSortD, rPush, rPopH, tDGetM, gAll, iRev, tCB, sDDel, exf_NoRoom T, exf_NoNumber T, sne_Store_room_entries, sne_Store_room_words, sne_Store_entries_words, sne_Store_room__places, sne_Store_entries__places, sne_Store_words__places, sne_Store_room__free, sne_Store_entries__free, sne_Store_words__free, sne_Store__places__free, sne_Store_room__fresh, sne_Store_entries__fresh, sne_Store_words__fresh, sne_Store__places__fresh, sne_Store__free__fresh, T.no_NoRoom_need, T.ex_NoRoom_NoNumber, T.ex_NoRoom_SaggarError, T.kit_NoRoom_NoNumber, T.kit_NoRoom_NoRoom, T.no_NoNumber_limit, T.ex_NoNumber_NoNumber, T.ex_NoNumber_SaggarError, T.kit_NoNumber_NoNumber, T.kit_NoNumber_NoRoom, J3.ho, J3.hw, J3.hd, J3.hf, T.cl_Store, T.no_Store_room, T.no_Store_entries, T.no_Store_words, T.no_Store__places, T.no_Store__free, T.no_Store__fresh, stF_room, stF_entries, stF_words, stF_places, stF_free, stF_fresh, stF_mused, stF_mexists, stF_mnumbers, stF_mfree, stF_malloc, stF_msize, stF_mkind, stF_mskind, stF_mget, stF_mput, stF_mslots, stF_mdrop, stF_mclose, stF_msnap, stF_mrest, stF_mexch, stF_len, stF_pf, stF_pd, stF_pl, List.length_map, hv, hv2]
    have hl : (putK kvs (Sum.inl n) (V.int (j : Int))).length = kvs.length := by
      unfold putK
      rw [valV_any, hv]
      simp
    refine ⟨by rw [hl]; omega, ?_⟩
    have J4 := J3.places (putK (putK kvs (Sum.inl n) (.int (j : Int))) (Sum.inl m) (.int (i : Int)))
    rw [upd_upd] at J4
    exact k _ ⟨dx, w, d, f, _, _, _, _, J4, R.ex p1 q1⟩
end

/-! ### the law's own row of objects, beside the store -/
theorem same_refl {H : Hp} : Same H H := fun _ _ h => h
theorem same_trans {H1 H2 H3 : Hp} (a : Same H1 H2) (b : Same H2 H3) : Same H1 H3 := fun _ _ h => b _ _ (a _ _ h)
theorem St.none {A H a rm en row F} (h : St A H a rm en row F) {p : Addr} (e : H p = none) : F p = none := by
  cases q : F p with
  | none => rfl
  | some o =>
    rw [h.get q] at e
    cases e
/-- one object of the row: the list [number, kind, slots, there] at r, the slots at c -/
structure RB where
  r : Addr
  c : Addr
  o : OB
def rbL (b : RB) : HO := .lst [.int b.o.num, .int b.o.kind, .ref b.c, .bl b.o.al]
def obs (bs : List RB) : List OB := bs.map (·.o)
def refs (bs : List RB) : List V := bs.map fun b => .ref b.r
def adrs : List RB → List Addr
  | [] => []
  | b :: bs => b.r :: b.c :: adrs bs
theorem adrs_app : ∀ (xs ys : List RB), adrs (xs ++ ys) = adrs xs ++ adrs ys
  | [], _ => rfl
  | b :: bs, ys => by simp [adrs, adrs_app bs ys]
theorem adrs_mem : ∀ {bs : List RB} {p : Addr}, p ∈ adrs bs ↔ ∃ b ∈ bs, p = b.r ∨ p = b.c
  | [], p => by simp [adrs]
  | b :: bs, p => by
    rw [adrs, List.mem_cons, List.mem_cons, adrs_mem]
    constructor
    · rintro (h | h | ⟨q, hq, h⟩)
      · exact ⟨b, List.mem_cons_self .., .inl h⟩
      · exact ⟨b, List.mem_cons_self .., .inr h⟩
      · exact ⟨q, List.mem_cons_of_mem _ hq, h⟩
    · rintro ⟨q, hq, h⟩
      rcases List.mem_cons.mp hq with rfl | hq
      · exact h.elim .inl fun h => .inr (.inl h)
      · exact .inr (.inr ⟨q, hq, h⟩)
theorem adrs_set : ∀ {bs : List RB} {j : Nat} {b b' : RB}, bs[j]? = some b → b'.r = b.r → b'.c = b.c → adrs (bs.set j b') = adrs bs
  | [], j, b, b', h, _, _ => by simp at h
  | q :: bs, 0, b, b', h, h1, h2 => by
    simp at h
    subst h
    simp [adrs, h1, h2]
  | q :: bs, j + 1, b, b', h, h1, h2 => by
    simp at h
    simp [adrs, adrs_set h h1 h2]
theorem refs_set : ∀ {bs : List RB} {j : Nat} {b b' : RB}, bs[j]? = some b → b'.r = b.r → refs (bs.set j b') = refs bs
  | [], j, b, b', h, _ => by simp at h
  | q :: bs, 0, b, b', h, h1 => by
    simp at h
    subst h
    simp [refs, h1]
  | q :: bs, j + 1, b, b', h, h1 => by
    simp at h
    have := refs_set h h1
    simp only [refs] at this ⊢
    rw [List.set_cons_succ, List.map_cons, List.map_cons, this]
/-- what is read of some of its objects -/
def View (H : Hp) (bs : List RB) : Prop := ∀ b ∈ bs, H b.r = some (rbL b) ∧ H b.c = some (.lst (b.o.sl.map V.int))
theorem View.same {H H' bs} (h : View H bs) (s : Same H H') : View H' bs := fun b hb => ⟨s _ _ (h b hb).1, s _ _ (h b hb).2⟩
theorem View.sub {H bs bs'} (h : View H bs) (s : ∀ b ∈ bs', b ∈ bs) : View H bs' := fun b hb => h b (s b hb)
structure Rw (F : Hp) (rl : Addr) (bs : List RB) (G : Hp) : Prop where
  lst : F rl = some (.lst (refs bs))
  one : View F bs
  nd : (rl :: adrs bs).Nodup
  fr : ∀ p o, G p = some o → F p = some o ∧ p ∉ rl :: adrs bs
/-- store and row; G: what stands beside both -/
def Lx (A : Ad) (H : Hp) (s rl : Addr) (rm en : Int) (row : List OB) (bs : List RB) (G : Hp) : Prop := ∃ F, St A H s rm en row F ∧ Rw F rl bs G
theorem Lx.same {A H H' s rl rm en row bs G} (h : Lx A H s rl rm en row bs G) (e : Same H H') : Lx A H' s rl rm en row bs G := by
  obtain ⟨F, S, R⟩ := h
  exact ⟨F, S.same e, R⟩
theorem Lx.view {A H s rl rm en row bs G} (h : Lx A H s rl rm en row bs G) : View H bs := by
  obtain ⟨F, S, R⟩ := h
  exact fun b hb => ⟨S.get (R.one b hb).1, S.get (R.one b hb).2⟩
theorem Lx.lst {A H s rl rm en row bs G} (h : Lx A H s rl rm en row bs G) : H rl = some (.lst (refs bs)) := by
  obtain ⟨F, S, R⟩ := h
  exact S.get R.lst
theorem Lx.get {A H s rl rm en row bs G} (h : Lx A H s rl rm en row bs G) {p : Addr} {o : HO} (e : G p = some o) : H p = some o := by
  obtain ⟨F, S, R⟩ := h
  exact S.get (R.fr p o e).1
theorem Lx.less {A H s rl rm en row bs G G'} (h : Lx A H s rl rm en row bs G) (e : Same G' G) : Lx A H s rl rm en row bs G' := by
  obtain ⟨F, S, R⟩ := h
  exact ⟨F, S, R.lst, R.one, R.nd, fun p o q => R.fr p o (e p o q)⟩
theorem Lx.out {A H s rl rm en row bs G} (h : Lx A H s rl rm en row bs G) {p : Addr} (e : H p = none) : G p = none := by
  cases q : G p with
  | none => rfl
  | some o =>
    rw [h.get q] at e
    cases e
theorem Rw.out {F rl bs G} (R : Rw F rl bs G) {p : Addr} (e : F p = none) : p ∉ rl :: adrs bs := by
  intro m
  rcases List.mem_cons.mp m with rfl | m
  · rw [R.lst] at e
    cases e
  · obtain ⟨b, hb, h⟩ := adrs_mem.mp m
    rcases h with rfl | rfl
    · rw [(R.one b hb).1] at e
      cases e
    · rw [(R.one b hb).2] at e
      cases e
theorem Lx.new {A H s rl rm en row bs G} (h : Lx A H s rl rm en row bs G) {p : Addr} {o : HO} (e : H p = none) : Lx A (upd H p o) s rl rm en row bs (upd G p o) := by
  obtain ⟨F, S, R⟩ := h
  have Fp := S.none e
  have sm := same_new (o := o) Fp
  refine ⟨_, S.new e, sm _ _ R.lst, R.one.same sm, R.nd, fun q u hq => ?_⟩
  by_cases c : q = p
  · subst c
    rw [upd_same] at hq
    exact ⟨by rw [upd_same]; exact hq, R.out Fp⟩
  · rw [upd_ne c] at hq
    exact ⟨by rw [upd_ne c]; exact (R.fr q u hq).1, (R.fr q u hq).2⟩
theorem Lx.setG {A H s rl rm en row bs G} (h : Lx A H s rl rm en row bs G) {p : Addr} {o u : HO} (e : G p = some u) : Lx A (upd H p o) s rl rm en row bs (upd G p o) := by
  obtain ⟨F, S, R⟩ := h
  obtain ⟨h1, h2⟩ := R.fr p u e
  have n1 : rl ≠ p := fun z => h2 (z ▸ List.mem_cons_self ..)
  have n2 : ∀ b ∈ bs, b.r ≠ p ∧ b.c ≠ p := fun b hb => ⟨fun z => h2 (List.mem_cons_of_mem _ (adrs_mem.mpr ⟨b, hb, .inl z.symm⟩)), fun z => h2 (List.mem_cons_of_mem _ (adrs_mem.mpr ⟨b, hb, .inr z.symm⟩))⟩
  refine ⟨_, S.set h1, by rw [upd_ne n1]; exact R.lst, fun b hb => ⟨by rw [upd_ne (n2 b hb).1]; exact (R.one b hb).1, by rw [upd_ne (n2 b hb).2]; exact (R.one b hb).2⟩, R.nd, fun q v hq => ?_⟩
  by_cases c : q = p
  · subst c
    rw [upd_same] at hq
    exact ⟨by rw [upd_same]; exact hq, h2⟩
  · rw [upd_ne c] at hq
    exact ⟨by rw [upd_ne c]; exact (R.fr q v hq).1, (R.fr q v hq).2⟩
theorem nodup_at : ∀ {bs : List RB} {i j : Nat} {b q : RB}, (adrs bs).Nodup → bs[i]? = some b → bs[j]? = some q → i ≠ j → b.r ≠ q.r ∧ b.r ≠ q.c ∧ b.c ≠ q.r ∧ b.c ≠ q.c
  | [], i, j, b, q, _, h, _, _ => by simp at h
  | x :: bs, 0, 0, b, q, _, _, _, h => absurd rfl h
  | x :: bs, 0, j + 1, b, q, nd, h1, h2, _ => by
    simp at h1 h2
    subst h1
    have hm := List.mem_of_getElem? h2
    have n1 := List.nodup_cons.mp nd
    have n2 := List.nodup_cons.mp n1.2
    have mr := adrs_mem.mpr ⟨q, hm, .inl rfl⟩
    have mc := adrs_mem.mpr ⟨q, hm, .inr rfl⟩
    exact ⟨fun e => n1.1 (e ▸ List.mem_cons_of_mem _ mr), fun e => n1.1 (e ▸ List.mem_cons_of_mem _ mc), fun e => n2.1 (e ▸ mr), fun e => n2.1 (e ▸ mc)⟩
  | x :: bs, i + 1, 0, b, q, nd, h1, h2, _ => by
    simp at h1 h2
    subst h2
    have hm := List.mem_of_getElem? h1
    have n1 := List.nodup_cons.mp nd
    have n2 := List.nodup_cons.mp n1.2
    have mr := adrs_mem.mpr ⟨b, hm, .inl rfl⟩
    have mc := adrs_mem.mpr ⟨b, hm, .inr rfl⟩
    exact ⟨fun e => n1.1 (e ▸ List.mem_cons_of_mem _ mr), fun e => n2.1 (e ▸ mr), fun e => n1.1 (e ▸ List.mem_cons_of_mem _ mc), fun e => n2.1 (e ▸ mc)⟩
  | x :: bs, i + 1, j + 1, b, q, nd, h1, h2, h => by
    simp at h1 h2
    exact nodup_at (List.nodup_cons.mp (List.nodup_cons.mp nd).2).2 h1 h2 (fun e => h (by rw [e]))
theorem adrs_rc {b : RB} : ∀ {bs : List RB}, (adrs bs).Nodup → b ∈ bs → b.r ≠ b.c
  | [], _, h => by cases h
  | x :: bs, nd, h => by
    have n1 := List.nodup_cons.mp nd
    have n2 := List.nodup_cons.mp n1.2
    rcases List.mem_cons.mp h with rfl | h
    · exact fun e => n1.1 (e ▸ List.mem_cons_self ..)
    · exact adrs_rc n2.2 h
theorem mem_set_at {bs : List RB} {j : Nat} {b' q : RB} (h : q ∈ bs.set j b') : q = b' ∨ ∃ i, i ≠ j ∧ bs[i]? = some q := by
  obtain ⟨i, hi⟩ := List.mem_iff_getElem?.mp h
  by_cases c : j = i
  · subst c
    have lt := (List.getElem?_eq_some_iff.mp hi).1
    rw [List.length_set] at lt
    rw [List.getElem?_set_self lt] at hi
    exact .inl (Option.some.inj hi).symm
  · rw [List.getElem?_set_ne c] at hi
    exact .inr ⟨i, fun e => c e.symm, hi⟩
/-- one object's own list changes -/
theorem Lx.setr {A H s rl rm en row bs G} (h : Lx A H s rl rm en row bs G) {j : Nat} {b : RB} (hb : bs[j]? = some b) (n k : Int) (al : Bool) :
    Lx A (upd H b.r (.lst [.int n, .int k, .ref b.c, .bl al])) s rl rm en row (bs.set j ⟨b.r, b.c, ⟨n, k, b.o.sl, al⟩⟩) G := by
  obtain ⟨F, S, R⟩ := h
  have hm := List.mem_of_getElem? hb
  have nd := List.nodup_cons.mp R.nd
  have ar : b.r ∈ adrs bs := adrs_mem.mpr ⟨b, hm, .inl rfl⟩
  refine ⟨_, S.set (R.one b hm).1, by rw [upd_ne (show rl ≠ b.r from fun e => nd.1 (by rw [e]; exact ar)), refs_set (b' := ⟨b.r, b.c, ⟨n, k, b.o.sl, al⟩⟩) hb rfl]; exact R.lst, fun q hq => ?_, by rw [adrs_set (b' := ⟨b.r, b.c, ⟨n, k, b.o.sl, al⟩⟩) hb rfl rfl]; exact R.nd, fun p u hp => ?_⟩
  · rcases mem_set_at hq with rfl | ⟨i, ij, hi⟩
    · refine ⟨upd_same, ?_⟩
      show upd F b.r _ b.c = _
      rw [upd_ne (Ne.symm (adrs_rc nd.2 hm))]
      exact (R.one b hm).2
    · have dis := nodup_at nd.2 hi hb ij
      have := R.one q (List.mem_of_getElem? hi)
      exact ⟨by rw [upd_ne dis.1]; exact this.1, by rw [upd_ne dis.2.2.1]; exact this.2⟩
  · obtain ⟨h1, h2⟩ := R.fr p u hp
    rw [adrs_set (b' := ⟨b.r, b.c, ⟨n, k, b.o.sl, al⟩⟩) hb rfl rfl]
    exact ⟨by rw [upd_ne (show p ≠ b.r from fun e => h2 (by rw [e]; exact List.mem_cons_of_mem _ ar))]; exact h1, h2⟩
/-- one object's slots change -/
theorem Lx.setc {A H s rl rm en row bs G} (h : Lx A H s rl rm en row bs G) {j : Nat} {b : RB} (hb : bs[j]? = some b) (sl : List Int) :
    Lx A (upd H b.c (.lst (sl.map V.int))) s rl rm en row (bs.set j ⟨b.r, b.c, { b.o with sl := sl }⟩) G := by
  obtain ⟨F, S, R⟩ := h
  have hm := List.mem_of_getElem? hb
  have nd := List.nodup_cons.mp R.nd
  have ac : b.c ∈ adrs bs := adrs_mem.mpr ⟨b, hm, .inr rfl⟩
  refine ⟨_, S.set (R.one b hm).2, by rw [upd_ne (show rl ≠ b.c from fun e => nd.1 (by rw [e]; exact ac)), refs_set (b' := ⟨b.r, b.c, { b.o with sl := sl }⟩) hb rfl]; exact R.lst, fun q hq => ?_, by rw [adrs_set (b' := ⟨b.r, b.c, { b.o with sl := sl }⟩) hb rfl rfl]; exact R.nd, fun p u hp => ?_⟩
  · rcases mem_set_at hq with rfl | ⟨i, ij, hi⟩
    · refine ⟨?_, upd_same⟩
      show upd F b.c _ b.r = _
      rw [upd_ne (adrs_rc nd.2 hm)]
      exact (R.one b hm).1
    · have dis := nodup_at nd.2 hi hb ij
      have := R.one q (List.mem_of_getElem? hi)
      exact ⟨by rw [upd_ne dis.2.1]; exact this.1, by rw [upd_ne dis.2.2.2]; exact this.2⟩
  · obtain ⟨h1, h2⟩ := R.fr p u hp
    rw [adrs_set (b' := ⟨b.r, b.c, { b.o with sl := sl }⟩) hb rfl rfl]
    exact ⟨by rw [upd_ne (show p ≠ b.c from fun e => h2 (by rw [e]; exact List.mem_cons_of_mem _ ac))]; exact h1, h2⟩
/-- a new object is put at the end of the row -/
theorem Lx.push {A H H2 s rl rm en row bs G} (h : Lx A H s rl rm en row bs G) (sm : Same H H2) {r c : Addr} {o : OB} (hc : H c = none) (hr : H r = none) (ne : r ≠ c) (c2 : H2 c = some (.lst (o.sl.map V.int))) (r2 : H2 r = some (rbL ⟨r, c, o⟩)) :
    Lx A (upd H2 rl (.lst (refs bs ++ [.ref r]))) s rl rm en row (bs ++ [⟨r, c, o⟩]) G := by
  obtain ⟨F, S, R⟩ := h
  have Fc := S.none hc
  have Fr := S.none hr
  have oc := R.out Fc
  have or := R.out Fr
  have S2 : St A H2 s rm en row (upd (upd F c (.lst (o.sl.map V.int))) r (rbL ⟨r, c, o⟩)) := S.more sm fun b u hb => by
    by_cases e1 : b = r
    · subst e1
      rw [upd_same] at hb
      exact .inr ⟨hr, by rw [r2]; exact hb⟩
    · rw [upd_ne e1] at hb
      by_cases e2 : b = c
      · subst e2
        rw [upd_same] at hb
        exact .inr ⟨hc, by rw [c2]; exact hb⟩
      · rw [upd_ne e2] at hb
        exact .inl hb
  have smF : Same F (upd (upd F c (.lst (o.sl.map V.int))) r (rbL ⟨r, c, o⟩)) := same_trans (same_new Fc) (same_new (by rw [upd_ne ne]; exact Fr))
  have rlr : rl ≠ r := fun e => or (e ▸ List.mem_cons_self ..)
  have rlc : rl ≠ c := fun e => oc (e ▸ List.mem_cons_self ..)
  have nd := List.nodup_cons.mp R.nd
  refine ⟨_, S2.set (smF _ _ R.lst), by rw [upd_same]; simp [refs], fun q hq => ?_, ?_, fun p u hp => ?_⟩
  · rcases List.mem_append.mp hq with hq | hq
    · have n1 : q.r ≠ rl := fun e => nd.1 (e ▸ adrs_mem.mpr ⟨q, hq, .inl rfl⟩)
      have n2 : q.c ≠ rl := fun e => nd.1 (e ▸ adrs_mem.mpr ⟨q, hq, .inr rfl⟩)
      exact ⟨by rw [upd_ne n1]; exact smF _ _ (R.one q hq).1, by rw [upd_ne n2]; exact smF _ _ (R.one q hq).2⟩
    · rw [List.mem_singleton] at hq
      subst hq
      exact ⟨by rw [upd_ne (Ne.symm rlr), upd_same], by rw [upd_ne (Ne.symm rlc), upd_ne (Ne.symm ne), upd_same]⟩
  · rw [adrs_app]
    refine List.nodup_cons.mpr ⟨fun m => ?_, List.nodup_append.mpr ⟨nd.2, ?_, fun x hx y hy e => ?_⟩⟩
    · rcases List.mem_append.mp m with m | m
      · exact nd.1 m
      · simp [adrs] at m
        exact m.elim rlr rlc
    · simp [adrs, ne]
    · subst e
      simp [adrs] at hy
      rcases hy with rfl | rfl
      · exact or (List.mem_cons_of_mem _ hx)
      · exact oc (List.mem_cons_of_mem _ hx)
  · obtain ⟨h1, h2⟩ := R.fr p u hp
    have n1 : p ≠ rl := fun e => h2 (e ▸ List.mem_cons_self ..)
    refine ⟨by rw [upd_ne n1]; exact smF _ _ h1, fun m => ?_⟩
    rw [adrs_app, ← List.cons_append] at m
    rcases List.mem_append.mp m with m | m
    · exact h2 m
    · simp [adrs] at m
      rcases m with rfl | rfl
      · rw [Fr] at h1
        cases h1
      · rw [Fc] at h1
        cases h1
/-- two objects of the row that are there have different numbers -/
theorem nums_inj : ∀ {row : List OB} {i j : Nat} {o q : OB}, (nums row).Nodup → row[i]? = some o → row[j]? = some q → o.al = true → q.al = true → o.num = q.num → i = j
  | [], i, j, o, q, _, h, _, _, _, _ => by simp at h
  | x :: r, 0, 0, o, q, _, _, _, _, _, _ => rfl
  | x :: r, 0, j + 1, o, q, nd, h1, h2, a1, a2, e => by
    simp at h1 h2
    subst h1
    rw [nums_cons, if_pos a1] at nd
    exact absurd (mem_nums.mpr ⟨q, List.mem_of_getElem? h2, hasN_iff.mpr ⟨a2, e.symm⟩⟩) (List.nodup_cons.mp nd).1
  | x :: r, i + 1, 0, o, q, nd, h1, h2, a1, a2, e => by
    simp at h1 h2
    subst h2
    rw [nums_cons, if_pos a2] at nd
    exact absurd (mem_nums.mpr ⟨o, List.mem_of_getElem? h1, hasN_iff.mpr ⟨a1, e⟩⟩) (List.nodup_cons.mp nd).1
  | x :: r, i + 1, j + 1, o, q, nd, h1, h2, a1, a2, e => by
    simp at h1 h2
    rw [nums_cons] at nd
    have nd' : (nums r).Nodup := by
      by_cases g : x.al = true
      · rw [if_pos g] at nd
        exact (List.nodup_cons.mp nd).2
      · rw [if_neg g] at nd
        exact nd
    rw [nums_inj nd' h1 h2 a1 a2 e]
theorem map_one {row : List OB} {j : Nat} {o o' : OB} {n : Int} {f : OB → OB} (nd : (nums row).Nodup) (hj : row[j]? = some o) (ho : hasN n o = true) (h1 : f o = o') (h2 : ∀ q, ¬ hasN n q = true → f q = q) : row.map f = row.set j o' := by
  apply List.ext_getElem?
  intro i
  rw [List.getElem?_map]
  by_cases c : j = i
  · subst c
    rw [List.getElem?_set_self (List.getElem?_eq_some_iff.mp hj).1, hj, ← h1]
    rfl
  · rw [List.getElem?_set_ne c]
    cases hi : row[i]? with
    | none => rfl
    | some q =>
      show some (f q) = some q
      rw [h2 q fun z => c (nums_inj nd hj hi (hasN_iff.mp ho).1 (hasN_iff.mp z).1 ((hasN_iff.mp ho).2.trans (hasN_iff.mp z).2.symm))]
theorem drop_set {row : List OB} {j : Nat} {o : OB} (nd : (nums row).Nodup) (hj : row[j]? = some o) (ha : o.al = true) : dropO row o.num = row.set j { o with al := false } :=
  map_one nd hj (hasN_iff.mpr ⟨ha, rfl⟩) (dropX_t (hasN_iff.mpr ⟨ha, rfl⟩)) fun _ h => dropX_f h
theorem put_set {row : List OB} {j i : Nat} {v : Int} {o : OB} (nd : (nums row).Nodup) (hj : row[j]? = some o) (ha : o.al = true) : putO row o.num i v = row.set j { o with sl := o.sl.set i v } :=
  map_one nd hj (hasN_iff.mpr ⟨ha, rfl⟩) (if_pos (hasN_iff.mpr ⟨ha, rfl⟩)) fun _ h => if_neg h
theorem kind_set {row : List OB} {j : Nat} {v : Int} {o : OB} (nd : (nums row).Nodup) (hj : row[j]? = some o) (ha : o.al = true) : kindO row o.num v = row.set j { o with kind := v } :=
  map_one nd hj (hasN_iff.mpr ⟨ha, rfl⟩) (if_pos (hasN_iff.mpr ⟨ha, rfl⟩)) fun _ h => if_neg h
theorem exch_set {row : List OB} {i j : Nat} {o q : OB} (nd : (nums row).Nodup) (hi : row[i]? = some o) (hj : row[j]? = some q) (ha : o.al = true) (hb : q.al = true) :
    exch row o.num q.num = (row.set i { o with num := q.num }).set j { q with num := o.num } := by
  apply List.ext_getElem?
  intro k
  unfold exch
  rw [List.getElem?_map]
  have li := (List.getElem?_eq_some_iff.mp hi).1
  have lj := (List.getElem?_eq_some_iff.mp hj).1
  by_cases c : j = k
  · subst c
    rw [List.getElem?_set_self (by rw [List.length_set]; exact lj), hj]
    show some (exO o.num q.num q) = _
    unfold exO sw2
    rw [if_pos hb]
    by_cases e : q.num = o.num
    · rw [if_pos e, e]
    · rw [if_neg e, if_pos rfl]
  · rw [List.getElem?_set_ne c]
    by_cases d : i = k
    · subst d
      rw [List.getElem?_set_self li, hi]
      show some (exO o.num q.num o) = _
      unfold exO sw2
      rw [if_pos ha, if_pos rfl]
    · rw [List.getElem?_set_ne d]
      cases hk : row[k]? with
      | none => rfl
      | some x =>
        show some (exO o.num q.num x) = some x
        unfold exO sw2
        by_cases a : x.al = true
        · rw [if_pos a, if_neg (fun e => d (nums_inj nd hi hk ha a e.symm)), if_neg (fun e => c (nums_inj nd hj hk hb a e.symm))]
        · rw [if_neg a]
theorem Lx.nodup {A H s rl rm en row bs G} (h : Lx A H s rl rm en row bs G) : (nums row).Nodup := by
  obtain ⟨F, ⟨dx, w, d, f, ws, kvs, fr, fs, I, R⟩, _⟩ := h
  exact R.nd
theorem obs_set {bs : List RB} {j : Nat} {r c : Addr} {o : OB} : obs (bs.set j ⟨r, c, o⟩) = (obs bs).set j o := by
  unfold obs
  rw [List.map_set]
theorem obs_at {bs : List RB} {j : Nat} {b : RB} (h : bs[j]? = some b) : (obs bs)[j]? = some b.o := by
  unfold obs
  rw [List.getElem?_map, h]
  rfl
theorem getO_at {row : List OB} {j : Nat} {o : OB} (nd : (nums row).Nodup) (hj : row[j]? = some o) (ha : o.al = true) : getO row o.num = some o := by
  obtain ⟨q, hq⟩ := getO_of_mem (mem_nums.mpr ⟨o, List.mem_of_getElem? hj, hasN_iff.mpr ⟨ha, rfl⟩⟩)
  obtain ⟨hm, hn⟩ := getO_mem hq
  obtain ⟨i, hi⟩ := List.mem_iff_getElem?.mp hm
  have := nums_inj nd hj hi ha (hasN_iff.mp hn).1 (hasN_iff.mp hn).2.symm
  subst this
  rw [hj] at hi
  rw [hq]
  exact hi.symm
theorem refs_at {bs : List RB} {j : Nat} {b : RB} (h : bs[j]? = some b) : atI (refs bs) (j : Int) = some (.ref b.r) := by
  refine atI_nat ?_
  unfold refs
  rw [List.getElem?_map, h]
  rfl
theorem refs_len {bs : List RB} : (refs bs).length = bs.length := by
  unfold refs
  rw [List.length_map]
theorem St.ho {A H a rm en row F} (h : St A H a rm en row F) : ∃ dx w d f fs, H a = some (.ins A.C_Store dx (stF rm en w d f fs)) := by
  obtain ⟨dx, w, d, f, ws, kvs, fr, fs, I, R⟩ := h
  exact ⟨dx, w, d, f, fs, I.ho⟩
theorem Lx.ho {A H s rl rm en row bs G} (h : Lx A H s rl rm en row bs G) : ∃ dx w d f fs, H s = some (.ins A.C_Store dx (stF rm en w d f fs)) := by
  obtain ⟨F, S, R⟩ := h
  exact S.ho
theorem Lx.row {A H s rl rm en row row' bs G} (h : Lx A H s rl rm en row bs G) (e : row = row') : Lx A H s rl rm en row' bs G := e ▸ h
/-- one of those that are there -/
theorem pick_al {bs : List RB} (h : 0 < (bs.filter (·.o.al)).length) (z : Int) : ∃ (j : Nat) (b : RB), atI (refs (bs.filter (·.o.al))) (z % ((bs.filter (·.o.al)).length : Int)) = some (.ref b.r) ∧ bs[j]? = some b ∧ b.o.al = true := by
  have z0 := Int.emod_nonneg z (show ((bs.filter (·.o.al)).length : Int) ≠ 0 by omega)
  have z1 := Int.emod_lt_of_pos z (show (0 : Int) < (bs.filter (·.o.al)).length by omega)
  obtain ⟨i, hi⟩ := Int.eq_ofNat_of_zero_le z0
  rw [hi]
  have hl : i < (bs.filter (·.o.al)).length := by omega
  have hm := List.mem_filter.mp (List.getElem_mem hl)
  obtain ⟨j, hj⟩ := List.mem_iff_getElem?.mp hm.1
  exact ⟨j, _, refs_at (List.getElem?_eq_getElem hl), hj, hm.2⟩
theorem Lx.words {A H s rl rm en row bs G} (h : Lx A H s rl rm en row bs G) : ∃ dx w d f fs, H s = some (.ins A.C_Store dx (stF rm en w d f fs)) ∧ H w = some (.lst ((flat row).map V.int)) ∧ (flat row).length ≤ 100000 := by
  obtain ⟨F, ⟨dx, w, d, f, ws, kvs, fr, fs, I, R⟩, _⟩ := h
  have hw := I.hw
  rw [R.ws] at hw
  exact ⟨dx, w, d, f, fs, I.ho, hw, R.sz⟩

/-- a copy of all that a store of this row is made of -/
def Sn (D : Hp) (T : Addr) (en : Int) (row : List OB) : Prop := ∃ (w d f : Addr) (ws : List Int) (kvs : List (Key × V)) (fr : List Int) (fs : Int), D T = some (.tup [.ref w, .ref d, .ref f, .int fs]) ∧ D w = some (.lst (ws.map V.int)) ∧ D d = some (.dK kvs) ∧ D f = some (.lst (fr.map V.int)) ∧ RowOk en ws kvs fr fs row
/-- what is new in H' beside H -/
def Fresh (H H' D : Hp) : Prop := ∀ b o, D b = some o → H b = none ∧ H' b = some o
def uni (D F : Hp) : Hp := fun b => match D b with
  | some o => some o
  | none => F b
theorem Sn.same {D D' T en row} (h : Sn D T en row) (s : Same D D') : Sn D' T en row := by
  obtain ⟨w, d, f, ws, kvs, fr, fs, h1, h2, h3, h4, R⟩ := h
  exact ⟨w, d, f, ws, kvs, fr, fs, s _ _ h1, s _ _ h2, s _ _ h3, s _ _ h4, R⟩
theorem uni_l {D F : Hp} : Same D (uni D F) := fun b o h => by
  unfold uni
  rw [h]
theorem St.uni {A H H' a rm en row F D} (h : St A H a rm en row F) (s : Same H H') (f : Fresh H H' D) : St A H' a rm en row (My.uni D F) := h.more s fun b o e => by
  unfold My.uni at e
  split at e
  · rename_i o' q
    cases e
    exact .inr (f b o q)
  · exact .inl e
theorem uni_r {A H H' a rm en row F D} (h : St A H a rm en row F) (f : Fresh H H' D) : Same F (uni D F) := fun b o e => by
  unfold uni
  split
  · rename_i o' q
    have := (f b o' q).1
    rw [h.get e] at this
    cases this
  · exact e
theorem Fresh.one {H H1 : Hp} {D : Addr} {u : HO} (h : H D = none) (g : H1 D = some u) : Fresh H H1 (upd (fun _ => none) D u) := fun b o e => by
  by_cases c : b = D
  · subst c
    rw [upd_same] at e
    exact ⟨h, by rw [g]; exact e⟩
  · rw [upd_ne c] at e
    cases e
theorem Fresh.new {H H1 D : Hp} {p : Addr} {o : HO} (f : Fresh H H1 D) (s : Same H H1) (h : H1 p = none) : Fresh H (upd H1 p o) (upd D p o) := fun b u e => by
  by_cases c : b = p
  · subst c
    rw [upd_same] at e
    refine ⟨?_, by rw [upd_same]; exact e⟩
    cases q : H b with
    | none => rfl
    | some z =>
      rw [s _ _ q] at h
      cases h
  · rw [upd_ne c] at e ⊢
    exact f b u e
theorem PK.keys {kvs row} (h : PK kvs row) (nd : (nums row).Nodup) : (kvs.map (·.1)).Nodup := by
  obtain ⟨_, ks, e, p⟩ := h
  rw [e]
  exact List.pairwise_map.mpr ((p.nodup_iff.mpr nd).imp fun h z => h (Sum.inl.inj z))

def sp_snap (A : Ad) : Sp := fun vs H Q _ => ∃ a rm en row F, vs = [.ref a] ∧ St A H a rm en row F ∧ ∀ H' T D, Same H H' → Fresh H H' D → Sn D T en row → Q (.ref T) H'
theorem sp_snap_len {A vs H Q E} (h : sp_snap A vs H Q E) : vs.length = (["self"] : List Str).length := by
  obtain ⟨_, _, _, _, _, rfl, _⟩ := h
  rfl
section
variable {P : Program} {w : World} {K : PySem.W.Frag} {mg : Str → Option Value} {base : Heap} {A : Ad}
theorem ok_Store_snapshot (T : Txt K mg A) : FnOk P w K mg base CX0 1 A.f_Store_snapshot A.d_Store_snapshot ["self"] (sp_snap A) := by
  refine Fun.ok T.F_Store_snapshot sc_Store_snapshot (fun vs H Q E h => ?_) (fun cdv Ar outer s H vs Q E hr h => ?_)
  · exact sp_snap_len h
  · have hu := hu_of hr
    refine ⟨_, (pss_cons (ps_lock (ps_setDc (i := 1) (own := [("number", 2), ("at", 3)]) (g := gTup _ 2 (gCons (gName 2) (gCons (gName 3) gNil))) rfl sc_Store_snapshot.nd rfl rfl (sw_trueD rfl rfl rfl (by decide +kernel)) (pi_items (pe_fld (pv 0) rfl)) (blkOk_by (own := [("number", 2), ("at", 3)]) (N := ["self", "places", "number", "at"]) (sc := defScope s_Store_snapshot) (by decide +kernel)) (fun _ _ _ _ _ => (pg_tup (by rfl) (pgs_cons (pg_name (i := 2) sc_Store_snapshot.nd rfl (Or.inl rfl)) (pgs_cons (pg_name (i := 3) sc_Store_snapshot.nd rfl (Or.inl rfl)) pgs_nil)))) (fun _ _ _ _ _ => pts_nil) (fun _ _ _ _ _ => (pv 2)) (fun _ _ _ _ _ => (pv 3))))
    (pss_one (ps_ret (pe_tup (pa_cons (pe_callTy call_listM (by rfl) T.z_list (by decide +kernel) (pa_cons (pe_fld (pv 0) rfl) pa_nil)) (pa_cons (pv 1) (pa_cons (pe_callTy call_listM (by rfl) T.z_list (by decide +kernel) (pa_cons (pe_fld (pv 0) rfl) pa_nil)) (pa_cons (pe_fld (pv 0) rfl) pa_nil)))))))), ?_⟩
    obtain ⟨a, rm, en, row, F, rfl, ⟨dx, w, d, f, ws, kvs, fr, fs, I, R⟩, k⟩ := h
    have kl := R.kvl
    have h1 : ∀ od, upd H d (HO.frz od (.dK kvs)) a = some (.ins A.C_Store dx (stF rm en w d f fs)) := fun od => by rw [upd_ne I.add]; exact I.ho
    refine t_lock_set (dc_items (K := K) kvs (fun od R' h => ?_) I.hd (R.pk.keys R.nd) (by omega) (by show 2 < 4; decide) (by show 3 < 4; decide) (by decide) fun D H1 sm hD gD => ?_)
    · simp (config := { maxSteps := 4000000 }) only [tSeq, tNext, tDrop, tRet, tRetN, tIfS, tAsg, tTest, tAnd, tOr, tNot, tAndV, tOrV, tNotV, tIf, tOp, tUn, tVar, tC, tCB, tCons, tNil, tCall, tPart, tNoPart, tM0, tM1, tTup, tLst, tB, tIsN, tNotN, rI0, rI, rU, rEq, rNe, rAdd, gName, gTup, gCons, gNil, gSub, rSetL, rIxL, rIxT, rIxS, L2.start,
      List.map_cons, List.map_nil, List.cons_append, List.nil_append, List.append_nil, List.length_cons, List.length_nil, List.replicate, List.getElem?_cons_zero, List.getElem?_cons_succ, List.set_cons_zero, List.set_cons_succ, Nat.reduceAdd, Nat.reduceSub, Nat.sub_self, Nat.zero_add,
      Option.some.injEq, V.int.injEq, V.str.injEq, V.bl.injEq, V.ref.injEq, V.ty.injEq, List.cons.injEq, and_true, true_and, exists_eq_left, exists_eq_left', exists_eq_right, exists_and_left, exists_and_right, exists_const, decide_eq_true_eq, decide_eq_false_iff_not, if_true, if_false, reduceIte, Bool.false_eq_true, Bool.not_eq_true', sc_ii, sc_ss, sc_bb, str1, cx_K, lstAt, rIxM, rSetM, rLenM, atI_0, atI_1, atI_2, atI_3, setI_0, setI_1, setI_2, setI_3, upd_same, upd_upd, ite_true, ite_false, exists_eq', eq_self, and_assoc, rIsS, isTy_bb, isTy_bi, isTy_ib, isTy_ii, isTy_ss, isTy_nb, isTy_ni, Bool.not_true, Bool.not_false, not_true_eq_false, not_false_eq_true, tChain, tRz1, tRz2, rIsX, tFx, tMethE, tCallS, tCallZ, tMeth, tMake, tFld, sFld, HO.ins.injEq, HO.lst.injEq, HO.dK.injEq, HO.tup.injEq, dcAt, rDInM, rDGetM, rDSetM, rDLenM, keyOf_int, keyOf_str, rIsBM, plainV_b, plainV_i, plainV_n, plainV_s, rInM, rListM, rSortM, rSumM, rIsD, tBMM, tBM0M, tSl, rSlM, rAppend, rPop, rClear, wAs, reduceCtorEq, false_implies, true_implies, implies_true, forall_const, cxH_K, clsV_ref, clsV_ty, HO.xd.injEq, Value.ref.injEq, lkc, lkn, pfn, pfc, List.map_nil, rExtend, rCat, rRep, tMethE0, rSortD, rPush, rPopH, tDGetM, gAll, iRev, tCB, sDDel, exf_NoRoom T, exf_NoNumber T, sne_Store_room_entries, sne_Store_room_words, sne_Store_entries_words, sne_Store_room__places, sne_Store_entries__places, sne_Store_words__places, sne_Store_room__free, sne_Store_entries__free, sne_Store_words__free, sne_Store__places__free, sne_Store_room__fresh, sne_Store_entries__fresh, sne_Store_words__fresh, sne_Store__places__fresh, sne_Store__free__fresh, T.no_NoRoom_need, T.ex_NoRoom_NoNumber, T.ex_NoRoom_SaggarError, T.kit_NoRoom_NoNumber, T.kit_NoRoom_NoRoom, T.no_NoNumber_limit, T.ex_NoNumber_NoNumber, T.ex_NoNumber_SaggarError, T.kit_NoNumber_NoNumber, T.kit_NoNumber_NoRoom, h1, T.cl_Store, T.no_Store_room, T.no_Store_entries, T.no_Store_words, T.no_Store__places, T.no_Store__free, T.no_Store__fresh, stF_room, stF_entries, stF_words, stF_places, stF_free, stF_fresh, stF_mused, stF_mexists, stF_mnumbers, stF_mfree, stF_malloc, stF_msize, stF_mkind, stF_mskind, stF_mget, stF_mput, stF_mslots, stF_mdrop, stF_mclose, stF_msnap, stF_mrest, stF_mexch, stF_len, stF_pf, stF_pd, stF_pl]
      exact h
    · have J := I.same sm
      simp (config := { maxSteps := 4000000 }) only [tSeq, tNext, tDrop, tRet, tRetN, tIfS, tAsg, tTest, tAnd, tOr, tNot, tAndV, tOrV, tNotV, tIf, tOp, tUn, tVar, tC, tCB, tCons, tNil, tCall, tPart, tNoPart, tM0, tM1, tTup, tLst, tB, tIsN, tNotN, rI0, rI, rU, rEq, rNe, rAdd, gName, gTup, gCons, gNil, gSub, rSetL, rIxL, rIxT, rIxS, L2.start,
      List.map_cons, List.map_nil, List.cons_append, List.nil_append, List.append_nil, List.length_cons, List.length_nil, List.replicate, List.getElem?_cons_zero, List.getElem?_cons_succ, List.set_cons_zero, List.set_cons_succ, Nat.reduceAdd, Nat.reduceSub, Nat.sub_self, Nat.zero_add,
      Option.some.injEq, V.int.injEq, V.str.injEq, V.bl.injEq, V.ref.injEq, V.ty.injEq, List.cons.injEq, and_true, true_and, exists_eq_left, exists_eq_left', exists_eq_right, exists_and_left, exists_and_right, exists_const, decide_eq_true_eq, decide_eq_false_iff_not, if_true, if_false, reduceIte, Bool.false_eq_true, Bool.not_eq_true', sc_ii, sc_ss, sc_bb, str1, cx_K, lstAt, rIxM, rSetM, rLenM, atI_0, atI_1, atI_2, atI_3, setI_0, setI_1, setI_2, setI_3, upd_same, upd_upd, ite_true, ite_false, exists_eq', eq_self, and_assoc, rIsS, isTy_bb, isTy_bi, isTy_ib, isTy_ii, isTy_ss, isTy_nb, isTy_ni, Bool.not_true, Bool.not_false, not_true_eq_false, not_false_eq_true, tChain, tRz1, tRz2, rIsX, tFx, tMethE, tCallS, tCallZ, tMeth, tMake, tFld, sFld, HO.ins.injEq, HO.lst.injEq, HO.dK.injEq, HO.tup.injEq, dcAt, rDInM, rDGetM, rDSetM, rDLenM, keyOf_int, keyOf_str, rIsBM, plainV_b, plainV_i, plainV_n, plainV_s, rInM, rListM, rSortM, rSumM, rIsD, tBMM, tBM0M, tSl, rSlM, rAppend, rPop, rClear, wAs, reduceCtorEq, false_implies, true_implies, implies_true, forall_const, cxH_K, clsV_ref, clsV_ty, HO.xd.injEq, Value.ref.injEq, lkc, lkn, pfn, pfc, List.map_nil, rExtend, rCat, rRep, tMethE0, rSortD, rPush, rPopH, tDGetM, gAll, iRev, tCB, sDDel, exf_NoRoom T, exf_NoNumber T, sne_Store_room_entries, sne_Store_room_words, sne_Store_entries_words, sne_Store_room__places, sne_Store_entries__places, sne_Store_words__places, sne_Store_room__free, sne_Store_entries__free, sne_Store_words__free, sne_Store__places__free, sne_Store_room__fresh, sne_Store_entries__fresh, sne_Store_words__fresh, sne_Store__places__fresh, sne_Store__free__fresh, T.no_NoRoom_need, T.ex_NoRoom_NoNumber, T.ex_NoRoom_SaggarError, T.kit_NoRoom_NoNumber, T.kit_NoRoom_NoRoom, T.no_NoNumber_limit, T.ex_NoNumber_NoNumber, T.ex_NoNumber_SaggarError, T.kit_NoNumber_NoNumber, T.kit_NoNumber_NoRoom, J.ho, J.hw, J.hd, J.hf, T.cl_Store, T.no_Store_room, T.no_Store_entries, T.no_Store_words, T.no_Store__places, T.no_Store__free, T.no_Store__fresh, stF_room, stF_entries, stF_words, stF_places, stF_free, stF_fresh, stF_mused, stF_mexists, stF_mnumbers, stF_mfree, stF_malloc, stF_msize, stF_mkind, stF_mskind, stF_mget, stF_mput, stF_mslots, stF_mdrop, stF_mclose, stF_msnap, stF_mrest, stF_mexch, stF_len, stF_pf, stF_pd, stF_pl, List.length_map]
      intro l hl
      have dl := ne_of_none gD hl
      have f1 := (Fresh.one hD gD).new (o := .lst (ws.map V.int)) sm hl
      have sm2 := same_trans sm (same_new (o := .lst (ws.map V.int)) hl)
      have J2 := I.same sm2
      have g2 : upd H1 l (HO.lst (ws.map V.int)) l = some (.lst (ws.map V.int)) := upd_same
      have gD2 := same_new (o := HO.lst (ws.map V.int)) hl _ _ gD
      generalize upd H1 l (HO.lst (ws.map V.int)) = H2 at f1 sm2 J2 g2 gD2 ⊢
      simp (config := { maxSteps := 4000000 }) only [tSeq, tNext, tDrop, tRet, tRetN, tIfS, tAsg, tTest, tAnd, tOr, tNot, tAndV, tOrV, tNotV, tIf, tOp, tUn, tVar, tC, tCB, tCons, tNil, tCall, tPart, tNoPart, tM0, tM1, tTup, tLst, tB, tIsN, tNotN, rI0, rI, rU, rEq, rNe, rAdd, gName, gTup, gCons, gNil, gSub, rSetL, rIxL, rIxT, rIxS, L2.start,
      List.map_cons, List.map_nil, List.cons_append, List.nil_append, List.append_nil, List.length_cons, List.length_nil, List.replicate, List.getElem?_cons_zero, List.getElem?_cons_succ, List.set_cons_zero, List.set_cons_succ, Nat.reduceAdd, Nat.reduceSub, Nat.sub_self, Nat.zero_add,
      Option.some.injEq, V.int.injEq, V.str.injEq, V.bl.injEq, V.ref.injEq, V.ty.injEq, List.cons.injEq, and_true, true_and, exists_eq_left, exists_eq_left', exists_eq_right, exists_and_left, exists_and_right, exists_const, decide_eq_true_eq, decide_eq_false_iff_not, if_true, if_false, reduceIte, Bool.false_eq_true, Bool.not_eq_true', sc_ii, sc_ss, sc_bb, str1, cx_K, lstAt, rIxM, rSetM, rLenM, atI_0, atI_1, atI_2, atI_3, setI_0, setI_1, setI_2, setI_3, upd_same, upd_upd, ite_true, ite_false, exists_eq', eq_self, and_assoc, rIsS, isTy_bb, isTy_bi, isTy_ib, isTy_ii, isTy_ss, isTy_nb, isTy_ni, Bool.not_true, Bool.not_false, not_true_eq_false, not_false_eq_true, tChain, tRz1, tRz2, rIsX, tFx, tMethE, tCallS, tCallZ, tMeth, tMake, tFld, sFld, HO.ins.injEq, HO.lst.injEq, HO.dK.injEq, HO.tup.injEq, dcAt, rDInM, rDGetM, rDSetM, rDLenM, keyOf_int, keyOf_str, rIsBM, plainV_b, plainV_i, plainV_n, plainV_s, rInM, rListM, rSortM, rSumM, rIsD, tBMM, tBM0M, tSl, rSlM, rAppend, rPop, rClear, wAs, reduceCtorEq, false_implies, true_implies, implies_true, forall_const, cxH_K, clsV_ref, clsV_ty, HO.xd.injEq, Value.ref.injEq, lkc, lkn, pfn, pfc, List.map_nil, rExtend, rCat, rRep, tMethE0, rSortD, rPush, rPopH, tDGetM, gAll, iRev, tCB, sDDel, exf_NoRoom T, exf_NoNumber T, sne_Store_room_entries, sne_Store_room_words, sne_Store_entries_words, sne_Store_room__places, sne_Store_entries__places, sne_Store_words__places, sne_Store_room__free, sne_Store_entries__free, sne_Store_words__free, sne_Store__places__free, sne_Store_room__fresh, sne_Store_entries__fresh, sne_Store_words__fresh, sne_Store__places__fresh, sne_Store__free__fresh, T.no_NoRoom_need, T.ex_NoRoom_NoNumber, T.ex_NoRoom_SaggarError, T.kit_NoRoom_NoNumber, T.kit_NoRoom_NoRoom, T.no_NoNumber_limit, T.ex_NoNumber_NoNumber, T.ex_NoNumber_SaggarError, T.kit_NoNumber_NoNumber, T.kit_NoNumber_NoRoom, J2.ho, J2.hw, J2.hd, J2.hf, T.cl_Store, T.no_Store_room, T.no_Store_entries, T.no_Store_words, T.no_Store__places, T.no_Store__free, T.no_Store__fresh, stF_room, stF_entries, stF_words, stF_places, stF_free, stF_fresh, stF_mused, stF_mexists, stF_mnumbers, stF_mfree, stF_malloc, stF_msize, stF_mkind, stF_mskind, stF_mget, stF_mput, stF_mslots, stF_mdrop, stF_mclose, stF_msnap, stF_mrest, stF_mexch, stF_len, stF_pf, stF_pd, stF_pl, List.length_map]
      intro l1 hl1
      have f2 := f1.new (o := .lst (fr.map V.int)) sm2 hl1
      have sm3 := same_trans sm2 (same_new (o := .lst (fr.map V.int)) hl1)
      have J3 := I.same sm3
      have d1 := ne_of_none gD2 hl1
      have l1' := ne_of_none g2 hl1
      have g3 : upd H2 l1 (HO.lst (fr.map V.int)) l1 = some (.lst (fr.map V.int)) := upd_same
      have g23 := same_new (o := HO.lst (fr.map V.int)) hl1 _ _ g2
      have gD3 := same_new (o := HO.lst (fr.map V.int)) hl1 _ _ gD2
      generalize upd H2 l1 (HO.lst (fr.map V.int)) = H3 at f2 sm3 J3 g3 g23 gD3 ⊢
      simp (config := { maxSteps := 4000000 }) only [tSeq, tNext, tDrop, tRet, tRetN, tIfS, tAsg, tTest, tAnd, tOr, tNot, tAndV, tOrV, tNotV, tIf, tOp, tUn, tVar, tC, tCB, tCons, tNil, tCall, tPart, tNoPart, tM0, tM1, tTup, tLst, tB, tIsN, tNotN, rI0, rI, rU, rEq, rNe, rAdd, gName, gTup, gCons, gNil, gSub, rSetL, rIxL, rIxT, rIxS, L2.start,
      List.map_cons, List.map_nil, List.cons_append, List.nil_append, List.append_nil, List.length_cons, List.length_nil, List.replicate, List.getElem?_cons_zero, List.getElem?_cons_succ, List.set_cons_zero, List.set_cons_succ, Nat.reduceAdd, Nat.reduceSub, Nat.sub_self, Nat.zero_add,
      Option.some.injEq, V.int.injEq, V.str.injEq, V.bl.injEq, V.ref.injEq, V.ty.injEq, List.cons.injEq, and_true, true_and, exists_eq_left, exists_eq_left', exists_eq_right, exists_and_left, exists_and_right, exists_const, decide_eq_true_eq, decide_eq_false_iff_not, if_true, if_false, reduceIte, Bool.false_eq_true, Bool.not_eq_true', sc_ii, sc_ss, sc_bb, str1, cx_K, lstAt, rIxM, rSetM, rLenM, atI_0, atI_1, atI_2, atI_3, setI_0, setI_1, setI_2, setI_3, upd_same, upd_upd, ite_true, ite_false, exists_eq', eq_self, and_assoc, rIsS, isTy_bb, isTy_bi, isTy_ib, isTy_ii, isTy_ss, isTy_nb, isTy_ni, Bool.not_true, Bool.not_false, not_true_eq_false, not_false_eq_true, tChain, tRz1, tRz2, rIsX, tFx, tMethE, tCallS, tCallZ, tMeth, tMake, tFld, sFld, HO.ins.injEq, HO.lst.injEq, HO.dK.injEq, HO.tup.injEq, dcAt, rDInM, rDGetM, rDSetM, rDLenM, keyOf_int, keyOf_str, rIsBM, plainV_b, plainV_i, plainV_n, plainV_s, rInM, rListM, rSortM, rSumM, rIsD, tBMM, tBM0M, tSl, rSlM, rAppend, rPop, rClear, wAs, reduceCtorEq, false_implies, true_implies, implies_true, forall_const, cxH_K, clsV_ref, clsV_ty, HO.xd.injEq, Value.ref.injEq, lkc, lkn, pfn, pfc, List.map_nil, rExtend, rCat, rRep, tMethE0, rSortD, rPush, rPopH, tDGetM, gAll, iRev, tCB, sDDel, exf_NoRoom T, exf_NoNumber T, sne_Store_room_entries, sne_Store_room_words, sne_Store_entries_words, sne_Store_room__places, sne_Store_entries__places, sne_Store_words__places, sne_Store_room__free, sne_Store_entries__free, sne_Store_words__free, sne_Store__places__free, sne_Store_room__fresh, sne_Store_entries__fresh, sne_Store_words__fresh, sne_Store__places__fresh, sne_Store__free__fresh, T.no_NoRoom_need, T.ex_NoRoom_NoNumber, T.ex_NoRoom_SaggarError, T.kit_NoRoom_NoNumber, T.kit_NoRoom_NoRoom, T.no_NoNumber_limit, T.ex_NoNumber_NoNumber, T.ex_NoNumber_SaggarError, T.kit_NoNumber_NoNumber, T.kit_NoNumber_NoRoom, J3.ho, J3.hw, J3.hd, J3.hf, T.cl_Store, T.no_Store_room, T.no_Store_entries, T.no_Store_words, T.no_Store__places, T.no_Store__free, T.no_Store__fresh, stF_room, stF_entries, stF_words, stF_places, stF_free, stF_fresh, stF_mused, stF_mexists, stF_mnumbers, stF_mfree, stF_malloc, stF_msize, stF_mkind, stF_mskind, stF_mget, stF_mput, stF_mslots, stF_mdrop, stF_mclose, stF_msnap, stF_mrest, stF_mexch, stF_len, stF_pf, stF_pd, stF_pl, List.length_map]
      refine ⟨by decide, fun p hp => ?_⟩
      have p1 := ne_of_none gD3 hp
      have p2 := ne_of_none g23 hp
      have p3 := ne_of_none g3 hp
      refine k _ p _ (same_trans sm3 (same_new hp)) (f2.new sm3 hp) ⟨l, D, l1, ws, kvs, fr, fs, upd_same, ?_, ?_, ?_, R⟩
      · rw [upd_ne p2, upd_ne l1', upd_same]
      · rw [upd_ne p1, upd_ne d1, upd_ne dl, upd_same]
      · rw [upd_ne p3, upd_same]
end

def sp_rest (A : Ad) : Sp := fun vs H Q _ => ∃ a rm en row row' F tp, vs = [.ref a, .ref tp] ∧ St A H a rm en row F ∧ Sn F tp en row' ∧ ∀ H', St A H' a rm en row' F → Q .non H'
theorem sp_rest_len {A vs H Q E} (h : sp_rest A vs H Q E) : vs.length = (["self", "snapshot"] : List Str).length := by
  obtain ⟨_, _, _, _, _, _, _, rfl, _⟩ := h
  rfl
section
variable {P : Program} {w : World} {K : PySem.W.Frag} {mg : Str → Option Value} {base : Heap} {A : Ad}
theorem ok_Store_restore (T : Txt K mg A) : FnOk P w K mg base CX0 1 A.f_Store_restore A.d_Store_restore ["self", "snapshot"] (sp_rest A) := by
  refine Fun.ok T.F_Store_restore sc_Store_restore (fun vs H Q E h => ?_) (fun cdv Ar outer s H vs Q E hr h => ?_)
  · exact sp_rest_len h
  · have hu := hu_of hr
    refine ⟨_, (pss_cons (ps_asg (pv 1) (pg_tup (by rfl) (pgs_cons (pg_name (i := 2) sc_Store_restore.nd rfl (Or.inl rfl)) (pgs_cons (pg_name (i := 3) sc_Store_restore.nd rfl (Or.inl rfl)) (pgs_cons (pg_name (i := 4) sc_Store_restore.nd rfl (Or.inl rfl)) (pgs_cons (pg_name (i := 5) sc_Store_restore.nd rfl (Or.inl rfl)) pgs_nil))))))
    (pss_cons (ps_asg (pv 2) (pg_all (pe_fld (pv 0) rfl)))
    (pss_cons (ps_fld (pv 0) (pe_lock (pe_dc (own := [("number", 6), ("at", 7)]) (g := gTup _ 2 (gCons (gName 6) (gCons (gName 7) gNil))) rfl sc_Store_restore.nd (pi_items (pv 3)) (blkOk_by (own := [("number", 6), ("at", 7)]) (N := ["self", "snapshot", "words", "places", "free", "fresh", "number", "at"]) (sc := defScope s_Store_restore) (by decide +kernel)) (fun _ _ _ _ _ => (pg_tup (by rfl) (pgs_cons (pg_name (i := 6) sc_Store_restore.nd rfl (Or.inl rfl)) (pgs_cons (pg_name (i := 7) sc_Store_restore.nd rfl (Or.inl rfl)) pgs_nil)))) (fun _ _ _ _ _ => pts_nil) (fun _ _ _ _ _ => (pv 6)) (fun _ _ _ _ _ => (pv 7)))) rfl)
    (pss_cons (ps_fld (pv 0) (pe_callTy call_listM (by rfl) T.z_list (by decide +kernel) (pa_cons (pv 4) pa_nil)) rfl)
    (pss_one (ps_fld (pv 0) (pv 5) rfl)))))), ?_⟩
    obtain ⟨a, rm, en, row, row', F, tp, rfl, ⟨dx, w, d, f, ws, kvs, fr, fs, I, R⟩, ⟨w2, d2, f2, ws2, kvs2, fr2, fs2, h1, h2, h3, h4, R2⟩, k⟩ := h
    obtain ⟨e1, t1, t2, t3, t4⟩ := I.fr _ _ h1
    obtain ⟨e2, w21, w22, w23, w24⟩ := I.fr _ _ h2
    obtain ⟨e3, d21, d22, d23, d24⟩ := I.fr _ _ h3
    obtain ⟨e4, f21, f22, f23, f24⟩ := I.fr _ _ h4
    have kl := R2.kvl
    have z1 := R.sz
    have z2 := R2.sz
    rw [← R.ws] at z1
    rw [← R2.ws] at z2
    have sz : (300000 : Nat) ≤ sizeLine := by decide
    simp (config := { maxSteps := 4000000 }) only [tSeq, tNext, tDrop, tRet, tRetN, tIfS, tAsg, tTest, tAnd, tOr, tNot, tAndV, tOrV, tNotV, tIf, tOp, tUn, tVar, tC, tCB, tCons, tNil, tCall, tPart, tNoPart, tM0, tM1, tTup, tLst, tB, tIsN, tNotN, rI0, rI, rU, rEq, rNe, rAdd, gName, gTup, gCons, gNil, gSub, rSetL, rIxL, rIxT, rIxS, L2.start,
      List.map_cons, List.map_nil, List.cons_append, List.nil_append, List.append_nil, List.length_cons, List.length_nil, List.replicate, List.getElem?_cons_zero, List.getElem?_cons_succ, List.set_cons_zero, List.set_cons_succ, Nat.reduceAdd, Nat.reduceSub, Nat.sub_self, Nat.zero_add,
      Option.some.injEq, V.int.injEq, V.str.injEq, V.bl.injEq, V.ref.injEq, V.ty.injEq, List.cons.injEq, and_true, true_and, exists_eq_left, exists_eq_left', exists_eq_right, exists_and_left, exists_and_right, exists_const, decide_eq_true_eq, decide_eq_false_iff_not, if_true, if_false, reduceIte, Bool.false_eq_true, Bool.not_eq_true', sc_ii, sc_ss, sc_bb, str1, cx_K, lstAt, rIxM, rSetM, rLenM, atI_0, atI_1, atI_2, atI_3, setI_0, setI_1, setI_2, setI_3, upd_same, upd_upd, ite_true, ite_false, exists_eq', eq_self, and_assoc, rIsS, isTy_bb, isTy_bi, isTy_ib, isTy_ii, isTy_ss, isTy_nb, isTy_ni, Bool.not_true, Bool.not_false, not_true_eq_false, not_false_eq_true, tChain, tRz1, tRz2, rIsX, tFx, tMethE, tCallS, tCallZ, tMeth, tMake, tFld, sFld, HO.ins.injEq, HO.lst.injEq, HO.dK.injEq, HO.tup.injEq, dcAt, rDInM, rDGetM, rDSetM, rDLenM, keyOf_int, keyOf_str, rIsBM, plainV_b, plainV_i, plainV_n, plainV_s, rInM, rListM, rSortM, rSumM, rIsD, tBMM, tBM0M, tSl, rSlM, rAppend, rPop, rClear, wAs, reduceCtorEq, false_implies, true_implies, implies_true, forall_const, cxH_K, clsV_ref, clsV_ty, HO.xd.injEq, Value.ref.injEq, lkc, lkn, pfn, pfc, List.map_nil, rExtend, rCat, rRep, tMethE0, rSortD, rPush, rPopH, tDGetM, gAll, iRev, tCB, sDDel, exf_NoRoom T, exf_NoNumber T, sne_Store_room_entries, sne_Store_room_words, sne_Store_entries_words, sne_Store_room__places, sne_Store_entries__places, sne_Store_words__places, sne_Store_room__free, sne_Store_entries__free, sne_Store_words__free, sne_Store__places__free, sne_Store_room__fresh, sne_Store_entries__fresh, sne_Store_words__fresh, sne_Store__places__fresh, sne_Store__free__fresh, T.no_NoRoom_need, T.ex_NoRoom_NoNumber, T.ex_NoRoom_SaggarError, T.kit_NoRoom_NoNumber, T.kit_NoRoom_NoRoom, T.no_NoNumber_limit, T.ex_NoNumber_NoNumber, T.ex_NoNumber_SaggarError, T.kit_NoNumber_NoNumber, T.kit_NoNumber_NoRoom, I.ho, I.hw, I.hd, I.hf, T.cl_Store, T.no_Store_room, T.no_Store_entries, T.no_Store_words, T.no_Store__places, T.no_Store__free, T.no_Store__fresh, stF_room, stF_entries, stF_words, stF_places, stF_free, stF_fresh, stF_mused, stF_mexists, stF_mnumbers, stF_mfree, stF_malloc, stF_msize, stF_mkind, stF_mskind, stF_mget, stF_mput, stF_mslots, stF_mdrop, stF_mclose, stF_msnap, stF_mrest, stF_mexch, stF_len, stF_pf, stF_pd, stF_pl, List.length_map, e1, e2, e3, e4]
    refine ⟨_, .inl (.inl e1), rfl, .ref w2, _, rfl, .ref d2, _, rfl, .ref f2, _, rfl, .int fs2, _, rfl, rfl, ?_⟩
    simp (config := { maxSteps := 4000000 }) only [tSeq, tNext, tDrop, tRet, tRetN, tIfS, tAsg, tTest, tAnd, tOr, tNot, tAndV, tOrV, tNotV, tIf, tOp, tUn, tVar, tC, tCB, tCons, tNil, tCall, tPart, tNoPart, tM0, tM1, tTup, tLst, tB, tIsN, tNotN, rI0, rI, rU, rEq, rNe, rAdd, gName, gTup, gCons, gNil, gSub, rSetL, rIxL, rIxT, rIxS, L2.start,
      List.map_cons, List.map_nil, List.cons_append, List.nil_append, List.append_nil, List.length_cons, List.length_nil, List.replicate, List.getElem?_cons_zero, List.getElem?_cons_succ, List.set_cons_zero, List.set_cons_succ, Nat.reduceAdd, Nat.reduceSub, Nat.sub_self, Nat.zero_add,
      Option.some.injEq, V.int.injEq, V.str.injEq, V.bl.injEq, V.ref.injEq, V.ty.injEq, List.cons.injEq, and_true, true_and, exists_eq_left, exists_eq_left', exists_eq_right, exists_and_left, exists_and_right, exists_const, decide_eq_true_eq, decide_eq_false_iff_not, if_true, if_false, reduceIte, Bool.false_eq_true, Bool.not_eq_true', sc_ii, sc_ss, sc_bb, str1, cx_K, lstAt, rIxM, rSetM, rLenM, atI_0, atI_1, atI_2, atI_3, setI_0, setI_1, setI_2, setI_3, upd_same, upd_upd, ite_true, ite_false, exists_eq', eq_self, and_assoc, rIsS, isTy_bb, isTy_bi, isTy_ib, isTy_ii, isTy_ss, isTy_nb, isTy_ni, Bool.not_true, Bool.not_false, not_true_eq_false, not_false_eq_true, tChain, tRz1, tRz2, rIsX, tFx, tMethE, tCallS, tCallZ, tMeth, tMake, tFld, sFld, HO.ins.injEq, HO.lst.injEq, HO.dK.injEq, HO.tup.injEq, dcAt, rDInM, rDGetM, rDSetM, rDLenM, keyOf_int, keyOf_str, rIsBM, plainV_b, plainV_i, plainV_n, plainV_s, rInM, rListM, rSortM, rSumM, rIsD, tBMM, tBM0M, tSl, rSlM, rAppend, rPop, rClear, wAs, reduceCtorEq, false_implies, true_implies, implies_true, forall_const, cxH_K, clsV_ref, clsV_ty, HO.xd.injEq, Value.ref.injEq, lkc, lkn, pfn, pfc, List.map_nil, rExtend, rCat, rRep, tMethE0, rSortD, rPush, rPopH, tDGetM, gAll, iRev, tCB, sDDel, exf_NoRoom T, exf_NoNumber T, sne_Store_room_entries, sne_Store_room_words, sne_Store_entries_words, sne_Store_room__places, sne_Store_entries__places, sne_Store_words__places, sne_Store_room__free, sne_Store_entries__free, sne_Store_words__free, sne_Store__places__free, sne_Store_room__fresh, sne_Store_entries__fresh, sne_Store_words__fresh, sne_Store__places__fresh, sne_Store__free__fresh, T.no_NoRoom_need, T.ex_NoRoom_NoNumber, T.ex_NoRoom_SaggarError, T.kit_NoRoom_NoNumber, T.kit_NoRoom_NoRoom, T.no_NoNumber_limit, T.ex_NoNumber_NoNumber, T.ex_NoNumber_SaggarError, T.kit_NoNumber_NoNumber, T.kit_NoNumber_NoRoom, I.ho, I.hw, I.hd, I.hf, T.cl_Store, T.no_Store_room, T.no_Store_entries, T.no_Store_words, T.no_Store__places, T.no_Store__free, T.no_Store__fresh, stF_room, stF_entries, stF_words, stF_places, stF_free, stF_fresh, stF_mused, stF_mexists, stF_mnumbers, stF_mfree, stF_malloc, stF_msize, stF_mkind, stF_mskind, stF_mget, stF_mput, stF_mslots, stF_mdrop, stF_mclose, stF_msnap, stF_mrest, stF_mexch, stF_len, stF_pf, stF_pd, stF_pl, List.length_map, e1, e2, e3, e4]
    refine ⟨Ne.symm w22, by omega, ?_⟩
    have J := I.words ws2
    have e3b : upd H w (HO.lst (ws2.map V.int)) d2 = some (.dK kvs2) := by rw [upd_ne d22]; exact e3
    have e4b : upd H w (HO.lst (ws2.map V.int)) f2 = some (.lst (fr2.map V.int)) := by rw [upd_ne f22]; exact e4
    generalize upd H w (HO.lst (ws2.map V.int)) = H1 at J e3b e4b ⊢
    refine dc_items (K := K) kvs2 (fun od R' h => ?_) e3b (R2.pk.keys R2.nd) (by omega) (by show 6 < 8; decide) (by show 7 < 8; decide) (by decide) fun D H2 sm hD gD => ?_
    · simp (config := { maxSteps := 4000000 }) only [tSeq, tNext, tDrop, tRet, tRetN, tIfS, tAsg, tTest, tAnd, tOr, tNot, tAndV, tOrV, tNotV, tIf, tOp, tUn, tVar, tC, tCB, tCons, tNil, tCall, tPart, tNoPart, tM0, tM1, tTup, tLst, tB, tIsN, tNotN, rI0, rI, rU, rEq, rNe, rAdd, gName, gTup, gCons, gNil, gSub, rSetL, rIxL, rIxT, rIxS, L2.start,
      List.map_cons, List.map_nil, List.cons_append, List.nil_append, List.append_nil, List.length_cons, List.length_nil, List.replicate, List.getElem?_cons_zero, List.getElem?_cons_succ, List.set_cons_zero, List.set_cons_succ, Nat.reduceAdd, Nat.reduceSub, Nat.sub_self, Nat.zero_add,
      Option.some.injEq, V.int.injEq, V.str.injEq, V.bl.injEq, V.ref.injEq, V.ty.injEq, List.cons.injEq, and_true, true_and, exists_eq_left, exists_eq_left', exists_eq_right, exists_and_left, exists_and_right, exists_const, decide_eq_true_eq, decide_eq_false_iff_not, if_true, if_false, reduceIte, Bool.false_eq_true, Bool.not_eq_true', sc_ii, sc_ss, sc_bb, str1, cx_K, lstAt, rIxM, rSetM, rLenM, atI_0, atI_1, atI_2, atI_3, setI_0, setI_1, setI_2, setI_3, upd_same, upd_upd, ite_true, ite_false, exists_eq', eq_self, and_assoc, rIsS, isTy_bb, isTy_bi, isTy_ib, isTy_ii, isTy_ss, isTy_nb, isTy_ni, Bool.not_true, Bool.not_false, not_true_eq_false, not_false_eq_true, tChain, tRz1, tRz2, rIsX, tFx, tMethE, tCallS, tCallZ, tMeth, tMake, tFld, sFld, HO.ins.injEq, HO.lst.injEq, HO.dK.injEq, HO.tup.injEq, dcAt, rDInM, rDGetM, rDSetM, rDLenM, keyOf_int, keyOf_str, rIsBM, plainV_b, plainV_i, plainV_n, plainV_s, rInM, rListM, rSortM, rSumM, rIsD, tBMM, tBM0M, tSl, rSlM, rAppend, rPop, rClear, wAs, reduceCtorEq, false_implies, true_implies, implies_true, forall_const, cxH_K, clsV_ref, clsV_ty, HO.xd.injEq, Value.ref.injEq, lkc, lkn, pfn, pfc, List.map_nil, rExtend, rCat, rRep, tMethE0, rSortD, rPush, rPopH, tDGetM, gAll, iRev, tCB, sDDel, exf_NoRoom T, exf_NoNumber T, sne_Store_room_entries, sne_Store_room_words, sne_Store_entries_words, sne_Store_room__places, sne_Store_entries__places, sne_Store_words__places, sne_Store_room__free, sne_Store_entries__free, sne_Store_words__free, sne_Store__places__free, sne_Store_room__fresh, sne_Store_entries__fresh, sne_Store_words__fresh, sne_Store__places__fresh, sne_Store__free__fresh, T.no_NoRoom_need, T.ex_NoRoom_NoNumber, T.ex_NoRoom_SaggarError, T.kit_NoRoom_NoNumber, T.kit_NoRoom_NoRoom, T.no_NoNumber_limit, T.ex_NoNumber_NoNumber, T.ex_NoNumber_SaggarError, T.kit_NoNumber_NoNumber, T.kit_NoNumber_NoRoom, rIsL]
      exact h
    · have FD := J.out hD
      have oD := J.part hD
      have J2 := J.same sm
      have e4c := sm _ _ e4b
      refine ⟨_, _, _, J2.ho, T.cl_Store, T.no_Store__places, by rw [stF_len]; decide, ?_⟩
      rw [stF_pd]
      have J3 : Si A (upd H2 a (.ins A.C_Store dx (stF rm en w D f fs))) a dx w D f rm en ws2 kvs2 fr fs F := ⟨upd_same, by rw [upd_ne (Ne.symm J2.aw)]; exact J2.hw, by rw [upd_ne oD.1]; exact gD, by rw [upd_ne (Ne.symm J2.af)]; exact J2.hf, J2.ne, fun b u hb => by
        obtain ⟨q1, q2, q3, q4, q5⟩ := J2.fr b u hb
        exact ⟨by rw [upd_ne q2]; exact q1, q2, q3, ne_of_none hb FD, q5⟩⟩
      have e4d : upd H2 a (.ins A.C_Store dx (stF rm en w D f fs)) f2 = some (.lst (fr2.map V.int)) := by rw [upd_ne f21]; exact e4c
      generalize upd H2 a (.ins A.C_Store dx (stF rm en w D f fs)) = H3 at J3 e4d ⊢
      rw [e4d]
      intro l hl
      have Fl := J3.out hl
      obtain ⟨l1, l2, l3, l4⟩ := J3.part hl
      refine ⟨_, _, _, (J3.same (same_new hl)).ho, T.cl_Store, T.no_Store__free, by rw [stF_len]; decide, T.cl_Store, T.no_Store__fresh, by rw [stF_pl, stF_len]; decide, ?_⟩
      rw [stF_pl, stF_pf]
      refine k _ ⟨dx, w, D, l, ws2, kvs2, fr2, fs2, ⟨upd_same, ?_, ?_, ?_, Ne.symm l2, fun b u hb => ?_⟩, R2⟩
      · rw [upd_ne (Ne.symm J3.aw), upd_ne (Ne.symm l2)]
        exact J3.hw
      · rw [upd_ne (Ne.symm J3.add), upd_ne (Ne.symm l3)]
        exact J3.hd
      · rw [upd_ne l1, upd_same]
      · obtain ⟨q1, q2, q3, q4, q5⟩ := J3.fr b u hb
        have q6 := ne_of_none hb Fl
        exact ⟨by rw [upd_ne q2, upd_ne q6]; exact q1, q2, q3, q4, q6⟩
end

def sp_lnum : Sp := fun vs H Q _ => ∃ (c k : Int), vs = [.int c, .int k] ∧ ∀ z : Int, Q (.int z) H
theorem sp_lnum_len {vs H Q E} (h : sp_lnum vs H Q E) : vs.length = (["cell", "k"] : List Str).length := by
  obtain ⟨_, _, rfl, _⟩ := h
  rfl
section
variable {P : Program} {w : World} {K : PySem.W.Frag} {mg : Str → Option Value} {base : Heap} {A : Ad}
theorem ok__law_number (T : Txt K mg A) : FnOk P w K mg base CX0 1 A.f__law_number A.d__law_number ["cell", "k"] (sp_lnum) := by
  refine Fun.ok T.F__law_number sc__law_number (fun vs H Q E h => ?_) (fun cdv Ar outer s H vs Q E hr h => ?_)
  · exact sp_lnum_len h
  · have hu := hu_of hr
    refine ⟨_, (pss_cons (ps_if (pt_cmpR op_ge (pv 0) (pe_op op_pow pe_int pe_int) (nomark _)) (pss_one (ps_ret (pv 0))) pss_nil)
    (pss_cons (ps_asg (pe_op op_mod (pe_callTy call_intI (by rfl) T.z_int (by decide +kernel) (pa_cons (pe_op op_add (pe_op op_add (pe_op op_mul (pv 0) pe_int) (pe_op op_mul (pv 1) pe_int)) pe_int) pa_nil)) pe_int) (pg_name (i := 2) sc__law_number.nd rfl (Or.inl rfl)))
    (pss_one (ps_ret (pe_op op_mod (pe_callTy call_intI (by rfl) T.z_int (by decide +kernel) (pa_cons (pe_op op_add (pe_op op_mul (pv 2) (pv 2)) (pe_op op_mul (pv 1) pe_int)) pa_nil)) pe_int))))), ?_⟩
    obtain ⟨c, j, rfl, k⟩ := h
    simp (config := { maxSteps := 4000000 }) only [tSeq, tNext, tDrop, tRet, tRetN, tIfS, tAsg, tTest, tAnd, tOr, tNot, tAndV, tOrV, tNotV, tIf, tOp, tUn, tVar, tC, tCB, tCons, tNil, tCall, tPart, tNoPart, tM0, tM1, tTup, tLst, tB, tIsN, tNotN, rI0, rI, rU, rEq, rNe, rAdd, gName, gTup, gCons, gNil, gSub, rSetL, rIxL, rIxT, rIxS, L2.start,
      List.map_cons, List.map_nil, List.cons_append, List.nil_append, List.append_nil, List.length_cons, List.length_nil, List.replicate, List.getElem?_cons_zero, List.getElem?_cons_succ, List.set_cons_zero, List.set_cons_succ, Nat.reduceAdd, Nat.reduceSub, Nat.sub_self, Nat.zero_add,
      Option.some.injEq, V.int.injEq, V.str.injEq, V.bl.injEq, V.ref.injEq, V.ty.injEq, List.cons.injEq, and_true, true_and, exists_eq_left, exists_eq_left', exists_eq_right, exists_and_left, exists_and_right, exists_const, decide_eq_true_eq, decide_eq_false_iff_not, if_true, if_false, reduceIte, Bool.false_eq_true, Bool.not_eq_true', sc_ii, sc_ss, sc_bb, str1, cx_K, lstAt, rIxM, rSetM, rLenM, atI_0, atI_1, atI_2, atI_3, setI_0, setI_1, setI_2, setI_3, upd_same, upd_upd, ite_true, ite_false, exists_eq', eq_self, and_assoc, rIsS, isTy_bb, isTy_bi, isTy_ib, isTy_ii, isTy_ss, isTy_nb, isTy_ni, Bool.not_true, Bool.not_false, not_true_eq_false, not_false_eq_true, tChain, tRz1, tRz2, rIsX, tFx, tMethE, tCallS, tCallZ, tMeth, tMake, tFld, sFld, HO.ins.injEq, HO.lst.injEq, HO.dK.injEq, HO.tup.injEq, dcAt, rDInM, rDGetM, rDSetM, rDLenM, keyOf_int, keyOf_str, rIsBM, plainV_b, plainV_i, plainV_n, plainV_s, rInM, rListM, rSortM, rSumM, rIsD, tBMM, tBM0M, tSl, rSlM, rAppend, rPop, rClear, wAs, reduceCtorEq, false_implies, true_implies, implies_true, forall_const, cxH_K, clsV_ref, clsV_ty, HO.xd.injEq, Value.ref.injEq, lkc, lkn, pfn, pfc, List.map_nil, rExtend, rCat, rRep, tMethE0, rSortD, rPush, rPopH, tDGetM, gAll, iRev, tCB, sDDel, exf_NoRoom T, exf_NoNumber T, sne_Store_room_entries, sne_Store_room_words, sne_Store_entries_words, sne_Store_room__places, sne_Store_entries__places, sne_Store_words__places, sne_Store_room__free, sne_Store_entries__free, sne_Store_words__free, sne_Store__places__free, sne_Store_room__fresh, sne_Store_entries__fresh, sne_Store_words__fresh, sne_Store__places__fresh, sne_Store__free__fresh, T.no_NoRoom_need, T.ex_NoRoom_NoNumber, T.ex_NoRoom_SaggarError, T.kit_NoRoom_NoNumber, T.kit_NoRoom_NoRoom, T.no_NoNumber_limit, T.ex_NoNumber_NoNumber, T.ex_NoNumber_SaggarError, T.kit_NoNumber_NoNumber, T.kit_NoNumber_NoRoom, rIsL]
    refine ⟨⟨by decide, by decide, by decide⟩, ite2 (fun _ => k _) (fun _ => ⟨.inr ⟨by decide, by decide⟩, .inr ⟨by decide, by decide⟩, by decide, .inl ⟨?_, ?_⟩, .inr ⟨by decide, by decide⟩, by decide, k _⟩)⟩
    · have := Int.emod_nonneg (c * 48271 + j * 69621 + 11) (show (2147483647 : Int) ≠ 0 by decide)
      omega
    · have := Int.emod_lt_of_pos (c * 48271 + j * 69621 + 11) (show (0 : Int) < 2147483647 by decide)
      omega
end

def sp_lis : Sp := fun vs H Q _ => ∃ i j : Int, vs = [.int i, .int j] ∧ Q (.bl (decide (i = j))) H
theorem sp_lis_len {vs H Q E} (h : sp_lis vs H Q E) : vs.length = (["actual", "due"] : List Str).length := by
  obtain ⟨_, _, rfl, _⟩ := h
  rfl
section
variable {P : Program} {w : World} {K : PySem.W.Frag} {mg : Str → Option Value} {base : Heap} {A : Ad}
theorem ok__law_is (T : Txt K mg A) : FnOk P w K mg base CX0 1 A.f__law_is A.d__law_is ["actual", "due"] (sp_lis) := by
  refine Fun.ok T.F__law_is sc__law_is (fun vs H Q E h => ?_) (fun cdv Ar outer s H vs Q E hr h => ?_)
  · exact sp_lis_len h
  · have hu := hu_of hr
    refine ⟨_, (pss_one (ps_ret (pe_and (pe_callB call_isS (by rfl) T.z_isinstance (by decide +kernel) (pa_cons (pv 0) (pa_cons (pe_bltn (v := .ty "int") (by rfl) T.z_int (by decide +kernel) rfl) pa_nil))) (pe_and (pe_not (pe_callB call_isS (by rfl) T.z_isinstance (by decide +kernel) (pa_cons (pv 0) (pa_cons (pe_bltn (v := .ty "bool") (by rfl) T.z_bool (by decide +kernel) rfl) pa_nil)))) (pe_one (pe_cmpR op_eq (pv 0) (pv 1) (nomark _))))))), ?_⟩
    obtain ⟨a, b, rfl, k⟩ := h
    simp (config := { maxSteps := 4000000 }) only [tSeq, tNext, tDrop, tRet, tRetN, tIfS, tAsg, tTest, tAnd, tOr, tNot, tAndV, tOrV, tNotV, tIf, tOp, tUn, tVar, tC, tCB, tCons, tNil, tCall, tPart, tNoPart, tM0, tM1, tTup, tLst, tB, tIsN, tNotN, rI0, rI, rU, rEq, rNe, rAdd, gName, gTup, gCons, gNil, gSub, rSetL, rIxL, rIxT, rIxS, L2.start,
      List.map_cons, List.map_nil, List.cons_append, List.nil_append, List.append_nil, List.length_cons, List.length_nil, List.replicate, List.getElem?_cons_zero, List.getElem?_cons_succ, List.set_cons_zero, List.set_cons_succ, Nat.reduceAdd, Nat.reduceSub, Nat.sub_self, Nat.zero_add,
      Option.some.injEq, V.int.injEq, V.str.injEq, V.bl.injEq, V.ref.injEq, V.ty.injEq, List.cons.injEq, and_true, true_and, exists_eq_left, exists_eq_left', exists_eq_right, exists_and_left, exists_and_right, exists_const, decide_eq_true_eq, decide_eq_false_iff_not, if_true, if_false, reduceIte, Bool.false_eq_true, Bool.not_eq_true', sc_ii, sc_ss, sc_bb, str1, cx_K, lstAt, rIxM, rSetM, rLenM, atI_0, atI_1, atI_2, atI_3, setI_0, setI_1, setI_2, setI_3, upd_same, upd_upd, ite_true, ite_false, exists_eq', eq_self, and_assoc, rIsS, isTy_bb, isTy_bi, isTy_ib, isTy_ii, isTy_ss, isTy_nb, isTy_ni, Bool.not_true, Bool.not_false, not_true_eq_false, not_false_eq_true, tChain, tRz1, tRz2, rIsX, tFx, tMethE, tCallS, tCallZ, tMeth, tMake, tFld, sFld, HO.ins.injEq, HO.lst.injEq, HO.dK.injEq, HO.tup.injEq, dcAt, rDInM, rDGetM, rDSetM, rDLenM, keyOf_int, keyOf_str, rIsBM, plainV_b, plainV_i, plainV_n, plainV_s, rInM, rListM, rSortM, rSumM, rIsD, tBMM, tBM0M, tSl, rSlM, rAppend, rPop, rClear, wAs, reduceCtorEq, false_implies, true_implies, implies_true, forall_const, cxH_K, clsV_ref, clsV_ty, HO.xd.injEq, Value.ref.injEq, lkc, lkn, pfn, pfc, List.map_nil, rExtend, rCat, rRep, tMethE0, rSortD, rPush, rPopH, tDGetM, gAll, iRev, tCB, sDDel, exf_NoRoom T, exf_NoNumber T, sne_Store_room_entries, sne_Store_room_words, sne_Store_entries_words, sne_Store_room__places, sne_Store_entries__places, sne_Store_words__places, sne_Store_room__free, sne_Store_entries__free, sne_Store_words__free, sne_Store__places__free, sne_Store_room__fresh, sne_Store_entries__fresh, sne_Store_words__fresh, sne_Store__places__fresh, sne_Store__free__fresh, T.no_NoRoom_need, T.ex_NoRoom_NoNumber, T.ex_NoRoom_SaggarError, T.kit_NoRoom_NoNumber, T.kit_NoRoom_NoRoom, T.no_NoNumber_limit, T.ex_NoNumber_NoNumber, T.ex_NoNumber_SaggarError, T.kit_NoNumber_NoNumber, T.kit_NoNumber_NoRoom, rIsL]
    exact k
end

def sp_same : Sp := fun vs H Q _ => ∃ (p q : Addr) (xs : List Int), vs = [.ref p, .ref q] ∧ H p = some (.lst (xs.map V.int)) ∧ H q = some (.lst (xs.map V.int)) ∧ xs.length ≤ 100000 ∧ Q (.bl true) H
theorem sp_same_len {vs H Q E} (h : sp_same vs H Q E) : vs.length = (["actual", "due"] : List Str).length := by
  obtain ⟨_, _, _, rfl, _⟩ := h
  rfl
section
variable {P : Program} {w : World} {K : PySem.W.Frag} {mg : Str → Option Value} {base : Heap} {A : Ad}
theorem ok__law_same (T : Txt K mg A) : FnOk P w K mg base CX0 2 A.f__law_same A.d__law_same ["actual", "due"] (sp_same) := by
  refine Fun.ok T.F__law_same sc__law_same (fun vs H Q E h => ?_) (fun cdv Ar outer s H vs Q E hr h => ?_)
  · exact sp_same_len h
  · have hu := hu_of hr
    refine ⟨_, (pss_cons (ps_if (PW.pt (pw_or (pt_not (pt_val (pe_callB call_isL (by rfl) T.z_isinstance (by decide +kernel) (pa_cons (pv 0) (pa_cons (pe_bltn (v := .ty "list") (by rfl) T.z_list (by decide +kernel) rfl) pa_nil))))) (pw_or1 (pt_cmpR op_ne (pe_callB call_lenM (by rfl) T.z_len PySem.boot_len (pa_cons (pv 0) pa_nil)) (pe_callB call_lenM (by rfl) T.z_len PySem.boot_len (pa_cons (pv 1) pa_nil)) (nomark _))))) (pss_one (ps_ret pe_bl)) pss_nil)
    (pss_cons (ps_for PassesOwn.never rfl (pi_range1 (by rfl) T.z_range (pa_cons (pe_callB call_lenM (by rfl) T.z_len PySem.boot_len (pa_cons (pv 1) pa_nil)) pa_nil)) (pg_name (i := 2) sc__law_same.nd rfl (Or.inl rfl))
      (pss_one (ps_if (pt_not (pt_val (pe_call (ok__law_is T) (hr.mono (by decide)) (by rfl) T.g__law_is T.k__law_is T.b__law_is .nil pass0 (pa_cons (pe_ix ix_lstM (pv 0) (pv 2) (fun _ _ => rfl)) (pa_cons (pe_ix ix_lstM (pv 1) (pv 2) (fun _ _ => rfl)) pa_nil))))) (pss_one (ps_ret pe_bl)) pss_nil)))
    (pss_one (ps_ret pe_bl)))), ?_⟩
    obtain ⟨p, q, xs, rfl, hp, hq, hz, k⟩ := h
    simp (config := { maxSteps := 4000000 }) only [tSeq, tNext, tDrop, tRet, tRetN, tIfS, tAsg, tTest, tAnd, tOr, tNot, tAndV, tOrV, tNotV, tIf, tOp, tUn, tVar, tC, tCB, tCons, tNil, tCall, tPart, tNoPart, tM0, tM1, tTup, tLst, tB, tIsN, tNotN, rI0, rI, rU, rEq, rNe, rAdd, gName, gTup, gCons, gNil, gSub, rSetL, rIxL, rIxT, rIxS, L2.start,
      List.map_cons, List.map_nil, List.cons_append, List.nil_append, List.append_nil, List.length_cons, List.length_nil, List.replicate, List.getElem?_cons_zero, List.getElem?_cons_succ, List.set_cons_zero, List.set_cons_succ, Nat.reduceAdd, Nat.reduceSub, Nat.sub_self, Nat.zero_add,
      Option.some.injEq, V.int.injEq, V.str.injEq, V.bl.injEq, V.ref.injEq, V.ty.injEq, List.cons.injEq, and_true, true_and, exists_eq_left, exists_eq_left', exists_eq_right, exists_and_left, exists_and_right, exists_const, decide_eq_true_eq, decide_eq_false_iff_not, if_true, if_false, reduceIte, Bool.false_eq_true, Bool.not_eq_true', sc_ii, sc_ss, sc_bb, str1, cx_K, lstAt, rIxM, rSetM, rLenM, atI_0, atI_1, atI_2, atI_3, setI_0, setI_1, setI_2, setI_3, upd_same, upd_upd, ite_true, ite_false, exists_eq', eq_self, and_assoc, rIsS, isTy_bb, isTy_bi, isTy_ib, isTy_ii, isTy_ss, isTy_nb, isTy_ni, Bool.not_true, Bool.not_false, not_true_eq_false, not_false_eq_true, tChain, tRz1, tRz2, rIsX, tFx, tMethE, tCallS, tCallZ, tMeth, tMake, tFld, sFld, HO.ins.injEq, HO.lst.injEq, HO.dK.injEq, HO.tup.injEq, dcAt, rDInM, rDGetM, rDSetM, rDLenM, keyOf_int, keyOf_str, rIsBM, plainV_b, plainV_i, plainV_n, plainV_s, rInM, rListM, rSortM, rSumM, rIsD, tBMM, tBM0M, tSl, rSlM, rAppend, rPop, rClear, wAs, reduceCtorEq, false_implies, true_implies, implies_true, forall_const, cxH_K, clsV_ref, clsV_ty, HO.xd.injEq, Value.ref.injEq, lkc, lkn, pfn, pfc, List.map_nil, rExtend, rCat, rRep, tMethE0, rSortD, rPush, rPopH, tDGetM, gAll, iRev, tCB, sDDel, exf_NoRoom T, exf_NoNumber T, sne_Store_room_entries, sne_Store_room_words, sne_Store_entries_words, sne_Store_room__places, sne_Store_entries__places, sne_Store_words__places, sne_Store_room__free, sne_Store_entries__free, sne_Store_words__free, sne_Store__places__free, sne_Store_room__fresh, sne_Store_entries__fresh, sne_Store_words__fresh, sne_Store__places__fresh, sne_Store__free__fresh, T.no_NoRoom_need, T.ex_NoRoom_NoNumber, T.ex_NoRoom_SaggarError, T.kit_NoRoom_NoNumber, T.kit_NoRoom_NoRoom, T.no_NoNumber_limit, T.ex_NoNumber_NoNumber, T.ex_NoNumber_SaggarError, T.kit_NoNumber_NoNumber, T.kit_NoNumber_NoRoom, hp, hq, List.length_map, rIsL]
    refine for_rng (xs.length : Int) (fun R h => ?_) (by omega) (by omega) (fun i σ' H' => ∃ kk : Option V, σ' = [some (V.ref p), some (V.ref q), kk] ∧ H' = H) ⟨none, rfl, rfl⟩ ?_ ?_
    · simp (config := { maxSteps := 4000000 }) only [tSeq, tNext, tDrop, tRet, tRetN, tIfS, tAsg, tTest, tAnd, tOr, tNot, tAndV, tOrV, tNotV, tIf, tOp, tUn, tVar, tC, tCB, tCons, tNil, tCall, tPart, tNoPart, tM0, tM1, tTup, tLst, tB, tIsN, tNotN, rI0, rI, rU, rEq, rNe, rAdd, gName, gTup, gCons, gNil, gSub, rSetL, rIxL, rIxT, rIxS, L2.start,
      List.map_cons, List.map_nil, List.cons_append, List.nil_append, List.append_nil, List.length_cons, List.length_nil, List.replicate, List.getElem?_cons_zero, List.getElem?_cons_succ, List.set_cons_zero, List.set_cons_succ, Nat.reduceAdd, Nat.reduceSub, Nat.sub_self, Nat.zero_add,
      Option.some.injEq, V.int.injEq, V.str.injEq, V.bl.injEq, V.ref.injEq, V.ty.injEq, List.cons.injEq, and_true, true_and, exists_eq_left, exists_eq_left', exists_eq_right, exists_and_left, exists_and_right, exists_const, decide_eq_true_eq, decide_eq_false_iff_not, if_true, if_false, reduceIte, Bool.false_eq_true, Bool.not_eq_true', sc_ii, sc_ss, sc_bb, str1, cx_K, lstAt, rIxM, rSetM, rLenM, atI_0, atI_1, atI_2, atI_3, setI_0, setI_1, setI_2, setI_3, upd_same, upd_upd, ite_true, ite_false, exists_eq', eq_self, and_assoc, rIsS, isTy_bb, isTy_bi, isTy_ib, isTy_ii, isTy_ss, isTy_nb, isTy_ni, Bool.not_true, Bool.not_false, not_true_eq_false, not_false_eq_true, tChain, tRz1, tRz2, rIsX, tFx, tMethE, tCallS, tCallZ, tMeth, tMake, tFld, sFld, HO.ins.injEq, HO.lst.injEq, HO.dK.injEq, HO.tup.injEq, dcAt, rDInM, rDGetM, rDSetM, rDLenM, keyOf_int, keyOf_str, rIsBM, plainV_b, plainV_i, plainV_n, plainV_s, rInM, rListM, rSortM, rSumM, rIsD, tBMM, tBM0M, tSl, rSlM, rAppend, rPop, rClear, wAs, reduceCtorEq, false_implies, true_implies, implies_true, forall_const, cxH_K, clsV_ref, clsV_ty, HO.xd.injEq, Value.ref.injEq, lkc, lkn, pfn, pfc, List.map_nil, rExtend, rCat, rRep, tMethE0, rSortD, rPush, rPopH, tDGetM, gAll, iRev, tCB, sDDel, exf_NoRoom T, exf_NoNumber T, sne_Store_room_entries, sne_Store_room_words, sne_Store_entries_words, sne_Store_room__places, sne_Store_entries__places, sne_Store_words__places, sne_Store_room__free, sne_Store_entries__free, sne_Store_words__free, sne_Store__places__free, sne_Store_room__fresh, sne_Store_entries__fresh, sne_Store_words__fresh, sne_Store__places__fresh, sne_Store__free__fresh, T.no_NoRoom_need, T.ex_NoRoom_NoNumber, T.ex_NoRoom_SaggarError, T.kit_NoRoom_NoNumber, T.kit_NoRoom_NoRoom, T.no_NoNumber_limit, T.ex_NoNumber_NoNumber, T.ex_NoNumber_SaggarError, T.kit_NoNumber_NoNumber, T.kit_NoNumber_NoRoom, hp, hq, List.length_map]
      exact h
    · rintro i σ' H' hi ⟨kk, rfl, rfl⟩
      have hlt : i < xs.length := by omega
      have hat : atI (xs.map V.int) (i : Int) = some (.int xs[i]) := atI_nat (by rw [List.getElem?_map, List.getElem?_eq_getElem hlt]; rfl)
      simp (config := { maxSteps := 4000000 }) only [tSeq, tNext, tDrop, tRet, tRetN, tIfS, tAsg, tTest, tAnd, tOr, tNot, tAndV, tOrV, tNotV, tIf, tOp, tUn, tVar, tC, tCB, tCons, tNil, tCall, tPart, tNoPart, tM0, tM1, tTup, tLst, tB, tIsN, tNotN, rI0, rI, rU, rEq, rNe, rAdd, gName, gTup, gCons, gNil, gSub, rSetL, rIxL, rIxT, rIxS, L2.start,
      List.map_cons, List.map_nil, List.cons_append, List.nil_append, List.append_nil, List.length_cons, List.length_nil, List.replicate, List.getElem?_cons_zero, List.getElem?_cons_succ, List.set_cons_zero, List.set_cons_succ, Nat.reduceAdd, Nat.reduceSub, Nat.sub_self, Nat.zero_add,
      Option.some.injEq, V.int.injEq, V.str.injEq, V.bl.injEq, V.ref.injEq, V.ty.injEq, List.cons.injEq, and_true, true_and, exists_eq_left, exists_eq_left', exists_eq_right, exists_and_left, exists_and_right, exists_const, decide_eq_true_eq, decide_eq_false_iff_not, if_true, if_false, reduceIte, Bool.false_eq_true, Bool.not_eq_true', sc_ii, sc_ss, sc_bb, str1, cx_K, lstAt, rIxM, rSetM, rLenM, atI_0, atI_1, atI_2, atI_3, setI_0, setI_1, setI_2, setI_3, upd_same, upd_upd, ite_true, ite_false, exists_eq', eq_self, and_assoc, rIsS, isTy_bb, isTy_bi, isTy_ib, isTy_ii, isTy_ss, isTy_nb, isTy_ni, Bool.not_true, Bool.not_false, not_true_eq_false, not_false_eq_true, tChain, tRz1, tRz2, rIsX, tFx, tMethE, tCallS, tCallZ, tMeth, tMake, tFld, sFld, HO.ins.injEq, HO.lst.injEq, HO.dK.injEq, HO.tup.injEq, dcAt, rDInM, rDGetM, rDSetM, rDLenM, keyOf_int, keyOf_str, rIsBM, plainV_b, plainV_i, plainV_n, plainV_s, rInM, rListM, rSortM, rSumM, rIsD, tBMM, tBM0M, tSl, rSlM, rAppend, rPop, rClear, wAs, reduceCtorEq, false_implies, true_implies, implies_true, forall_const, cxH_K, clsV_ref, clsV_ty, HO.xd.injEq, Value.ref.injEq, lkc, lkn, pfn, pfc, List.map_nil, rExtend, rCat, rRep, tMethE0, rSortD, rPush, rPopH, tDGetM, gAll, iRev, tCB, sDDel, exf_NoRoom T, exf_NoNumber T, sne_Store_room_entries, sne_Store_room_words, sne_Store_entries_words, sne_Store_room__places, sne_Store_entries__places, sne_Store_words__places, sne_Store_room__free, sne_Store_entries__free, sne_Store_words__free, sne_Store__places__free, sne_Store_room__fresh, sne_Store_entries__fresh, sne_Store_words__fresh, sne_Store__places__fresh, sne_Store__free__fresh, T.no_NoRoom_need, T.ex_NoRoom_NoNumber, T.ex_NoRoom_SaggarError, T.kit_NoRoom_NoNumber, T.kit_NoRoom_NoRoom, T.no_NoNumber_limit, T.ex_NoNumber_NoNumber, T.ex_NoNumber_SaggarError, T.kit_NoNumber_NoNumber, T.kit_NoNumber_NoRoom, hp, hq, hat, List.length_map]
      exact ⟨_, _, rfl, true, by simp, by simp⟩
    · rintro σ' H' ⟨kk, rfl, rfl⟩
      simp (config := { maxSteps := 4000000 }) only [tSeq, tNext, tDrop, tRet, tRetN, tIfS, tAsg, tTest, tAnd, tOr, tNot, tAndV, tOrV, tNotV, tIf, tOp, tUn, tVar, tC, tCB, tCons, tNil, tCall, tPart, tNoPart, tM0, tM1, tTup, tLst, tB, tIsN, tNotN, rI0, rI, rU, rEq, rNe, rAdd, gName, gTup, gCons, gNil, gSub, rSetL, rIxL, rIxT, rIxS, L2.start,
      List.map_cons, List.map_nil, List.cons_append, List.nil_append, List.append_nil, List.length_cons, List.length_nil, List.replicate, List.getElem?_cons_zero, List.getElem?_cons_succ, List.set_cons_zero, List.set_cons_succ, Nat.reduceAdd, Nat.reduceSub, Nat.sub_self, Nat.zero_add,
      Option.some.injEq, V.int.injEq, V.str.injEq, V.bl.injEq, V.ref.injEq, V.ty.injEq, List.cons.injEq, and_true, true_and, exists_eq_left, exists_eq_left', exists_eq_right, exists_and_left, exists_and_right, exists_const, decide_eq_true_eq, decide_eq_false_iff_not, if_true, if_false, reduceIte, Bool.false_eq_true, Bool.not_eq_true', sc_ii, sc_ss, sc_bb, str1, cx_K, lstAt, rIxM, rSetM, rLenM, atI_0, atI_1, atI_2, atI_3, setI_0, setI_1, setI_2, setI_3, upd_same, upd_upd, ite_true, ite_false, exists_eq', eq_self, and_assoc, rIsS, isTy_bb, isTy_bi, isTy_ib, isTy_ii, isTy_ss, isTy_nb, isTy_ni, Bool.not_true, Bool.not_false, not_true_eq_false, not_false_eq_true, tChain, tRz1, tRz2, rIsX, tFx, tMethE, tCallS, tCallZ, tMeth, tMake, tFld, sFld, HO.ins.injEq, HO.lst.injEq, HO.dK.injEq, HO.tup.injEq, dcAt, rDInM, rDGetM, rDSetM, rDLenM, keyOf_int, keyOf_str, rIsBM, plainV_b, plainV_i, plainV_n, plainV_s, rInM, rListM, rSortM, rSumM, rIsD, tBMM, tBM0M, tSl, rSlM, rAppend, rPop, rClear, wAs, reduceCtorEq, false_implies, true_implies, implies_true, forall_const, cxH_K, clsV_ref, clsV_ty, HO.xd.injEq, Value.ref.injEq, lkc, lkn, pfn, pfc, List.map_nil, rExtend, rCat, rRep, tMethE0, rSortD, rPush, rPopH, tDGetM, gAll, iRev, tCB, sDDel, exf_NoRoom T, exf_NoNumber T, sne_Store_room_entries, sne_Store_room_words, sne_Store_entries_words, sne_Store_room__places, sne_Store_entries__places, sne_Store_words__places, sne_Store_room__free, sne_Store_entries__free, sne_Store_words__free, sne_Store__places__free, sne_Store_room__fresh, sne_Store_entries__fresh, sne_Store_words__fresh, sne_Store__places__fresh, sne_Store__free__fresh, T.no_NoRoom_need, T.ex_NoRoom_NoNumber, T.ex_NoRoom_SaggarError, T.kit_NoRoom_NoNumber, T.kit_NoRoom_NoRoom, T.no_NoNumber_limit, T.ex_NoNumber_NoNumber, T.ex_NoNumber_SaggarError, T.kit_NoNumber_NoNumber, T.kit_NoNumber_NoRoom, rIsL]
      exact k
end

theorem range_pick {α : Type} (p : α → Bool) (g : α → V) : ∀ (bs : List α), ((List.range bs.length).filter fun i => (bs[i]?.map p).getD false).map (fun i => (bs[i]?.map g).getD .non) = (bs.filter p).map g := by
  intro bs
  have : ∀ (n : Nat), n ≤ bs.length → ((List.range n).filter fun i => (bs[i]?.map p).getD false).map (fun i => (bs[i]?.map g).getD .non) = ((bs.take n).filter p).map g := by
    intro n
    induction n with
    | zero => intro _; rfl
    | succ n ih =>
      intro h
      have hn : n < bs.length := h
      rw [List.range_succ, List.filter_append, List.map_append, ih (by omega), List.take_add_one, List.filter_append, List.map_append, List.getElem?_eq_getElem hn]
      congr 1
      rw [List.filter_cons]
      simp only [List.getElem?_eq_getElem hn, Option.map_some, Option.getD_some, Option.toList_some]
      by_cases c : p bs[n] = true
      · simp [c, hn]
      · simp [c]
  have := this bs.length (Nat.le_refl _)
  rw [List.take_length] at this
  exact this

def sp_flat : Sp := fun vs H Q _ => ∃ (p : Addr) (bs : List RB), vs = [.ref p] ∧ H p = some (.lst (refs bs)) ∧ View H bs ∧ (flat (obs bs)).length ≤ 100000 ∧ ∀ q H', Same H H' → H q = none → H' q = some (.lst ((flat (obs bs)).map V.int)) → Q (.ref q) H'
theorem sp_flat_len {vs H Q E} (h : sp_flat vs H Q E) : vs.length = (["row"] : List Str).length := by
  obtain ⟨_, _, rfl, _⟩ := h
  rfl
section
variable {P : Program} {w : World} {K : PySem.W.Frag} {mg : Str → Option Value} {base : Heap} {A : Ad}
theorem ok__law_flat (T : Txt K mg A) : FnOk P w K mg base CX0 1 A.f__law_flat A.d__law_flat ["row"] (sp_flat) := by
  refine Fun.ok T.F__law_flat sc__law_flat (fun vs H Q E h => ?_) (fun cdv Ar outer s H vs Q E hr h => ?_)
  · exact sp_flat_len h
  · have hu := hu_of hr
    refine ⟨_, (pss_cons (ps_asg (pe_lst pa_nil) (pg_name (i := 1) sc__law_flat.nd rfl (Or.inl rfl)))
    (pss_cons (ps_for PassesOwn.never rfl (pi_list (pv 0)) (pg_name (i := 2) sc__law_flat.nd rfl (Or.inl rfl))
      (pss_cons (ps_expr (pe_bmM PySem.F.slot_list_extend PySem.F.type_list_extend mt_extend (pv 1) (pa_cons (pe_lst (pa_cons (pe_ix ix_lstM (pv 2) pe_int (fun _ _ => rfl)) (pa_cons (pe_callB call_lenM (by rfl) T.z_len PySem.boot_len (pa_cons (pe_ix ix_lstM (pv 2) pe_int (fun _ _ => rfl)) pa_nil)) (pa_cons (pe_ix ix_lstM (pv 2) pe_int (fun _ _ => rfl)) pa_nil)))) pa_nil)))
    (pss_one (ps_expr (pe_bmM PySem.F.slot_list_extend PySem.F.type_list_extend mt_extend (pv 1) (pa_cons (pe_ix ix_lstM (pv 2) pe_int (fun _ _ => rfl)) pa_nil))))))
    (pss_one (ps_ret (pv 1))))), ?_⟩
    obtain ⟨p, bs, rfl, hp, vw, hz, k⟩ := h
    simp (config := { maxSteps := 4000000 }) only [tSeq, tNext, tDrop, tRet, tRetN, tIfS, tAsg, tTest, tAnd, tOr, tNot, tAndV, tOrV, tNotV, tIf, tOp, tUn, tVar, tC, tCB, tCons, tNil, tCall, tPart, tNoPart, tM0, tM1, tTup, tLst, tB, tIsN, tNotN, rI0, rI, rU, rEq, rNe, rAdd, gName, gTup, gCons, gNil, gSub, rSetL, rIxL, rIxT, rIxS, L2.start,
      List.map_cons, List.map_nil, List.cons_append, List.nil_append, List.append_nil, List.length_cons, List.length_nil, List.replicate, List.getElem?_cons_zero, List.getElem?_cons_succ, List.set_cons_zero, List.set_cons_succ, Nat.reduceAdd, Nat.reduceSub, Nat.sub_self, Nat.zero_add,
      Option.some.injEq, V.int.injEq, V.str.injEq, V.bl.injEq, V.ref.injEq, V.ty.injEq, List.cons.injEq, and_true, true_and, exists_eq_left, exists_eq_left', exists_eq_right, exists_and_left, exists_and_right, exists_const, decide_eq_true_eq, decide_eq_false_iff_not, if_true, if_false, reduceIte, Bool.false_eq_true, Bool.not_eq_true', sc_ii, sc_ss, sc_bb, str1, cx_K, lstAt, rIxM, rSetM, rLenM, atI_0, atI_1, atI_2, atI_3, setI_0, setI_1, setI_2, setI_3, upd_same, upd_upd, ite_true, ite_false, exists_eq', eq_self, and_assoc, rIsS, isTy_bb, isTy_bi, isTy_ib, isTy_ii, isTy_ss, isTy_nb, isTy_ni, Bool.not_true, Bool.not_false, not_true_eq_false, not_false_eq_true, tChain, tRz1, tRz2, rIsX, tFx, tMethE, tCallS, tCallZ, tMeth, tMake, tFld, sFld, HO.ins.injEq, HO.lst.injEq, HO.dK.injEq, HO.tup.injEq, dcAt, rDInM, rDGetM, rDSetM, rDLenM, keyOf_int, keyOf_str, rIsBM, plainV_b, plainV_i, plainV_n, plainV_s, rInM, rListM, rSortM, rSumM, rIsD, tBMM, tBM0M, tSl, rSlM, rAppend, rPop, rClear, wAs, reduceCtorEq, false_implies, true_implies, implies_true, forall_const, cxH_K, clsV_ref, clsV_ty, HO.xd.injEq, Value.ref.injEq, lkc, lkn, pfn, pfc, List.map_nil, rExtend, rCat, rRep, tMethE0, rSortD, rPush, rPopH, tDGetM, gAll, iRev, tCB, sDDel, exf_NoRoom T, exf_NoNumber T, sne_Store_room_entries, sne_Store_room_words, sne_Store_entries_words, sne_Store_room__places, sne_Store_entries__places, sne_Store_words__places, sne_Store_room__free, sne_Store_entries__free, sne_Store_words__free, sne_Store__places__free, sne_Store_room__fresh, sne_Store_entries__fresh, sne_Store_words__fresh, sne_Store__places__fresh, sne_Store__free__fresh, T.no_NoRoom_need, T.ex_NoRoom_NoNumber, T.ex_NoRoom_SaggarError, T.kit_NoRoom_NoNumber, T.kit_NoRoom_NoRoom, T.no_NoNumber_limit, T.ex_NoNumber_NoNumber, T.ex_NoNumber_SaggarError, T.kit_NoNumber_NoNumber, T.kit_NoNumber_NoRoom, rIsL]
    have sz : (300000 : Nat) ≤ sizeLine := by decide
    refine ⟨Nat.zero_le _, fun q hq => ?_⟩
    refine for_lst (H0 := upd H q (.lst [])) (a := p) (refs bs) (fun R h => ⟨_, rfl, h⟩) (fun i σ' H' => ∃ n1 : Option V, σ' = [some (V.ref p), some (V.ref q), n1] ∧ Same H H' ∧ H' q = some (.lst ((flat (obs (bs.take i))).map V.int))) ⟨_, rfl, same_new hq, upd_same⟩ ?_ ?_ ?_
    · rintro i σ' H' _ ⟨n1, rfl, sm, h1⟩
      exact .inl (.inl (sm _ _ hp))
    · rintro i x σ' H' hx ⟨n1, rfl, sm, h1⟩
      unfold refs at hx
      rw [List.getElem?_map] at hx
      obtain ⟨b, hb, rfl⟩ := Option.map_eq_some_iff.mp hx
      have hlt := (List.getElem?_eq_some_iff.mp hb).1
      have tk : bs.take (i + 1) = bs.take i ++ [b] := by rw [List.take_add_one, hb]; rfl
      have fw : flat (obs (bs.take (i + 1))) = flat (obs (bs.take i)) ++ flatO b.o := by
        rw [tk]
        unfold obs
        rw [List.map_append, flat_app]
        congr 1
        exact flat_one
      have fle : (flat (obs (bs.take (i + 1)))).length ≤ (flat (obs bs)).length := by
        have e : bs = bs.take (i + 1) ++ bs.drop (i + 1) := (List.take_append_drop ..).symm
        conv => rhs; rw [e]
        unfold obs
        rw [List.map_append, flat_app, List.length_append]
        omega
      have fl2 := congrArg List.length fw
      rw [List.length_append, flatO_len] at fl2
      have v1 := sm _ _ (vw b (List.mem_of_getElem? hb)).1
      have v2 := sm _ _ (vw b (List.mem_of_getElem? hb)).2
      simp (config := { maxSteps := 4000000 }) only [tSeq, tNext, tDrop, tRet, tRetN, tIfS, tAsg, tTest, tAnd, tOr, tNot, tAndV, tOrV, tNotV, tIf, tOp, tUn, tVar, tC, tCB, tCons, tNil, tCall, tPart, tNoPart, tM0, tM1, tTup, tLst, tB, tIsN, tNotN, rI0, rI, rU, rEq, rNe, rAdd, gName, gTup, gCons, gNil, gSub, rSetL, rIxL, rIxT, rIxS, L2.start,
      List.map_cons, List.map_nil, List.cons_append, List.nil_append, List.append_nil, List.length_cons, List.length_nil, List.replicate, List.getElem?_cons_zero, List.getElem?_cons_succ, List.set_cons_zero, List.set_cons_succ, Nat.reduceAdd, Nat.reduceSub, Nat.sub_self, Nat.zero_add,
      Option.some.injEq, V.int.injEq, V.str.injEq, V.bl.injEq, V.ref.injEq, V.ty.injEq, List.cons.injEq, and_true, true_and, exists_eq_left, exists_eq_left', exists_eq_right, exists_and_left, exists_and_right, exists_const, decide_eq_true_eq, decide_eq_false_iff_not, if_true, if_false, reduceIte, Bool.false_eq_true, Bool.not_eq_true', sc_ii, sc_ss, sc_bb, str1, cx_K, lstAt, rIxM, rSetM, rLenM, atI_0, atI_1, atI_2, atI_3, setI_0, setI_1, setI_2, setI_3, upd_same, upd_upd, ite_true, ite_false, exists_eq', eq_self, and_assoc, rIsS, isTy_bb, isTy_bi, isTy_ib, isTy_ii, isTy_ss, isTy_nb, isTy_ni, Bool.not_true, Bool.not_false, not_true_eq_false, not_false_eq_true, tChain, tRz1, tRz2, rIsX, tFx, tMethE, tCallS, tCallZ, tMeth, tMake, tFld, sFld, HO.ins.injEq, HO.lst.injEq, HO.dK.injEq, HO.tup.injEq, dcAt, rDInM, rDGetM, rDSetM, rDLenM, keyOf_int, keyOf_str, rIsBM, plainV_b, plainV_i, plainV_n, plainV_s, rInM, rListM, rSortM, rSumM, rIsD, tBMM, tBM0M, tSl, rSlM, rAppend, rPop, rClear, wAs, reduceCtorEq, false_implies, true_implies, implies_true, forall_const, cxH_K, clsV_ref, clsV_ty, HO.xd.injEq, Value.ref.injEq, lkc, lkn, pfn, pfc, List.map_nil, rExtend, rCat, rRep, tMethE0, rSortD, rPush, rPopH, tDGetM, gAll, iRev, tCB, sDDel, exf_NoRoom T, exf_NoNumber T, sne_Store_room_entries, sne_Store_room_words, sne_Store_entries_words, sne_Store_room__places, sne_Store_entries__places, sne_Store_words__places, sne_Store_room__free, sne_Store_entries__free, sne_Store_words__free, sne_Store__places__free, sne_Store_room__fresh, sne_Store_entries__fresh, sne_Store_words__fresh, sne_Store__places__fresh, sne_Store__free__fresh, T.no_NoRoom_need, T.ex_NoRoom_NoNumber, T.ex_NoRoom_SaggarError, T.kit_NoRoom_NoNumber, T.kit_NoRoom_NoRoom, T.no_NoNumber_limit, T.ex_NoNumber_NoNumber, T.ex_NoNumber_SaggarError, T.kit_NoNumber_NoNumber, T.kit_NoNumber_NoRoom, h1, v1, v2, rbL, atI_0, atI_1, atI_2, atI_3, List.length_map]
      refine ⟨by omega, fun t ht => ?_⟩
      have qt := ne_of_none h1 ht
      have g1 := same_new (o := HO.lst [V.int b.o.num, V.int (b.o.sl.length : Int), V.int b.o.kind]) ht _ _ h1
      have sm2 := same_trans sm (same_new (o := HO.lst [V.int b.o.num, V.int (b.o.sl.length : Int), V.int b.o.kind]) ht)
      have g3 : upd H' t (HO.lst [V.int b.o.num, V.int (b.o.sl.length : Int), V.int b.o.kind]) t = some (.lst [V.int b.o.num, V.int (b.o.sl.length : Int), V.int b.o.kind]) := upd_same
      generalize upd H' t (HO.lst [V.int b.o.num, V.int (b.o.sl.length : Int), V.int b.o.kind]) = H2 at g1 sm2 g3 ⊢
      simp (config := { maxSteps := 4000000 }) only [tSeq, tNext, tDrop, tRet, tRetN, tIfS, tAsg, tTest, tAnd, tOr, tNot, tAndV, tOrV, tNotV, tIf, tOp, tUn, tVar, tC, tCB, tCons, tNil, tCall, tPart, tNoPart, tM0, tM1, tTup, tLst, tB, tIsN, tNotN, rI0, rI, rU, rEq, rNe, rAdd, gName, gTup, gCons, gNil, gSub, rSetL, rIxL, rIxT, rIxS, L2.start,
      List.map_cons, List.map_nil, List.cons_append, List.nil_append, List.append_nil, List.length_cons, List.length_nil, List.replicate, List.getElem?_cons_zero, List.getElem?_cons_succ, List.set_cons_zero, List.set_cons_succ, Nat.reduceAdd, Nat.reduceSub, Nat.sub_self, Nat.zero_add,
      Option.some.injEq, V.int.injEq, V.str.injEq, V.bl.injEq, V.ref.injEq, V.ty.injEq, List.cons.injEq, and_true, true_and, exists_eq_left, exists_eq_left', exists_eq_right, exists_and_left, exists_and_right, exists_const, decide_eq_true_eq, decide_eq_false_iff_not, if_true, if_false, reduceIte, Bool.false_eq_true, Bool.not_eq_true', sc_ii, sc_ss, sc_bb, str1, cx_K, lstAt, rIxM, rSetM, rLenM, atI_0, atI_1, atI_2, atI_3, setI_0, setI_1, setI_2, setI_3, upd_same, upd_upd, ite_true, ite_false, exists_eq', eq_self, and_assoc, rIsS, isTy_bb, isTy_bi, isTy_ib, isTy_ii, isTy_ss, isTy_nb, isTy_ni, Bool.not_true, Bool.not_false, not_true_eq_false, not_false_eq_true, tChain, tRz1, tRz2, rIsX, tFx, tMethE, tCallS, tCallZ, tMeth, tMake, tFld, sFld, HO.ins.injEq, HO.lst.injEq, HO.dK.injEq, HO.tup.injEq, dcAt, rDInM, rDGetM, rDSetM, rDLenM, keyOf_int, keyOf_str, rIsBM, plainV_b, plainV_i, plainV_n, plainV_s, rInM, rListM, rSortM, rSumM, rIsD, tBMM, tBM0M, tSl, rSlM, rAppend, rPop, rClear, wAs, reduceCtorEq, false_implies, true_implies, implies_true, forall_const, cxH_K, clsV_ref, clsV_ty, HO.xd.injEq, Value.ref.injEq, lkc, lkn, pfn, pfc, List.map_nil, rExtend, rCat, rRep, tMethE0, rSortD, rPush, rPopH, tDGetM, gAll, iRev, tCB, sDDel, exf_NoRoom T, exf_NoNumber T, sne_Store_room_entries, sne_Store_room_words, sne_Store_entries_words, sne_Store_room__places, sne_Store_entries__places, sne_Store_words__places, sne_Store_room__free, sne_Store_entries__free, sne_Store_words__free, sne_Store__places__free, sne_Store_room__fresh, sne_Store_entries__fresh, sne_Store_words__fresh, sne_Store__places__fresh, sne_Store__free__fresh, T.no_NoRoom_need, T.ex_NoRoom_NoNumber, T.ex_NoRoom_SaggarError, T.kit_NoRoom_NoNumber, T.kit_NoRoom_NoRoom, T.no_NoNumber_limit, T.ex_NoNumber_NoNumber, T.ex_NoNumber_SaggarError, T.kit_NoNumber_NoNumber, T.kit_NoNumber_NoRoom, g1, g3, List.length_map]
      refine ⟨by first | omega | (simp; omega), ?_⟩
      have kp : ∀ a o, H a = some o → upd H2 q (HO.lst (List.map V.int (flat (obs (bs.take i))) ++ [V.int b.o.num, V.int (b.o.sl.length : Int), V.int b.o.kind])) a = some o := fun a o ha => by
        rw [upd_ne (ne_of_none ha hq)]
        exact sm2 _ _ ha
      have v3 := kp _ _ (vw b (List.mem_of_getElem? hb)).1
      have v4 := kp _ _ (vw b (List.mem_of_getElem? hb)).2
      have g4 : upd H2 q (HO.lst (List.map V.int (flat (obs (bs.take i))) ++ [V.int b.o.num, V.int (b.o.sl.length : Int), V.int b.o.kind])) q = some (.lst (List.map V.int (flat (obs (bs.take i))) ++ [V.int b.o.num, V.int (b.o.sl.length : Int), V.int b.o.kind])) := upd_same
      simp (config := { maxSteps := 4000000 }) only [tSeq, tNext, tDrop, tRet, tRetN, tIfS, tAsg, tTest, tAnd, tOr, tNot, tAndV, tOrV, tNotV, tIf, tOp, tUn, tVar, tC, tCB, tCons, tNil, tCall, tPart, tNoPart, tM0, tM1, tTup, tLst, tB, tIsN, tNotN, rI0, rI, rU, rEq, rNe, rAdd, gName, gTup, gCons, gNil, gSub, rSetL, rIxL, rIxT, rIxS, L2.start,
      List.map_cons, List.map_nil, List.cons_append, List.nil_append, List.append_nil, List.length_cons, List.length_nil, List.replicate, List.getElem?_cons_zero, List.getElem?_cons_succ, List.set_cons_zero, List.set_cons_succ, Nat.reduceAdd, Nat.reduceSub, Nat.sub_self, Nat.zero_add,
      Option.some.injEq, V.int.injEq, V.str.injEq, V.bl.injEq, V.ref.injEq, V.ty.injEq, List.cons.injEq, and_true, true_and, exists_eq_left, exists_eq_left', exists_eq_right, exists_and_left, exists_and_right, exists_const, decide_eq_true_eq, decide_eq_false_iff_not, if_true, if_false, reduceIte, Bool.false_eq_true, Bool.not_eq_true', sc_ii, sc_ss, sc_bb, str1, cx_K, lstAt, rIxM, rSetM, rLenM, atI_0, atI_1, atI_2, atI_3, setI_0, setI_1, setI_2, setI_3, upd_same, upd_upd, ite_true, ite_false, exists_eq', eq_self, and_assoc, rIsS, isTy_bb, isTy_bi, isTy_ib, isTy_ii, isTy_ss, isTy_nb, isTy_ni, Bool.not_true, Bool.not_false, not_true_eq_false, not_false_eq_true, tChain, tRz1, tRz2, rIsX, tFx, tMethE, tCallS, tCallZ, tMeth, tMake, tFld, sFld, HO.ins.injEq, HO.lst.injEq, HO.dK.injEq, HO.tup.injEq, dcAt, rDInM, rDGetM, rDSetM, rDLenM, keyOf_int, keyOf_str, rIsBM, plainV_b, plainV_i, plainV_n, plainV_s, rInM, rListM, rSortM, rSumM, rIsD, tBMM, tBM0M, tSl, rSlM, rAppend, rPop, rClear, wAs, reduceCtorEq, false_implies, true_implies, implies_true, forall_const, cxH_K, clsV_ref, clsV_ty, HO.xd.injEq, Value.ref.injEq, lkc, lkn, pfn, pfc, List.map_nil, rExtend, rCat, rRep, tMethE0, rSortD, rPush, rPopH, tDGetM, gAll, iRev, tCB, sDDel, exf_NoRoom T, exf_NoNumber T, sne_Store_room_entries, sne_Store_room_words, sne_Store_entries_words, sne_Store_room__places, sne_Store_entries__places, sne_Store_words__places, sne_Store_room__free, sne_Store_entries__free, sne_Store_words__free, sne_Store__places__free, sne_Store_room__fresh, sne_Store_entries__fresh, sne_Store_words__fresh, sne_Store__places__fresh, sne_Store__free__fresh, T.no_NoRoom_need, T.ex_NoRoom_NoNumber, T.ex_NoRoom_SaggarError, T.kit_NoRoom_NoNumber, T.kit_NoRoom_NoRoom, T.no_NoNumber_limit, T.ex_NoNumber_NoNumber, T.ex_NoNumber_SaggarError, T.kit_NoNumber_NoNumber, T.kit_NoNumber_NoRoom, g4, v3, v4, rbL, atI_2, List.length_map]
      refine ⟨by first | omega | (simp; omega), ?_⟩
      refine ⟨fun a o ha => ?_, ?_⟩
      · rw [upd_ne (ne_of_none ha hq)]
        exact sm2 _ _ ha
      · rw [fw]
        simp [flatO]
    · rintro σ' H' ⟨n1, rfl, sm, h1⟩
      rw [refs_len, List.take_length] at h1
      simp (config := { maxSteps := 4000000 }) only [tSeq, tNext, tDrop, tRet, tRetN, tIfS, tAsg, tTest, tAnd, tOr, tNot, tAndV, tOrV, tNotV, tIf, tOp, tUn, tVar, tC, tCB, tCons, tNil, tCall, tPart, tNoPart, tM0, tM1, tTup, tLst, tB, tIsN, tNotN, rI0, rI, rU, rEq, rNe, rAdd, gName, gTup, gCons, gNil, gSub, rSetL, rIxL, rIxT, rIxS, L2.start,
      List.map_cons, List.map_nil, List.cons_append, List.nil_append, List.append_nil, List.length_cons, List.length_nil, List.replicate, List.getElem?_cons_zero, List.getElem?_cons_succ, List.set_cons_zero, List.set_cons_succ, Nat.reduceAdd, Nat.reduceSub, Nat.sub_self, Nat.zero_add,
      Option.some.injEq, V.int.injEq, V.str.injEq, V.bl.injEq, V.ref.injEq, V.ty.injEq, List.cons.injEq, and_true, true_and, exists_eq_left, exists_eq_left', exists_eq_right, exists_and_left, exists_and_right, exists_const, decide_eq_true_eq, decide_eq_false_iff_not, if_true, if_false, reduceIte, Bool.false_eq_true, Bool.not_eq_true', sc_ii, sc_ss, sc_bb, str1, cx_K, lstAt, rIxM, rSetM, rLenM, atI_0, atI_1, atI_2, atI_3, setI_0, setI_1, setI_2, setI_3, upd_same, upd_upd, ite_true, ite_false, exists_eq', eq_self, and_assoc, rIsS, isTy_bb, isTy_bi, isTy_ib, isTy_ii, isTy_ss, isTy_nb, isTy_ni, Bool.not_true, Bool.not_false, not_true_eq_false, not_false_eq_true, tChain, tRz1, tRz2, rIsX, tFx, tMethE, tCallS, tCallZ, tMeth, tMake, tFld, sFld, HO.ins.injEq, HO.lst.injEq, HO.dK.injEq, HO.tup.injEq, dcAt, rDInM, rDGetM, rDSetM, rDLenM, keyOf_int, keyOf_str, rIsBM, plainV_b, plainV_i, plainV_n, plainV_s, rInM, rListM, rSortM, rSumM, rIsD, tBMM, tBM0M, tSl, rSlM, rAppend, rPop, rClear, wAs, reduceCtorEq, false_implies, true_implies, implies_true, forall_const, cxH_K, clsV_ref, clsV_ty, HO.xd.injEq, Value.ref.injEq, lkc, lkn, pfn, pfc, List.map_nil, rExtend, rCat, rRep, tMethE0, rSortD, rPush, rPopH, tDGetM, gAll, iRev, tCB, sDDel, exf_NoRoom T, exf_NoNumber T, sne_Store_room_entries, sne_Store_room_words, sne_Store_entries_words, sne_Store_room__places, sne_Store_entries__places, sne_Store_words__places, sne_Store_room__free, sne_Store_entries__free, sne_Store_words__free, sne_Store__places__free, sne_Store_room__fresh, sne_Store_entries__fresh, sne_Store_words__fresh, sne_Store__places__fresh, sne_Store__free__fresh, T.no_NoRoom_need, T.ex_NoRoom_NoNumber, T.ex_NoRoom_SaggarError, T.kit_NoRoom_NoNumber, T.kit_NoRoom_NoRoom, T.no_NoNumber_limit, T.ex_NoNumber_NoNumber, T.ex_NoNumber_SaggarError, T.kit_NoNumber_NoNumber, T.kit_NoNumber_NoRoom, rIsL]
      exact k q H' sm hq h1
end

theorem all_below : ∀ (k : Nat) (l : List Int), (∀ m : Int, 0 ≤ m → m < k → m ∈ l) → k ≤ l.length
  | 0, _, _ => Nat.zero_le _
  | k + 1, l, h => by
    have hk : (k : Int) ∈ l := h k (by omega) (by omega)
    have := all_below k (l.erase (k : Int)) fun m m0 m1 => (List.mem_erase_of_ne (by omega)).mpr (h m m0 (by omega))
    rw [List.length_erase_of_mem hk] at this
    have := List.length_pos_of_mem hk
    omega
theorem free_least {row : List OB} {n : Int} (h : IsFree row n) : n ≤ row.length := by
  have := all_below n.toNat (nums row) fun m m0 m1 => h.2.2 m m0 (by have := h.1; omega)
  have := nums_len (row := row)
  omega

theorem store_new {A : Ad} {H : Hp} {rm en : Int} {R : Addr → Hp → Prop} (h0 : 0 ≤ en) (h1 : en ≤ 100000) (h : ∀ s H', St A H' s rm en [] H → R s H') :
    ∀ x dx, H x = none → H dx = none → dx ≠ x → sp_mk A.C_Store [.ref x, .int rm, .int en] (upd (upd H dx (.own x)) x (.ins A.C_Store dx [])) (fun v H2 => v = .non ∧ R x H2) E0 := by
  intro x dx hx hdx ne
  refine ⟨x, dx, rm, en, rfl, upd_same, fun w d f H' hw hd hf wf ha h2 h3 h4 fr => ⟨rfl, h x H' ?_⟩⟩
  have out : ∀ b, upd (upd H dx (.own x)) x (.ins A.C_Store dx []) b = none → b ≠ x ∧ b ≠ dx ∧ H b = none := fun b hb => by
    have n1 : x ≠ b := ne_of_none upd_same hb
    have n2 : dx ≠ b := ne_of_none (by rw [upd_ne ne, upd_same]) hb
    rw [upd_ne (Ne.symm n1), upd_ne (Ne.symm n2)] at hb
    exact ⟨Ne.symm n1, Ne.symm n2, hb⟩
  obtain ⟨_, _, w3⟩ := out w hw
  obtain ⟨_, _, d3⟩ := out d hd
  obtain ⟨_, _, f3⟩ := out f hf
  refine ⟨dx, w, d, f, [], [], [], 0, ⟨ha, h2, h3, h4, wf, fun b o hb => ?_⟩, RowOk.mk0 h0 h1⟩
  have b1 := ne_of_none hb hx
  have b2 := ne_of_none hb w3
  have b3 := ne_of_none hb d3
  have b4 := ne_of_none hb f3
  refine ⟨?_, b1, b2, b3, b4⟩
  rw [fr b b1 b2 b3 b4, upd_ne b1, upd_ne (ne_of_none hb hdx)]
  exact hb

/-- the places of those that are there -/
def livI (bs : List RB) : List Int := ((List.range bs.length).filter fun i => (bs[i]?.map fun b => b.o.al).getD false).map fun i => ((i : Nat) : Int)
theorem nums_obs {bs : List RB} : nums (obs bs) = (bs.filter (·.o.al)).map (·.o.num) := by
  unfold nums obs
  rw [List.filter_map, List.map_map]
  rfl
def noHp : Hp := fun _ => none
theorem Rw.nil {D : Addr} : Rw (upd noHp D (.lst [])) D [] noHp := ⟨upd_same, fun b h => absurd h (by simp), by simp [adrs], fun p o h => by cases h⟩
theorem Rw.push {F rl bs} (R : Rw F rl bs noHp) {r c : Addr} {o : OB} (Fc : F c = none) (Fr : F r = none) (ne : r ≠ c) :
    Rw (upd (upd (upd F c (.lst (o.sl.map V.int))) r (rbL ⟨r, c, o⟩)) rl (.lst (refs bs ++ [.ref r]))) rl (bs ++ [⟨r, c, o⟩]) noHp := by
  have oc := R.out Fc
  have or := R.out Fr
  have smF : Same F (upd (upd F c (.lst (o.sl.map V.int))) r (rbL ⟨r, c, o⟩)) := same_trans (same_new Fc) (same_new (by rw [upd_ne ne]; exact Fr))
  have rlr : rl ≠ r := fun e => or (e ▸ List.mem_cons_self ..)
  have rlc : rl ≠ c := fun e => oc (e ▸ List.mem_cons_self ..)
  have nd := List.nodup_cons.mp R.nd
  refine ⟨by rw [upd_same]; simp [refs], fun q hq => ?_, ?_, fun p u hp => by cases hp⟩
  · rcases List.mem_append.mp hq with hq | hq
    · have n1 : q.r ≠ rl := fun e => nd.1 (e ▸ adrs_mem.mpr ⟨q, hq, .inl rfl⟩)
      have n2 : q.c ≠ rl := fun e => nd.1 (e ▸ adrs_mem.mpr ⟨q, hq, .inr rfl⟩)
      exact ⟨by rw [upd_ne n1]; exact smF _ _ (R.one q hq).1, by rw [upd_ne n2]; exact smF _ _ (R.one q hq).2⟩
    · rw [List.mem_singleton] at hq
      subst hq
      exact ⟨by rw [upd_ne (Ne.symm rlr), upd_same], by rw [upd_ne (Ne.symm rlc), upd_ne (Ne.symm ne), upd_same]⟩
  · rw [adrs_app]
    refine List.nodup_cons.mpr ⟨fun m => ?_, List.nodup_append.mpr ⟨nd.2, ?_, fun x hx y hy e => ?_⟩⟩
    · rcases List.mem_append.mp m with m | m
      · exact nd.1 m
      · simp [adrs] at m
        exact m.elim rlr rlc
    · simp [adrs, ne]
    · subst e
      simp [adrs] at hy
      rcases hy with rfl | rfl
      · exact or (List.mem_cons_of_mem _ hx)
      · exact oc (List.mem_cons_of_mem _ hx)
theorem Fresh.set {H H1 D : Hp} {p : Addr} {o u : HO} (f : Fresh H H1 D) (h : D p = some u) : Fresh H (upd H1 p o) (upd D p o) := fun b v e => by
  by_cases c : b = p
  · subst c
    rw [upd_same] at e
    exact ⟨(f _ _ h).1, by rw [upd_same]; exact e⟩
  · rw [upd_ne c] at e ⊢
    exact f b v e
theorem Fresh.none {H H1 D : Hp} {p : Addr} (f : Fresh H H1 D) (h : H1 p = Option.none) : D p = Option.none := by
  cases q : D p with
  | none => rfl
  | some o =>
    rw [(f _ _ q).2] at h
    cases h
theorem obs_flat79 : ∀ {bs : List RB}, (∀ b ∈ bs, b.o.sl.length ≤ 79) → (flat (obs bs)).length ≤ 82 * bs.length
  | [], _ => Nat.le_refl _
  | b :: bs, h => by
    have h1 := h b (List.mem_cons_self ..)
    have h2 := obs_flat79 (bs := bs) fun q hq => h q (List.mem_cons_of_mem _ hq)
    show (flatO b.o ++ flat (obs bs)).length ≤ _
    rw [List.length_append, flatO_len, List.length_cons]
    omega
theorem St.free {A H a rm en row F} (h : St A H a rm en row F) : ∃ n, IsFree row n := by
  obtain ⟨dx, w, d, f, ws, kvs, fr, fs, I, R⟩ := h
  cases fr with
  | nil => exact ⟨_, R.free_nil⟩
  | cons x fr => exact ⟨_, R.free_hd.1⟩
theorem Lx.free {A H s rl rm en row bs G} (h : Lx A H s rl rm en row bs G) : ∃ n, IsFree row n := by
  obtain ⟨F, S, R⟩ := h
  exact S.free
theorem adrs_sub {bs bs' : List RB} (h : List.Sublist bs' bs) : List.Sublist (adrs bs') (adrs bs) := by
  induction h with
  | slnil => exact List.Sublist.refl _
  | cons b _ ih => exact (List.Sublist.cons _ (List.Sublist.cons _ ih))
  | cons_cons b _ ih => exact (ih.cons_cons b.c).cons_cons b.r
theorem Lx.sub {A H s rl rm en row bs bs' G} (h : Lx A H s rl rm en row bs G) (u : List.Sublist bs' bs) : Lx A (upd H rl (.lst (refs bs'))) s rl rm en row bs' G := by
  obtain ⟨F, S, R⟩ := h
  have nd := List.nodup_cons.mp R.nd
  have ne : ∀ p, p ∈ adrs bs → p ≠ rl := fun p hp e => nd.1 (e ▸ hp)
  refine ⟨_, S.set R.lst, upd_same, fun b hb => ?_, ?_, fun p o q => ?_⟩
  · have hm := u.subset hb
    rw [upd_ne (ne _ (adrs_mem.mpr ⟨b, hm, .inl rfl⟩)), upd_ne (ne _ (adrs_mem.mpr ⟨b, hm, .inr rfl⟩))]
    exact R.one b hm
  · exact List.nodup_cons.mpr ⟨fun m => nd.1 ((adrs_sub u).subset m), nd.2.sublist (adrs_sub u)⟩
  · obtain ⟨h1, h2⟩ := R.fr p o q
    refine ⟨by rw [upd_ne (show p ≠ rl from fun e => h2 (by rw [e]; exact List.mem_cons_self ..))]; exact h1, fun m => h2 ?_⟩
    rcases List.mem_cons.mp m with e | m
    · exact e ▸ List.mem_cons_self ..
    · exact List.mem_cons_of_mem _ ((adrs_sub u).subset m)
theorem obs_filter {bs : List RB} : (obs bs).filter (·.al) = obs (bs.filter (·.o.al)) := by
  unfold obs
  rw [List.filter_map]
  rfl
theorem Lx.uni {A H H' s rl rm en row bs G D} (h : Lx A H s rl rm en row bs G) (sm : Same H H') (f : Fresh H H' D) : Lx A H' s rl rm en row bs (My.uni D G) := by
  obtain ⟨F, S, R⟩ := h
  have sF : Same F (My.uni D F) := uni_r S f
  refine ⟨_, S.uni sm f, sF _ _ R.lst, R.one.same sF, R.nd, fun p o q => ?_⟩
  unfold My.uni at q
  split at q
  · rename_i o' e
    cases q
    exact ⟨by unfold My.uni; rw [e], R.out (S.none (f _ _ e).1)⟩
  · rename_i e
    obtain ⟨h1, h2⟩ := R.fr p o q
    exact ⟨sF _ _ h1, h2⟩
theorem Lx.adopt {A H H' s rl rm en row q cs G D} (h : Lx A H s rl rm en row [] G) (sm : Same H H') (f : Fresh H H' D) (r : Rw D q cs noHp) : Lx A (upd H' rl (.lst (refs cs))) s rl rm en row cs G := by
  obtain ⟨F, S, R⟩ := h
  have sF : Same F (My.uni D F) := uni_r S f
  have n0 : ∀ p o, D p = some o → p ≠ rl := fun p o e => by
    have := (f p o e).1
    exact Ne.symm (ne_of_none (S.get R.lst) this)
  refine ⟨_, (S.uni sm f).set (sF _ _ R.lst), upd_same, fun b hb => ?_, ?_, fun p o e => ?_⟩
  · obtain ⟨v1, v2⟩ := r.one b hb
    rw [upd_ne (n0 _ _ v1), upd_ne (n0 _ _ v2)]
    exact ⟨uni_l _ _ v1, uni_l _ _ v2⟩
  · refine List.nodup_cons.mpr ⟨fun m => ?_, (List.nodup_cons.mp r.nd).2⟩
    obtain ⟨b, hb, e⟩ := adrs_mem.mp m
    obtain ⟨v1, v2⟩ := r.one b hb
    rcases e with e | e
    · exact n0 _ _ v1 e.symm
    · exact n0 _ _ v2 e.symm
  · obtain ⟨h1, h2⟩ := R.fr p o e
    have p1 : p ≠ rl := fun z => h2 (z ▸ List.mem_cons_self ..)
    refine ⟨by rw [upd_ne p1]; exact sF _ _ h1, fun m => ?_⟩
    rcases List.mem_cons.mp m with z | m
    · exact p1 z
    · obtain ⟨b, hb, e2⟩ := adrs_mem.mp m
      obtain ⟨v1, v2⟩ := r.one b hb
      have hp := S.get h1
      rcases e2 with rfl | rfl
      · rw [(f _ _ v1).1] at hp
        cases hp
      · rw [(f _ _ v2).1] at hp
        cases hp
/-- one of the things that were taken: the pair at T, the snapshot at S, the copy of the row at R -/
structure TS where
  T : Addr
  S : Addr
  R : Addr
  bs : List RB
structure TOk (G : Hp) (en : Int) (N : Nat) (t : TS) : Prop where
  pair : G t.T = some (.tup [.ref t.S, .ref t.R])
  sn : Sn G t.S en (obs t.bs)
  lst : G t.R = some (.lst (refs t.bs))
  vw : View G t.bs
  len : t.bs.length ≤ N
  sl : ∀ b ∈ t.bs, b.o.sl.length ≤ 79
theorem TOk.same {G G' en N t} (h : TOk G en N t) (s : Same G G') : TOk G' en N t := ⟨s _ _ h.pair, h.sn.same s, s _ _ h.lst, h.vw.same s, h.len, h.sl⟩
def trefs (ts : List TS) : List V := ts.map fun t => .ref t.T
/-- store, row, and what was taken; G1 is G without the list of what was taken; G0 stands beside all -/
structure KS (A : Ad) (H : Hp) (s rl tk : Addr) (rm en : Int) (G0 : Hp) (N M : Nat) (bs : List RB) (ts : List TS) (G1 G : Hp) : Prop where
  lx : Lx A H s rl rm en (obs bs) bs G
  tl : G tk = some (.lst (trefs ts))
  s1 : Same G1 G
  g1 : G1 tk = none
  tok : ∀ t ∈ ts, TOk G1 en N t
  sg : Same G0 G1
  len : bs.length ≤ N
  sl : ∀ b ∈ bs, b.o.sl.length ≤ 79
  tm : ts.length ≤ M
theorem TOk.up {G en N N' t} (h : TOk G en N t) (l : N ≤ N') : TOk G en N' t := ⟨h.pair, h.sn, h.lst, h.vw, Nat.le_trans h.len l, h.sl⟩
theorem KS.up {A H s rl tk rm en G0 N M N' M' bs ts G1 G} (h : KS A H s rl tk rm en G0 N M bs ts G1 G) (a : N ≤ N') (b : M ≤ M') : KS A H s rl tk rm en G0 N' M' bs ts G1 G :=
  ⟨h.lx, h.tl, h.s1, h.g1, fun t ht => (h.tok t ht).up a, h.sg, Nat.le_trans h.len a, h.sl, Nat.le_trans h.tm b⟩
theorem KS.same {A H H' s rl tk rm en G0 N M bs ts G1 G} (h : KS A H s rl tk rm en G0 N M bs ts G1 G) (e : Same H H') : KS A H' s rl tk rm en G0 N M bs ts G1 G :=
  ⟨h.lx.same e, h.tl, h.s1, h.g1, h.tok, h.sg, h.len, h.sl, h.tm⟩
theorem uni_mono {D G1 G : Hp} (s : Same G1 G) : Same (uni D G1) (uni D G) := fun b o e => by
  unfold uni at e ⊢
  split at e
  · exact e
  · exact s _ _ e
theorem uni_none {D G : Hp} {p : Addr} (a : D p = none) (b : G p = none) : uni D G p = none := by
  unfold uni
  rw [a]
  exact b
theorem KS.ug {A H H' s rl tk rm en G0 N M bs ts G1 G D} (h : KS A H s rl tk rm en G0 N M bs ts G1 G) (f : Fresh H H' D) : Same G (My.uni D G) ∧ Same G1 (My.uni D G1) := by
  constructor
  · intro b o e
    unfold My.uni
    split
    · rename_i o' q
      have := (f b o' q).1
      rw [h.lx.get e] at this
      cases this
    · exact e
  · intro b o e
    unfold My.uni
    split
    · rename_i o' q
      have h2 := (f b o' q).1
      rw [h.lx.get (h.s1 _ _ e)] at h2
      cases h2
    · exact e
theorem KS.uni {A H H' s rl tk rm en G0 N M bs ts G1 G D} (h : KS A H s rl tk rm en G0 N M bs ts G1 G) (sm : Same H H') (f : Fresh H H' D) : KS A H' s rl tk rm en G0 N M bs ts (My.uni D G1) (My.uni D G) := by
  obtain ⟨ug, ug1⟩ := h.ug f
  have Dtk : D tk = none := by
    cases q : D tk with
    | none => rfl
    | some o =>
      have := (f _ _ q).1
      rw [h.lx.get h.tl] at this
      cases this
  exact ⟨h.lx.uni sm f, ug _ _ h.tl, uni_mono h.s1, uni_none Dtk h.g1, fun t ht => (h.tok t ht).same ug1, same_trans h.sg ug1, h.len, h.sl, h.tm⟩
/-- one thing more is taken -/
theorem KS.take {A H s rl tk rm en G0 N M bs ts G1 G} (h : KS A H s rl tk rm en G0 N M bs ts G1 G) {t : TS} (ht : TOk G1 en N t) : KS A (upd H tk (.lst (trefs ts ++ [.ref t.T]))) s rl tk rm en G0 N (M + 1) bs (ts ++ [t]) G1 (upd G tk (.lst (trefs ts ++ [.ref t.T]))) :=
  ⟨h.lx.setG h.tl, by rw [upd_same]; unfold trefs; rw [List.map_append]; rfl, fun b o e => by rw [upd_ne (ne_of_none e h.g1)]; exact h.s1 _ _ e, h.g1, fun u hu => by
    rcases List.mem_append.mp hu with hu | hu
    · exact h.tok u hu
    · rw [List.mem_singleton] at hu
      exact hu ▸ ht, h.sg, h.len, h.sl, by rw [List.length_append]; exact Nat.succ_le_succ h.tm⟩
theorem pick_liv {bs : List RB} (h : 0 < (livI bs).length) (z : Int) : ∃ (j : Nat) (b : RB), atI ((livI bs).map V.int) (z % ((livI bs).length : Int)) = some (.int (j : Int)) ∧ bs[j]? = some b ∧ b.o.al = true := by
  have z0 := Int.emod_nonneg z (show ((livI bs).length : Int) ≠ 0 by omega)
  have z1 := Int.emod_lt_of_pos z (show (0 : Int) < (livI bs).length by omega)
  obtain ⟨i, hi⟩ := Int.eq_ofNat_of_zero_le z0
  rw [hi]
  have hl : i < (livI bs).length := by omega
  have hg : (livI bs)[i]? = some (livI bs)[i] := List.getElem?_eq_getElem hl
  have hm := List.getElem_mem hl
  generalize (livI bs)[i] = w at hg hm
  unfold livI at hm
  obtain ⟨j, hj, e⟩ := List.mem_map.mp hm
  subst e
  have f := (List.mem_filter.mp hj)
  have lt := List.mem_range.mp f.1
  have hb : bs[j]? = some bs[j] := List.getElem?_eq_getElem lt
  have f2 := f.2
  rw [hb] at f2
  exact ⟨j, bs[j], atI_nat (by rw [List.getElem?_map, hg]; rfl), hb, f2⟩
theorem livI_len {bs : List RB} : (livI bs).length ≤ bs.length := by
  unfold livI
  rw [List.length_map]
  have := List.length_filter_le (fun i => (bs[i]?.map fun b => b.o.al).getD false) (List.range bs.length)
  rw [List.length_range] at this
  exact this
theorem pick_ts {ts : List TS} (h : 0 < ts.length) (z : Int) : ∃ t ∈ ts, atI (trefs ts) (z % ((trefs ts).length : Int)) = some (.ref t.T) := by
  have e : (trefs ts).length = ts.length := by unfold trefs; rw [List.length_map]
  rw [e]
  have z0 := Int.emod_nonneg z (show (ts.length : Int) ≠ 0 by omega)
  have z1 := Int.emod_lt_of_pos z (show (0 : Int) < (ts.length : Int) by omega)
  obtain ⟨i, hi⟩ := Int.eq_ofNat_of_zero_le z0
  rw [hi]
  have hl : i < ts.length := by omega
  exact ⟨ts[i], List.getElem_mem hl, atI_nat (by unfold trefs; rw [List.getElem?_map, List.getElem?_eq_getElem hl]; rfl)⟩
theorem KS.re {A H H' s rl tk rm en G0 N M bs bs' ts G1 G} (h : KS A H s rl tk rm en G0 N M bs ts G1 G) (L : Lx A H' s rl rm en (obs bs') bs' G) (l : bs'.length ≤ N) (sl : ∀ b ∈ bs', b.o.sl.length ≤ 79) : KS A H' s rl tk rm en G0 N M bs' ts G1 G :=
  ⟨L, h.tl, h.s1, h.g1, h.tok, h.sg, l, sl, h.tm⟩
theorem sl_set {bs : List RB} {j : Nat} {b b' : RB} {n : Nat} (h : ∀ b ∈ bs, b.o.sl.length ≤ n) (hb : bs[j]? = some b) (e : b'.o.sl.length = b.o.sl.length) : ∀ q ∈ bs.set j b', q.o.sl.length ≤ n := fun q hq => by
  rcases mem_set_at hq with rfl | ⟨i, _, hi⟩
  · rw [e]
    exact h b (List.mem_of_getElem? hb)
  · exact h q (List.mem_of_getElem? hi)
theorem liv_at {bs : List RB} {i : Nat} {z : Int} (h : (livI bs)[i]? = some z) : ∃ (j : Nat) (b : RB), z = (j : Int) ∧ bs[j]? = some b ∧ b.o.al = true := by
  have hm := List.mem_of_getElem? h
  unfold livI at hm
  obtain ⟨j, hj, e⟩ := List.mem_map.mp hm
  have f := List.mem_filter.mp hj
  have lt := List.mem_range.mp f.1
  have hb : bs[j]? = some bs[j] := List.getElem?_eq_getElem lt
  have f2 := f.2
  rw [hb] at f2
  exact ⟨j, bs[j], e.symm, hb, f2⟩
theorem livI_nums {bs : List RB} : (livI bs).map (fun z => (bs[z.toNat]?.map fun b => V.int b.o.num).getD .non) = (nums (obs bs)).map V.int := by
  unfold livI
  rw [List.map_map]
  have := range_pick (fun b : RB => b.o.al) (fun b : RB => V.int b.o.num) bs
  rw [nums_obs, List.map_map]
  exact this
theorem LcR.allF {f : Nat → V} {n ys} (h : LcR (fun _ => true) (fun i y => y = f i) n ys) : ys = (List.range n).map f := by
  have := h.map
  rw [this]
  congr 1
  exact List.filter_eq_self.mpr fun _ _ => rfl
theorem KS.init {A H s rm en F} (S : St A H s rm en [] F) {rl tk p1 : Addr} {u : HO} (h1 : F p1 = some u) (hrl : H rl = none) (htk : upd H rl (.lst []) tk = none) :
    KS A (upd (upd H rl (.lst [])) tk (.lst [])) s rl tk rm en (upd noHp p1 u) 0 0 [] [] (upd noHp p1 u) (upd (upd noHp p1 u) tk (.lst [])) := by
  have n1 : rl ≠ tk := ne_of_none upd_same htk
  have p1l : p1 ≠ rl := ne_of_none (S.get h1) hrl
  have p1t : p1 ≠ tk := ne_of_none (by rw [upd_ne p1l]; exact S.get h1) htk
  refine ⟨⟨_, (S.new hrl).new htk, by rw [upd_ne n1, upd_same]; rfl, fun b hb => absurd hb (by simp), by simp [adrs], fun p o e => ?_⟩, upd_same, fun b o e => ?_, ?_, fun t ht => absurd ht (by simp), fun b o e => e, Nat.le_refl _, fun b hb => absurd hb (by simp), Nat.le_refl _⟩
  · by_cases c : p = tk
    · subst c
      rw [upd_same] at e ⊢
      exact ⟨e, by simp [adrs]; exact Ne.symm n1⟩
    · rw [upd_ne c] at e ⊢
      by_cases c2 : p = p1
      · subst c2
        rw [upd_same] at e
        exact ⟨by rw [upd_ne p1l, h1]; exact e, by simp [adrs]; exact p1l⟩
      · rw [upd_ne c2] at e
        cases e
  · by_cases c : b = p1
    · subst c
      rw [upd_ne p1t]
      exact e
    · rw [upd_ne c] at e
      cases e
  · rw [upd_ne (Ne.symm p1t)]
    rfl
theorem KS.top {A H s rl tk rm en G0 N M bs ts G1 G} (h : KS A H s rl tk rm en G0 N M bs ts G1 G) : KS A H s rl tk rm en G1 N M bs ts G1 G :=
  ⟨h.lx, h.tl, h.s1, h.g1, h.tok, fun _ _ e => e, h.len, h.sl, h.tm⟩
theorem KS.base {A H s rl tk rm en G0 G0' N M bs ts G1 G} (h : KS A H s rl tk rm en G0 N M bs ts G1 G) (e : Same G0' G0) : KS A H s rl tk rm en G0' N M bs ts G1 G :=
  ⟨h.lx, h.tl, h.s1, h.g1, h.tok, same_trans e h.sg, h.len, h.sl, h.tm⟩
theorem KS.get {A H s rl tk rm en G0 N M bs ts G1 G} (h : KS A H s rl tk rm en G0 N M bs ts G1 G) {p : Addr} {o : HO} (e : G1 p = some o) : H p = some o := h.lx.get (h.s1 _ _ e)
/-- one object is made beside all -/
theorem KS.one {A H s rl tk rm en G0 N M bs ts G1 G} (h : KS A H s rl tk rm en G0 N M bs ts G1 G) {p : Addr} {o : HO} (e : H p = none) : ∃ G1' G', KS A (upd H p o) s rl tk rm en G1 N M bs ts G1' G' ∧ G1' p = some o := by
  have f : Fresh H (upd H p o) (upd (fun _ => none) p o) := Fresh.one e upd_same
  have Z := h.top.uni (same_new e) f
  exact ⟨_, _, Z, uni_l _ _ upd_same⟩

def sp_ldeeds : Sp := fun vs H Q _ => ∃ (c k : Int), vs = [.int c, .int k] ∧ ∀ (q : Addr) (x y : Int), H q = none → Q (.ref q) (upd H q (.lst [.int x, .int y]))
theorem sp_ldeeds_len {vs H Q E} (h : sp_ldeeds vs H Q E) : vs.length = (["cell", "k"] : List Str).length := by
  obtain ⟨_, _, rfl, _⟩ := h
  rfl
section
variable {P : Program} {w : World} {K : PySem.W.Frag} {mg : Str → Option Value} {base : Heap} {A : Ad}
theorem ok__law_deeds (T : Txt K mg A) : FnOk P w K mg base CX0 2 A.f__law_deeds A.d__law_deeds ["cell", "k"] (sp_ldeeds) := by
  refine Fun.ok T.F__law_deeds sc__law_deeds (fun vs H Q E h => ?_) (fun cdv Ar outer s H vs Q E hr h => ?_)
  · exact sp_ldeeds_len h
  · have hu := hu_of hr
    refine ⟨_, (pss_cons (ps_if (pt_cmpR op_ge (pv 0) (pe_op op_pow pe_int pe_int) (nomark _)) (pss_one (ps_ret (pe_lst (pa_cons (pe_op op_mod (pe_callTy call_intI (by rfl) T.z_int (by decide +kernel) (pa_cons (pv 0) pa_nil)) (pe_op op_pow pe_int pe_int)) (pa_cons (pe_op op_fdivW (pv 0) (pe_op op_pow pe_int pe_int)) pa_nil))))) pss_nil)
    (pss_one (ps_ret (pe_lst (pa_cons (pe_call (ok__law_number T) (hr.mono (by decide)) (by rfl) T.g__law_number T.k__law_number T.b__law_number .nil pass0 (pa_cons (pv 0) (pa_cons (pv 1) pa_nil))) (pa_cons (pe_call (ok__law_number T) (hr.mono (by decide)) (by rfl) T.g__law_number T.k__law_number T.b__law_number .nil pass0 (pa_cons (pv 0) (pa_cons (pe_op op_add (pv 1) pe_int) pa_nil))) pa_nil)))))), ?_⟩
    obtain ⟨c, j, rfl, k⟩ := h
    simp (config := { maxSteps := 4000000 }) only [tSeq, tNext, tDrop, tRet, tRetN, tIfS, tAsg, tTest, tAnd, tOr, tNot, tAndV, tOrV, tNotV, tIf, tOp, tUn, tVar, tC, tCB, tCons, tNil, tCall, tPart, tNoPart, tM0, tM1, tTup, tLst, tB, tIsN, tNotN, rI0, rI, rU, rEq, rNe, rAdd, gName, gTup, gCons, gNil, gSub, rSetL, rIxL, rIxT, rIxS, L2.start,
      List.map_cons, List.map_nil, List.cons_append, List.nil_append, List.append_nil, List.length_cons, List.length_nil, List.replicate, List.getElem?_cons_zero, List.getElem?_cons_succ, List.set_cons_zero, List.set_cons_succ, Nat.reduceAdd, Nat.reduceSub, Nat.sub_self, Nat.zero_add,
      Option.some.injEq, V.int.injEq, V.str.injEq, V.bl.injEq, V.ref.injEq, V.ty.injEq, List.cons.injEq, and_true, true_and, exists_eq_left, exists_eq_left', exists_eq_right, exists_and_left, exists_and_right, exists_const, decide_eq_true_eq, decide_eq_false_iff_not, if_true, if_false, reduceIte, Bool.false_eq_true, Bool.not_eq_true', sc_ii, sc_ss, sc_bb, str1, cx_K, lstAt, rIxM, rSetM, rLenM, atI_0, atI_1, atI_2, atI_3, setI_0, setI_1, setI_2, setI_3, upd_same, upd_upd, ite_true, ite_false, exists_eq', eq_self, and_assoc, rIsS, isTy_bb, isTy_bi, isTy_ib, isTy_ii, isTy_ss, isTy_nb, isTy_ni, Bool.not_true, Bool.not_false, not_true_eq_false, not_false_eq_true, tChain, tRz1, tRz2, rIsX, tFx, tMethE, tCallS, tCallZ, tMeth, tMake, tFld, sFld, HO.ins.injEq, HO.lst.injEq, HO.dK.injEq, HO.tup.injEq, dcAt, rDInM, rDGetM, rDSetM, rDLenM, keyOf_int, keyOf_str, rIsBM, plainV_b, plainV_i, plainV_n, plainV_s, rInM, rListM, rSortM, rSumM, rIsD, tBMM, tBM0M, tSl, rSlM, rAppend, rPop, rClear, wAs, reduceCtorEq, false_implies, true_implies, implies_true, forall_const, cxH_K, clsV_ref, clsV_ty, HO.xd.injEq, Value.ref.injEq, lkc, lkn, pfn, pfc, List.map_nil, rExtend, rCat, rRep, tMethE0, rSortD, rPush, rPopH, tDGetM, gAll, iRev, tCB, sDDel, exf_NoRoom T, exf_NoNumber T, sne_Store_room_entries, sne_Store_room_words, sne_Store_entries_words, sne_Store_room__places, sne_Store_entries__places, sne_Store_words__places, sne_Store_room__free, sne_Store_entries__free, sne_Store_words__free, sne_Store__places__free, sne_Store_room__fresh, sne_Store_entries__fresh, sne_Store_words__fresh, sne_Store__places__fresh, sne_Store__free__fresh, T.no_NoRoom_need, T.ex_NoRoom_NoNumber, T.ex_NoRoom_SaggarError, T.kit_NoRoom_NoNumber, T.kit_NoRoom_NoRoom, T.no_NoNumber_limit, T.ex_NoNumber_NoNumber, T.ex_NoNumber_SaggarError, T.kit_NoNumber_NoNumber, T.kit_NoNumber_NoRoom, rIsL]
    exact ⟨⟨by decide, by decide, by decide⟩, ite2 (fun _ => ⟨⟨by decide, by decide, by decide⟩, by decide, ⟨by decide, by decide, by decide⟩, ⟨by decide, by decide⟩, by decide, fun p hp => k p _ _ hp⟩) (fun _ => ⟨c, j, rfl, fun z => ⟨c, j + 100, rfl, fun z2 => ⟨by decide, fun p hp => k p _ _ hp⟩⟩⟩)⟩
end

def sp_lword1 : Sp := fun vs H Q _ => ∃ (x : Int), vs = [.int x] ∧ ∀ z : Int, Q (.int z) H
theorem sp_lword1_len {vs H Q E} (h : sp_lword1 vs H Q E) : vs.length = (["x"] : List Str).length := by
  obtain ⟨_, rfl, _⟩ := h
  rfl
section
variable {P : Program} {w : World} {K : PySem.W.Frag} {mg : Str → Option Value} {base : Heap} {A : Ad}
theorem ok__law_word (T : Txt K mg A) : FnOk P w K mg base CX0 1 A.f__law_word A.d__law_word ["x"] (sp_lword1) := by
  refine Fun.ok T.F__law_word sc__law_word (fun vs H Q E h => ?_) (fun cdv Ar outer s H vs Q E hr h => ?_)
  · exact sp_lword1_len h
  · have hu := hu_of hr
    refine ⟨_, (pss_cons (ps_asg (pe_op op_mul (pe_op op_fdiv (pv 0) pe_int) pe_int) (pg_name (i := 1) sc__law_word.nd rfl (Or.inl rfl)))
    (pss_cons (ps_if (pt_cmpR op_eq (pe_op op_mod (pe_callTy call_intI (by rfl) T.z_int (by decide +kernel) (pa_cons (pv 0) pa_nil)) pe_int) pe_int (nomark _)) (pss_one (ps_ret (pe_op op_add (pe_op op_mul pe_int (pe_op op_sub (pe_op op_mod (pe_callTy call_intI (by rfl) T.z_int (by decide +kernel) (pa_cons (pv 1) pa_nil)) pe_int) pe_int)) pe_int))) pss_nil)
    (pss_cons (ps_if (pt_cmpR op_eq (pe_op op_mod (pe_callTy call_intI (by rfl) T.z_int (by decide +kernel) (pa_cons (pv 0) pa_nil)) pe_int) pe_int (nomark _)) (pss_one (ps_ret (pe_op op_add (pe_op op_mul pe_int (pe_op op_mod (pe_callTy call_intI (by rfl) T.z_int (by decide +kernel) (pa_cons (pv 1) pa_nil)) pe_int)) pe_int))) pss_nil)
    (pss_one (ps_ret (pe_op op_mul pe_int (pe_op op_mod (pe_callTy call_intI (by rfl) T.z_int (by decide +kernel) (pa_cons (pv 1) pa_nil)) pe_int))))))), ?_⟩
    obtain ⟨x, rfl, k⟩ := h
    simp (config := { maxSteps := 4000000 }) only [tSeq, tNext, tDrop, tRet, tRetN, tIfS, tAsg, tTest, tAnd, tOr, tNot, tAndV, tOrV, tNotV, tIf, tOp, tUn, tVar, tC, tCB, tCons, tNil, tCall, tPart, tNoPart, tM0, tM1, tTup, tLst, tB, tIsN, tNotN, rI0, rI, rU, rEq, rNe, rAdd, gName, gTup, gCons, gNil, gSub, rSetL, rIxL, rIxT, rIxS, L2.start,
      List.map_cons, List.map_nil, List.cons_append, List.nil_append, List.append_nil, List.length_cons, List.length_nil, List.replicate, List.getElem?_cons_zero, List.getElem?_cons_succ, List.set_cons_zero, List.set_cons_succ, Nat.reduceAdd, Nat.reduceSub, Nat.sub_self, Nat.zero_add,
      Option.some.injEq, V.int.injEq, V.str.injEq, V.bl.injEq, V.ref.injEq, V.ty.injEq, List.cons.injEq, and_true, true_and, exists_eq_left, exists_eq_left', exists_eq_right, exists_and_left, exists_and_right, exists_const, decide_eq_true_eq, decide_eq_false_iff_not, if_true, if_false, reduceIte, Bool.false_eq_true, Bool.not_eq_true', sc_ii, sc_ss, sc_bb, str1, cx_K, lstAt, rIxM, rSetM, rLenM, atI_0, atI_1, atI_2, atI_3, setI_0, setI_1, setI_2, setI_3, upd_same, upd_upd, ite_true, ite_false, exists_eq', eq_self, and_assoc, rIsS, isTy_bb, isTy_bi, isTy_ib, isTy_ii, isTy_ss, isTy_nb, isTy_ni, Bool.not_true, Bool.not_false, not_true_eq_false, not_false_eq_true, tChain, tRz1, tRz2, rIsX, tFx, tMethE, tCallS, tCallZ, tMeth, tMake, tFld, sFld, HO.ins.injEq, HO.lst.injEq, HO.dK.injEq, HO.tup.injEq, dcAt, rDInM, rDGetM, rDSetM, rDLenM, keyOf_int, keyOf_str, rIsBM, plainV_b, plainV_i, plainV_n, plainV_s, rInM, rListM, rSortM, rSumM, rIsD, tBMM, tBM0M, tSl, rSlM, rAppend, rPop, rClear, wAs, reduceCtorEq, false_implies, true_implies, implies_true, forall_const, cxH_K, clsV_ref, clsV_ty, HO.xd.injEq, Value.ref.injEq, lkc, lkn, pfn, pfc, List.map_nil, rExtend, rCat, rRep, tMethE0, rSortD, rPush, rPopH, tDGetM, gAll, iRev, tCB, sDDel, exf_NoRoom T, exf_NoNumber T, sne_Store_room_entries, sne_Store_room_words, sne_Store_entries_words, sne_Store_room__places, sne_Store_entries__places, sne_Store_words__places, sne_Store_room__free, sne_Store_entries__free, sne_Store_words__free, sne_Store__places__free, sne_Store_room__fresh, sne_Store_entries__fresh, sne_Store_words__fresh, sne_Store__places__fresh, sne_Store__free__fresh, T.no_NoRoom_need, T.ex_NoRoom_NoNumber, T.ex_NoRoom_SaggarError, T.kit_NoRoom_NoNumber, T.kit_NoRoom_NoRoom, T.no_NoNumber_limit, T.ex_NoNumber_NoNumber, T.ex_NoNumber_SaggarError, T.kit_NoNumber_NoNumber, T.kit_NoNumber_NoRoom, rIsL]
    exact ⟨⟨by decide, by decide⟩, .inr ⟨by decide, by decide⟩, by decide, ite2 (fun _ => ⟨by decide, .inl ⟨by decide, by decide⟩, k _⟩) (fun _ => ⟨by decide, ite2 (fun _ => ⟨by decide, .inl ⟨by decide, by decide⟩, k _⟩) (fun _ => ⟨by decide, .inl ⟨by decide, by decide⟩, k _⟩)⟩)⟩
end

def sp_lliv : Sp := fun vs H Q _ => ∃ (p : Addr) (bs : List RB), vs = [.ref p] ∧ H p = some (.lst (refs bs)) ∧ View H bs ∧ bs.length ≤ 1000 ∧ ∀ q, H q = none → Q (.ref q) (upd H q (.lst ((livI bs).map V.int)))
theorem sp_lliv_len {vs H Q E} (h : sp_lliv vs H Q E) : vs.length = (["row"] : List Str).length := by
  obtain ⟨_, _, rfl, _⟩ := h
  rfl
section
variable {P : Program} {w : World} {K : PySem.W.Frag} {mg : Str → Option Value} {base : Heap} {A : Ad}
theorem ok__law_living (T : Txt K mg A) : FnOk P w K mg base CX0 1 A.f__law_living A.d__law_living ["row"] (sp_lliv) := by
  refine Fun.ok T.F__law_living sc__law_living (fun vs H Q E h => ?_) (fun cdv Ar outer s H vs Q E hr h => ?_)
  · exact sp_lliv_len h
  · have hu := hu_of hr
    refine ⟨_, (pss_one (ps_ret (pe_lc (own := [("k", 1)]) (g := gName 1) rfl sc__law_living.nd (pi_range1 (by rfl) T.z_range (pa_cons (pe_callB call_lenM (by rfl) T.z_len PySem.boot_len (pa_cons (pv 0) pa_nil)) pa_nil)) (blkOk_by (own := [("k", 1)]) (N := ["row", "k"]) (sc := defScope s__law_living) (by decide +kernel)) (fun _ _ _ _ _ => pg_name (i := 1) sc__law_living.nd rfl (Or.inl rfl)) (fun _ _ _ _ _ => (pts_one (pt_val (pe_ix ix_lstM (pe_ix ix_lstM (pv 0) (pv 1) (fun _ _ => rfl)) pe_int (fun _ _ => rfl))))) (fun _ _ _ _ _ => (pv 1))))), ?_⟩
    obtain ⟨p, bs, rfl, hp, vw, hl, k⟩ := h
    simp (config := { maxSteps := 4000000 }) only [tSeq, tNext, tDrop, tRet, tRetN, tIfS, tAsg, tTest, tAnd, tOr, tNot, tAndV, tOrV, tNotV, tIf, tOp, tUn, tVar, tC, tCB, tCons, tNil, tCall, tPart, tNoPart, tM0, tM1, tTup, tLst, tB, tIsN, tNotN, rI0, rI, rU, rEq, rNe, rAdd, gName, gTup, gCons, gNil, gSub, rSetL, rIxL, rIxT, rIxS, L2.start,
      List.map_cons, List.map_nil, List.cons_append, List.nil_append, List.append_nil, List.length_cons, List.length_nil, List.replicate, List.getElem?_cons_zero, List.getElem?_cons_succ, List.set_cons_zero, List.set_cons_succ, Nat.reduceAdd, Nat.reduceSub, Nat.sub_self, Nat.zero_add,
      Option.some.injEq, V.int.injEq, V.str.injEq, V.bl.injEq, V.ref.injEq, V.ty.injEq, List.cons.injEq, and_true, true_and, exists_eq_left, exists_eq_left', exists_eq_right, exists_and_left, exists_and_right, exists_const, decide_eq_true_eq, decide_eq_false_iff_not, if_true, if_false, reduceIte, Bool.false_eq_true, Bool.not_eq_true', sc_ii, sc_ss, sc_bb, str1, cx_K, lstAt, rIxM, rSetM, rLenM, atI_0, atI_1, atI_2, atI_3, setI_0, setI_1, setI_2, setI_3, upd_same, upd_upd, ite_true, ite_false, exists_eq', eq_self, and_assoc, rIsS, isTy_bb, isTy_bi, isTy_ib, isTy_ii, isTy_ss, isTy_nb, isTy_ni, Bool.not_true, Bool.not_false, not_true_eq_false, not_false_eq_true, tChain, tRz1, tRz2, rIsX, tFx, tMethE, tCallS, tCallZ, tMeth, tMake, tFld, sFld, HO.ins.injEq, HO.lst.injEq, HO.dK.injEq, HO.tup.injEq, dcAt, rDInM, rDGetM, rDSetM, rDLenM, keyOf_int, keyOf_str, rIsBM, plainV_b, plainV_i, plainV_n, plainV_s, rInM, rListM, rSortM, rSumM, rIsD, tBMM, tBM0M, tSl, rSlM, rAppend, rPop, rClear, wAs, reduceCtorEq, false_implies, true_implies, implies_true, forall_const, cxH_K, clsV_ref, clsV_ty, HO.xd.injEq, Value.ref.injEq, lkc, lkn, pfn, pfc, List.map_nil, rExtend, rCat, rRep, tMethE0, rSortD, rPush, rPopH, tDGetM, gAll, iRev, tCB, sDDel, exf_NoRoom T, exf_NoNumber T, sne_Store_room_entries, sne_Store_room_words, sne_Store_entries_words, sne_Store_room__places, sne_Store_entries__places, sne_Store_words__places, sne_Store_room__free, sne_Store_entries__free, sne_Store_words__free, sne_Store__places__free, sne_Store_room__fresh, sne_Store_entries__fresh, sne_Store_words__fresh, sne_Store__places__fresh, sne_Store__free__fresh, T.no_NoRoom_need, T.ex_NoRoom_NoNumber, T.ex_NoRoom_SaggarError, T.kit_NoRoom_NoNumber, T.kit_NoRoom_NoRoom, T.no_NoNumber_limit, T.ex_NoNumber_NoNumber, T.ex_NoNumber_SaggarError, T.kit_NoNumber_NoNumber, T.kit_NoNumber_NoRoom, rIsL]
    refine lc_rngI bs.length (fun i => (bs[i]?.map fun b => b.o.al).getD false) (fun i y => y = .int (i : Int)) (fun R h => ?_) (by omega) (fun i H' R hi sm h => ?_) (fun i H' R hi _ sm h => ?_) (fun D ys hD hy => ?_)
    · simp (config := { maxSteps := 4000000 }) only [tSeq, tNext, tDrop, tRet, tRetN, tIfS, tAsg, tTest, tAnd, tOr, tNot, tAndV, tOrV, tNotV, tIf, tOp, tUn, tVar, tC, tCB, tCons, tNil, tCall, tPart, tNoPart, tM0, tM1, tTup, tLst, tB, tIsN, tNotN, rI0, rI, rU, rEq, rNe, rAdd, gName, gTup, gCons, gNil, gSub, rSetL, rIxL, rIxT, rIxS, L2.start,
      List.map_cons, List.map_nil, List.cons_append, List.nil_append, List.append_nil, List.length_cons, List.length_nil, List.replicate, List.getElem?_cons_zero, List.getElem?_cons_succ, List.set_cons_zero, List.set_cons_succ, Nat.reduceAdd, Nat.reduceSub, Nat.sub_self, Nat.zero_add,
      Option.some.injEq, V.int.injEq, V.str.injEq, V.bl.injEq, V.ref.injEq, V.ty.injEq, List.cons.injEq, and_true, true_and, exists_eq_left, exists_eq_left', exists_eq_right, exists_and_left, exists_and_right, exists_const, decide_eq_true_eq, decide_eq_false_iff_not, if_true, if_false, reduceIte, Bool.false_eq_true, Bool.not_eq_true', sc_ii, sc_ss, sc_bb, str1, cx_K, lstAt, rIxM, rSetM, rLenM, atI_0, atI_1, atI_2, atI_3, setI_0, setI_1, setI_2, setI_3, upd_same, upd_upd, ite_true, ite_false, exists_eq', eq_self, and_assoc, rIsS, isTy_bb, isTy_bi, isTy_ib, isTy_ii, isTy_ss, isTy_nb, isTy_ni, Bool.not_true, Bool.not_false, not_true_eq_false, not_false_eq_true, tChain, tRz1, tRz2, rIsX, tFx, tMethE, tCallS, tCallZ, tMeth, tMake, tFld, sFld, HO.ins.injEq, HO.lst.injEq, HO.dK.injEq, HO.tup.injEq, dcAt, rDInM, rDGetM, rDSetM, rDLenM, keyOf_int, keyOf_str, rIsBM, plainV_b, plainV_i, plainV_n, plainV_s, rInM, rListM, rSortM, rSumM, rIsD, tBMM, tBM0M, tSl, rSlM, rAppend, rPop, rClear, wAs, reduceCtorEq, false_implies, true_implies, implies_true, forall_const, cxH_K, clsV_ref, clsV_ty, HO.xd.injEq, Value.ref.injEq, lkc, lkn, pfn, pfc, List.map_nil, rExtend, rCat, rRep, tMethE0, rSortD, rPush, rPopH, tDGetM, gAll, iRev, tCB, sDDel, exf_NoRoom T, exf_NoNumber T, sne_Store_room_entries, sne_Store_room_words, sne_Store_entries_words, sne_Store_room__places, sne_Store_entries__places, sne_Store_words__places, sne_Store_room__free, sne_Store_entries__free, sne_Store_words__free, sne_Store__places__free, sne_Store_room__fresh, sne_Store_entries__fresh, sne_Store_words__fresh, sne_Store__places__fresh, sne_Store__free__fresh, T.no_NoRoom_need, T.ex_NoRoom_NoNumber, T.ex_NoRoom_SaggarError, T.kit_NoRoom_NoNumber, T.kit_NoRoom_NoRoom, T.no_NoNumber_limit, T.ex_NoNumber_NoNumber, T.ex_NoNumber_SaggarError, T.kit_NoNumber_NoNumber, T.kit_NoNumber_NoRoom, hp, refs_len]
      exact h
    · have hb : bs[i]? = some bs[i] := List.getElem?_eq_getElem hi
      rw [hb] at h
      have hp2 := sm _ _ hp
      have v := sm _ _ (vw _ (List.mem_of_getElem? hb)).1
      have at1 := refs_at hb
      unfold rbL at v
      simp (config := { maxSteps := 4000000 }) only [tSeq, tNext, tDrop, tRet, tRetN, tIfS, tAsg, tTest, tAnd, tOr, tNot, tAndV, tOrV, tNotV, tIf, tOp, tUn, tVar, tC, tCB, tCons, tNil, tCall, tPart, tNoPart, tM0, tM1, tTup, tLst, tB, tIsN, tNotN, rI0, rI, rU, rEq, rNe, rAdd, gName, gTup, gCons, gNil, gSub, rSetL, rIxL, rIxT, rIxS, L2.start,
      List.map_cons, List.map_nil, List.cons_append, List.nil_append, List.append_nil, List.length_cons, List.length_nil, List.replicate, List.getElem?_cons_zero, List.getElem?_cons_succ, List.set_cons_zero, List.set_cons_succ, Nat.reduceAdd, Nat.reduceSub, Nat.sub_self, Nat.zero_add,
      Option.some.injEq, V.int.injEq, V.str.injEq, V.bl.injEq, V.ref.injEq, V.ty.injEq, List.cons.injEq, and_true, true_and, exists_eq_left, exists_eq_left', exists_eq_right, exists_and_left, exists_and_right, exists_const, decide_eq_true_eq, decide_eq_false_iff_not, if_true, if_false, reduceIte, Bool.false_eq_true, Bool.not_eq_true', sc_ii, sc_ss, sc_bb, str1, cx_K, lstAt, rIxM, rSetM, rLenM, atI_0, atI_1, atI_2, atI_3, setI_0, setI_1, setI_2, setI_3, upd_same, upd_upd, ite_true, ite_false, exists_eq', eq_self, and_assoc, rIsS, isTy_bb, isTy_bi, isTy_ib, isTy_ii, isTy_ss, isTy_nb, isTy_ni, Bool.not_true, Bool.not_false, not_true_eq_false, not_false_eq_true, tChain, tRz1, tRz2, rIsX, tFx, tMethE, tCallS, tCallZ, tMeth, tMake, tFld, sFld, HO.ins.injEq, HO.lst.injEq, HO.dK.injEq, HO.tup.injEq, dcAt, rDInM, rDGetM, rDSetM, rDLenM, keyOf_int, keyOf_str, rIsBM, plainV_b, plainV_i, plainV_n, plainV_s, rInM, rListM, rSortM, rSumM, rIsD, tBMM, tBM0M, tSl, rSlM, rAppend, rPop, rClear, wAs, reduceCtorEq, false_implies, true_implies, implies_true, forall_const, cxH_K, clsV_ref, clsV_ty, HO.xd.injEq, Value.ref.injEq, lkc, lkn, pfn, pfc, List.map_nil, rExtend, rCat, rRep, tMethE0, rSortD, rPush, rPopH, tDGetM, gAll, iRev, tCB, sDDel, exf_NoRoom T, exf_NoNumber T, sne_Store_room_entries, sne_Store_room_words, sne_Store_entries_words, sne_Store_room__places, sne_Store_entries__places, sne_Store_words__places, sne_Store_room__free, sne_Store_entries__free, sne_Store_words__free, sne_Store__places__free, sne_Store_room__fresh, sne_Store_entries__fresh, sne_Store_words__fresh, sne_Store__places__fresh, sne_Store__free__fresh, T.no_NoRoom_need, T.ex_NoRoom_NoNumber, T.ex_NoRoom_SaggarError, T.kit_NoRoom_NoNumber, T.kit_NoRoom_NoRoom, T.no_NoNumber_limit, T.ex_NoNumber_NoNumber, T.ex_NoNumber_SaggarError, T.kit_NoNumber_NoNumber, T.kit_NoNumber_NoRoom, hp2, at1, v, atI_3]
      exact h
    · simp (config := { maxSteps := 4000000 }) only [tSeq, tNext, tDrop, tRet, tRetN, tIfS, tAsg, tTest, tAnd, tOr, tNot, tAndV, tOrV, tNotV, tIf, tOp, tUn, tVar, tC, tCB, tCons, tNil, tCall, tPart, tNoPart, tM0, tM1, tTup, tLst, tB, tIsN, tNotN, rI0, rI, rU, rEq, rNe, rAdd, gName, gTup, gCons, gNil, gSub, rSetL, rIxL, rIxT, rIxS, L2.start,
      List.map_cons, List.map_nil, List.cons_append, List.nil_append, List.append_nil, List.length_cons, List.length_nil, List.replicate, List.getElem?_cons_zero, List.getElem?_cons_succ, List.set_cons_zero, List.set_cons_succ, Nat.reduceAdd, Nat.reduceSub, Nat.sub_self, Nat.zero_add,
      Option.some.injEq, V.int.injEq, V.str.injEq, V.bl.injEq, V.ref.injEq, V.ty.injEq, List.cons.injEq, and_true, true_and, exists_eq_left, exists_eq_left', exists_eq_right, exists_and_left, exists_and_right, exists_const, decide_eq_true_eq, decide_eq_false_iff_not, if_true, if_false, reduceIte, Bool.false_eq_true, Bool.not_eq_true', sc_ii, sc_ss, sc_bb, str1, cx_K, lstAt, rIxM, rSetM, rLenM, atI_0, atI_1, atI_2, atI_3, setI_0, setI_1, setI_2, setI_3, upd_same, upd_upd, ite_true, ite_false, exists_eq', eq_self, and_assoc, rIsS, isTy_bb, isTy_bi, isTy_ib, isTy_ii, isTy_ss, isTy_nb, isTy_ni, Bool.not_true, Bool.not_false, not_true_eq_false, not_false_eq_true, tChain, tRz1, tRz2, rIsX, tFx, tMethE, tCallS, tCallZ, tMeth, tMake, tFld, sFld, HO.ins.injEq, HO.lst.injEq, HO.dK.injEq, HO.tup.injEq, dcAt, rDInM, rDGetM, rDSetM, rDLenM, keyOf_int, keyOf_str, rIsBM, plainV_b, plainV_i, plainV_n, plainV_s, rInM, rListM, rSortM, rSumM, rIsD, tBMM, tBM0M, tSl, rSlM, rAppend, rPop, rClear, wAs, reduceCtorEq, false_implies, true_implies, implies_true, forall_const, cxH_K, clsV_ref, clsV_ty, HO.xd.injEq, Value.ref.injEq, lkc, lkn, pfn, pfc, List.map_nil, rExtend, rCat, rRep, tMethE0, rSortD, rPush, rPopH, tDGetM, gAll, iRev, tCB, sDDel, exf_NoRoom T, exf_NoNumber T, sne_Store_room_entries, sne_Store_room_words, sne_Store_entries_words, sne_Store_room__places, sne_Store_entries__places, sne_Store_words__places, sne_Store_room__free, sne_Store_entries__free, sne_Store_words__free, sne_Store__places__free, sne_Store_room__fresh, sne_Store_entries__fresh, sne_Store_words__fresh, sne_Store__places__fresh, sne_Store__free__fresh, T.no_NoRoom_need, T.ex_NoRoom_NoNumber, T.ex_NoRoom_SaggarError, T.kit_NoRoom_NoNumber, T.kit_NoRoom_NoRoom, T.no_NoNumber_limit, T.ex_NoNumber_NoNumber, T.ex_NoNumber_SaggarError, T.kit_NoNumber_NoNumber, T.kit_NoNumber_NoRoom, rIsL]
      exact h _ rfl
    · have e := hy.map
      rw [e]
      have := k D hD
      unfold livI at this
      rw [List.map_map] at this
      exact this
end

def sp_lfreer : Sp := fun vs H Q _ => ∃ (p : Addr) (bs : List RB), vs = [.ref p] ∧ H p = some (.lst (refs bs)) ∧ View H bs ∧ bs.length ≤ 1000 ∧ ∃ n, IsFree (obs bs) n ∧ ∀ H', Same H H' → Q (.int n) H'
theorem sp_lfreer_len {vs H Q E} (h : sp_lfreer vs H Q E) : vs.length = (["row"] : List Str).length := by
  obtain ⟨_, _, rfl, _⟩ := h
  rfl
section
variable {P : Program} {w : World} {K : PySem.W.Frag} {mg : Str → Option Value} {base : Heap} {A : Ad}
theorem ok__law_free (T : Txt K mg A) : FnOk P w K mg base CX0 1 A.f__law_free A.d__law_free ["row"] (sp_lfreer) := by
  refine Fun.ok T.F__law_free sc__law_free (fun vs H Q E h => ?_) (fun cdv Ar outer s H vs Q E hr h => ?_)
  · exact sp_lfreer_len h
  · have hu := hu_of hr
    refine ⟨_, (pss_cons (ps_setLc (i := 1) (own := [("one", 3)]) (g := gName 3) rfl sc__law_free.nd rfl rfl (sw_true rfl rfl rfl (by decide +kernel)) (pi_list (pv 0)) (blkOk_by (own := [("one", 3)]) (N := ["row", "taken", "number", "one"]) (sc := defScope s__law_free) (by decide +kernel)) (fun _ _ _ _ _ => pg_name (i := 3) sc__law_free.nd rfl (Or.inl rfl)) (fun _ _ _ _ _ => (pts_one (pt_val (pe_ix ix_lstM (pv 3) pe_int (fun _ _ => rfl))))) (fun _ _ _ _ _ => (pe_ix ix_lstM (pv 3) pe_int (fun _ _ => rfl))))
    (pss_cons (ps_for PassesOwn.never rfl (pi_range1 (by rfl) T.z_range (pa_cons (pe_op op_add (pe_callB call_lenM (by rfl) T.z_len PySem.boot_len (pa_cons (pv 1) pa_nil)) pe_int) pa_nil)) (pg_name (i := 2) sc__law_free.nd rfl (Or.inl rfl))
      (pss_one (ps_if (pt_cmpR op_notInM (pv 2) (pv 1) (by rfl)) (pss_one (ps_ret (pv 2))) pss_nil)))
    (pss_one (ps_ret pe_int)))), ?_⟩
    obtain ⟨p, bs, rfl, hp, vw, hl, n, hn, k⟩ := h
    simp (config := { maxSteps := 4000000 }) only [tSeq, tNext, tDrop, tRet, tRetN, tIfS, tAsg, tTest, tAnd, tOr, tNot, tAndV, tOrV, tNotV, tIf, tOp, tUn, tVar, tC, tCB, tCons, tNil, tCall, tPart, tNoPart, tM0, tM1, tTup, tLst, tB, tIsN, tNotN, rI0, rI, rU, rEq, rNe, rAdd, gName, gTup, gCons, gNil, gSub, rSetL, rIxL, rIxT, rIxS, L2.start,
      List.map_cons, List.map_nil, List.cons_append, List.nil_append, List.append_nil, List.length_cons, List.length_nil, List.replicate, List.getElem?_cons_zero, List.getElem?_cons_succ, List.set_cons_zero, List.set_cons_succ, Nat.reduceAdd, Nat.reduceSub, Nat.sub_self, Nat.zero_add,
      Option.some.injEq, V.int.injEq, V.str.injEq, V.bl.injEq, V.ref.injEq, V.ty.injEq, List.cons.injEq, and_true, true_and, exists_eq_left, exists_eq_left', exists_eq_right, exists_and_left, exists_and_right, exists_const, decide_eq_true_eq, decide_eq_false_iff_not, if_true, if_false, reduceIte, Bool.false_eq_true, Bool.not_eq_true', sc_ii, sc_ss, sc_bb, str1, cx_K, lstAt, rIxM, rSetM, rLenM, atI_0, atI_1, atI_2, atI_3, setI_0, setI_1, setI_2, setI_3, upd_same, upd_upd, ite_true, ite_false, exists_eq', eq_self, and_assoc, rIsS, isTy_bb, isTy_bi, isTy_ib, isTy_ii, isTy_ss, isTy_nb, isTy_ni, Bool.not_true, Bool.not_false, not_true_eq_false, not_false_eq_true, tChain, tRz1, tRz2, rIsX, tFx, tMethE, tCallS, tCallZ, tMeth, tMake, tFld, sFld, HO.ins.injEq, HO.lst.injEq, HO.dK.injEq, HO.tup.injEq, dcAt, rDInM, rDGetM, rDSetM, rDLenM, keyOf_int, keyOf_str, rIsBM, plainV_b, plainV_i, plainV_n, plainV_s, rInM, rListM, rSortM, rSumM, rIsD, tBMM, tBM0M, tSl, rSlM, rAppend, rPop, rClear, wAs, reduceCtorEq, false_implies, true_implies, implies_true, forall_const, cxH_K, clsV_ref, clsV_ty, HO.xd.injEq, Value.ref.injEq, lkc, lkn, pfn, pfc, List.map_nil, rExtend, rCat, rRep, tMethE0, rSortD, rPush, rPopH, tDGetM, gAll, iRev, tCB, sDDel, exf_NoRoom T, exf_NoNumber T, sne_Store_room_entries, sne_Store_room_words, sne_Store_entries_words, sne_Store_room__places, sne_Store_entries__places, sne_Store_words__places, sne_Store_room__free, sne_Store_entries__free, sne_Store_words__free, sne_Store__places__free, sne_Store_room__fresh, sne_Store_entries__fresh, sne_Store_words__fresh, sne_Store__places__fresh, sne_Store__free__fresh, T.no_NoRoom_need, T.ex_NoRoom_NoNumber, T.ex_NoRoom_SaggarError, T.kit_NoRoom_NoNumber, T.kit_NoRoom_NoRoom, T.no_NoNumber_limit, T.ex_NoNumber_NoNumber, T.ex_NoNumber_SaggarError, T.kit_NoNumber_NoNumber, T.kit_NoNumber_NoRoom, rIsL]
    refine lc_lstI (K := K) (refs bs) (fun i => (bs[i]?.map fun b => b.o.al).getD false) (fun i y => y = (bs[i]?.map fun b => V.int b.o.num).getD .non) (fun R h => ⟨_, rfl, h⟩) (.inl (.inl hp)) (by rw [refs_len]; omega) (fun i x H' R hx sm h => ?_) (fun i x H' R hx _ sm h => ?_) (fun D ys hD hy => ?_)
    · unfold refs at hx
      rw [List.getElem?_map] at hx
      obtain ⟨b, hb, e⟩ := Option.map_eq_some_iff.mp hx
      subst e
      rw [hb] at h
      have := sm _ _ (vw b (List.mem_of_getElem? hb)).1
      unfold rbL at this
      simp (config := { maxSteps := 4000000 }) only [tSeq, tNext, tDrop, tRet, tRetN, tIfS, tAsg, tTest, tAnd, tOr, tNot, tAndV, tOrV, tNotV, tIf, tOp, tUn, tVar, tC, tCB, tCons, tNil, tCall, tPart, tNoPart, tM0, tM1, tTup, tLst, tB, tIsN, tNotN, rI0, rI, rU, rEq, rNe, rAdd, gName, gTup, gCons, gNil, gSub, rSetL, rIxL, rIxT, rIxS, L2.start,
      List.map_cons, List.map_nil, List.cons_append, List.nil_append, List.append_nil, List.length_cons, List.length_nil, List.replicate, List.getElem?_cons_zero, List.getElem?_cons_succ, List.set_cons_zero, List.set_cons_succ, Nat.reduceAdd, Nat.reduceSub, Nat.sub_self, Nat.zero_add,
      Option.some.injEq, V.int.injEq, V.str.injEq, V.bl.injEq, V.ref.injEq, V.ty.injEq, List.cons.injEq, and_true, true_and, exists_eq_left, exists_eq_left', exists_eq_right, exists_and_left, exists_and_right, exists_const, decide_eq_true_eq, decide_eq_false_iff_not, if_true, if_false, reduceIte, Bool.false_eq_true, Bool.not_eq_true', sc_ii, sc_ss, sc_bb, str1, cx_K, lstAt, rIxM, rSetM, rLenM, atI_0, atI_1, atI_2, atI_3, setI_0, setI_1, setI_2, setI_3, upd_same, upd_upd, ite_true, ite_false, exists_eq', eq_self, and_assoc, rIsS, isTy_bb, isTy_bi, isTy_ib, isTy_ii, isTy_ss, isTy_nb, isTy_ni, Bool.not_true, Bool.not_false, not_true_eq_false, not_false_eq_true, tChain, tRz1, tRz2, rIsX, tFx, tMethE, tCallS, tCallZ, tMeth, tMake, tFld, sFld, HO.ins.injEq, HO.lst.injEq, HO.dK.injEq, HO.tup.injEq, dcAt, rDInM, rDGetM, rDSetM, rDLenM, keyOf_int, keyOf_str, rIsBM, plainV_b, plainV_i, plainV_n, plainV_s, rInM, rListM, rSortM, rSumM, rIsD, tBMM, tBM0M, tSl, rSlM, rAppend, rPop, rClear, wAs, reduceCtorEq, false_implies, true_implies, implies_true, forall_const, cxH_K, clsV_ref, clsV_ty, HO.xd.injEq, Value.ref.injEq, lkc, lkn, pfn, pfc, List.map_nil, rExtend, rCat, rRep, tMethE0, rSortD, rPush, rPopH, tDGetM, gAll, iRev, tCB, sDDel, exf_NoRoom T, exf_NoNumber T, sne_Store_room_entries, sne_Store_room_words, sne_Store_entries_words, sne_Store_room__places, sne_Store_entries__places, sne_Store_words__places, sne_Store_room__free, sne_Store_entries__free, sne_Store_words__free, sne_Store__places__free, sne_Store_room__fresh, sne_Store_entries__fresh, sne_Store_words__fresh, sne_Store__places__fresh, sne_Store__free__fresh, T.no_NoRoom_need, T.ex_NoRoom_NoNumber, T.ex_NoRoom_SaggarError, T.kit_NoRoom_NoNumber, T.kit_NoRoom_NoRoom, T.no_NoNumber_limit, T.ex_NoNumber_NoNumber, T.ex_NoNumber_SaggarError, T.kit_NoNumber_NoNumber, T.kit_NoNumber_NoRoom, this, atI_3]
      exact h
    · unfold refs at hx
      rw [List.getElem?_map] at hx
      obtain ⟨b, hb, e⟩ := Option.map_eq_some_iff.mp hx
      subst e
      have := sm _ _ (vw b (List.mem_of_getElem? hb)).1
      unfold rbL at this
      simp (config := { maxSteps := 4000000 }) only [tSeq, tNext, tDrop, tRet, tRetN, tIfS, tAsg, tTest, tAnd, tOr, tNot, tAndV, tOrV, tNotV, tIf, tOp, tUn, tVar, tC, tCB, tCons, tNil, tCall, tPart, tNoPart, tM0, tM1, tTup, tLst, tB, tIsN, tNotN, rI0, rI, rU, rEq, rNe, rAdd, gName, gTup, gCons, gNil, gSub, rSetL, rIxL, rIxT, rIxS, L2.start,
      List.map_cons, List.map_nil, List.cons_append, List.nil_append, List.append_nil, List.length_cons, List.length_nil, List.replicate, List.getElem?_cons_zero, List.getElem?_cons_succ, List.set_cons_zero, List.set_cons_succ, Nat.reduceAdd, Nat.reduceSub, Nat.sub_self, Nat.zero_add,
      Option.some.injEq, V.int.injEq, V.str.injEq, V.bl.injEq, V.ref.injEq, V.ty.injEq, List.cons.injEq, and_true, true_and, exists_eq_left, exists_eq_left', exists_eq_right, exists_and_left, exists_and_right, exists_const, decide_eq_true_eq, decide_eq_false_iff_not, if_true, if_false, reduceIte, Bool.false_eq_true, Bool.not_eq_true', sc_ii, sc_ss, sc_bb, str1, cx_K, lstAt, rIxM, rSetM, rLenM, atI_0, atI_1, atI_2, atI_3, setI_0, setI_1, setI_2, setI_3, upd_same, upd_upd, ite_true, ite_false, exists_eq', eq_self, and_assoc, rIsS, isTy_bb, isTy_bi, isTy_ib, isTy_ii, isTy_ss, isTy_nb, isTy_ni, Bool.not_true, Bool.not_false, not_true_eq_false, not_false_eq_true, tChain, tRz1, tRz2, rIsX, tFx, tMethE, tCallS, tCallZ, tMeth, tMake, tFld, sFld, HO.ins.injEq, HO.lst.injEq, HO.dK.injEq, HO.tup.injEq, dcAt, rDInM, rDGetM, rDSetM, rDLenM, keyOf_int, keyOf_str, rIsBM, plainV_b, plainV_i, plainV_n, plainV_s, rInM, rListM, rSortM, rSumM, rIsD, tBMM, tBM0M, tSl, rSlM, rAppend, rPop, rClear, wAs, reduceCtorEq, false_implies, true_implies, implies_true, forall_const, cxH_K, clsV_ref, clsV_ty, HO.xd.injEq, Value.ref.injEq, lkc, lkn, pfn, pfc, List.map_nil, rExtend, rCat, rRep, tMethE0, rSortD, rPush, rPopH, tDGetM, gAll, iRev, tCB, sDDel, exf_NoRoom T, exf_NoNumber T, sne_Store_room_entries, sne_Store_room_words, sne_Store_entries_words, sne_Store_room__places, sne_Store_entries__places, sne_Store_words__places, sne_Store_room__free, sne_Store_entries__free, sne_Store_words__free, sne_Store__places__free, sne_Store_room__fresh, sne_Store_entries__fresh, sne_Store_words__fresh, sne_Store__places__fresh, sne_Store__free__fresh, T.no_NoRoom_need, T.ex_NoRoom_NoNumber, T.ex_NoRoom_SaggarError, T.kit_NoRoom_NoNumber, T.kit_NoRoom_NoRoom, T.no_NoNumber_limit, T.ex_NoNumber_NoNumber, T.ex_NoNumber_SaggarError, T.kit_NoNumber_NoNumber, T.kit_NoNumber_NoRoom, this, atI_0]
      exact h _ (by rw [hb]; rfl)
    · have e := hy.map
      rw [refs_len, range_pick] at e
      have e2 : ys = (nums (obs bs)).map V.int := by rw [e, nums_obs, List.map_map]; rfl
      subst e2
      have nl : n ≤ bs.length := by
        have := free_least hn
        unfold obs at this
        rw [List.length_map] at this
        exact this
      have nle : n ≤ (nums (obs bs)).length := by
        have := all_below n.toNat (nums (obs bs)) fun m m0 m1 => hn.2.2 m m0 (by have := hn.1; omega)
        have := hn.1
        omega
      have nz : (nums (obs bs)).length ≤ 1000 := by
        have := nums_len (row := obs bs)
        unfold obs at this
        rw [List.length_map] at this
        unfold obs
        omega
      have sm : Same H (upd H D (.lst ((nums (obs bs)).map V.int))) := same_new hD
      have g : upd H D (.lst ((nums (obs bs)).map V.int)) D = some (.lst ((nums (obs bs)).map V.int)) := upd_same
      generalize upd H D (.lst ((nums (obs bs)).map V.int)) = H1 at sm g ⊢
      have n0 := hn.1
      refine for_rng (((nums (obs bs)).length : Int) + 1) (fun R h => ?_) (by omega) (by omega) (fun i σ' H' => ∃ kk n3 : Option V, σ' = [some (V.ref p), some (V.ref D), kk, n3] ∧ H' = H1 ∧ (i : Int) ≤ n) ⟨_, _, rfl, rfl, by omega⟩ ?_ ?_
      · simp (config := { maxSteps := 4000000 }) only [tSeq, tNext, tDrop, tRet, tRetN, tIfS, tAsg, tTest, tAnd, tOr, tNot, tAndV, tOrV, tNotV, tIf, tOp, tUn, tVar, tC, tCB, tCons, tNil, tCall, tPart, tNoPart, tM0, tM1, tTup, tLst, tB, tIsN, tNotN, rI0, rI, rU, rEq, rNe, rAdd, gName, gTup, gCons, gNil, gSub, rSetL, rIxL, rIxT, rIxS, L2.start,
      List.map_cons, List.map_nil, List.cons_append, List.nil_append, List.append_nil, List.length_cons, List.length_nil, List.replicate, List.getElem?_cons_zero, List.getElem?_cons_succ, List.set_cons_zero, List.set_cons_succ, Nat.reduceAdd, Nat.reduceSub, Nat.sub_self, Nat.zero_add,
      Option.some.injEq, V.int.injEq, V.str.injEq, V.bl.injEq, V.ref.injEq, V.ty.injEq, List.cons.injEq, and_true, true_and, exists_eq_left, exists_eq_left', exists_eq_right, exists_and_left, exists_and_right, exists_const, decide_eq_true_eq, decide_eq_false_iff_not, if_true, if_false, reduceIte, Bool.false_eq_true, Bool.not_eq_true', sc_ii, sc_ss, sc_bb, str1, cx_K, lstAt, rIxM, rSetM, rLenM, atI_0, atI_1, atI_2, atI_3, setI_0, setI_1, setI_2, setI_3, upd_same, upd_upd, ite_true, ite_false, exists_eq', eq_self, and_assoc, rIsS, isTy_bb, isTy_bi, isTy_ib, isTy_ii, isTy_ss, isTy_nb, isTy_ni, Bool.not_true, Bool.not_false, not_true_eq_false, not_false_eq_true, tChain, tRz1, tRz2, rIsX, tFx, tMethE, tCallS, tCallZ, tMeth, tMake, tFld, sFld, HO.ins.injEq, HO.lst.injEq, HO.dK.injEq, HO.tup.injEq, dcAt, rDInM, rDGetM, rDSetM, rDLenM, keyOf_int, keyOf_str, rIsBM, plainV_b, plainV_i, plainV_n, plainV_s, rInM, rListM, rSortM, rSumM, rIsD, tBMM, tBM0M, tSl, rSlM, rAppend, rPop, rClear, wAs, reduceCtorEq, false_implies, true_implies, implies_true, forall_const, cxH_K, clsV_ref, clsV_ty, HO.xd.injEq, Value.ref.injEq, lkc, lkn, pfn, pfc, List.map_nil, rExtend, rCat, rRep, tMethE0, rSortD, rPush, rPopH, tDGetM, gAll, iRev, tCB, sDDel, exf_NoRoom T, exf_NoNumber T, sne_Store_room_entries, sne_Store_room_words, sne_Store_entries_words, sne_Store_room__places, sne_Store_entries__places, sne_Store_words__places, sne_Store_room__free, sne_Store_entries__free, sne_Store_words__free, sne_Store__places__free, sne_Store_room__fresh, sne_Store_entries__fresh, sne_Store_words__fresh, sne_Store__places__fresh, sne_Store__free__fresh, T.no_NoRoom_need, T.ex_NoRoom_NoNumber, T.ex_NoRoom_SaggarError, T.kit_NoRoom_NoNumber, T.kit_NoRoom_NoRoom, T.no_NoNumber_limit, T.ex_NoNumber_NoNumber, T.ex_NoNumber_SaggarError, T.kit_NoNumber_NoNumber, T.kit_NoNumber_NoRoom, g, List.length_map]
        exact h
      · rintro i σ' H' hi ⟨kk, n3, rfl, rfl, h⟩
        simp (config := { maxSteps := 4000000 }) only [tSeq, tNext, tDrop, tRet, tRetN, tIfS, tAsg, tTest, tAnd, tOr, tNot, tAndV, tOrV, tNotV, tIf, tOp, tUn, tVar, tC, tCB, tCons, tNil, tCall, tPart, tNoPart, tM0, tM1, tTup, tLst, tB, tIsN, tNotN, rI0, rI, rU, rEq, rNe, rAdd, gName, gTup, gCons, gNil, gSub, rSetL, rIxL, rIxT, rIxS, L2.start,
      List.map_cons, List.map_nil, List.cons_append, List.nil_append, List.append_nil, List.length_cons, List.length_nil, List.replicate, List.getElem?_cons_zero, List.getElem?_cons_succ, List.set_cons_zero, List.set_cons_succ, Nat.reduceAdd, Nat.reduceSub, Nat.sub_self, Nat.zero_add,
      Option.some.injEq, V.int.injEq, V.str.injEq, V.bl.injEq, V.ref.injEq, V.ty.injEq, List.cons.injEq, and_true, true_and, exists_eq_left, exists_eq_left', exists_eq_right, exists_and_left, exists_and_right, exists_const, decide_eq_true_eq, decide_eq_false_iff_not, if_true, if_false, reduceIte, Bool.false_eq_true, Bool.not_eq_true', sc_ii, sc_ss, sc_bb, str1, cx_K, lstAt, rIxM, rSetM, rLenM, atI_0, atI_1, atI_2, atI_3, setI_0, setI_1, setI_2, setI_3, upd_same, upd_upd, ite_true, ite_false, exists_eq', eq_self, and_assoc, rIsS, isTy_bb, isTy_bi, isTy_ib, isTy_ii, isTy_ss, isTy_nb, isTy_ni, Bool.not_true, Bool.not_false, not_true_eq_false, not_false_eq_true, tChain, tRz1, tRz2, rIsX, tFx, tMethE, tCallS, tCallZ, tMeth, tMake, tFld, sFld, HO.ins.injEq, HO.lst.injEq, HO.dK.injEq, HO.tup.injEq, dcAt, rDInM, rDGetM, rDSetM, rDLenM, keyOf_int, keyOf_str, rIsBM, plainV_b, plainV_i, plainV_n, plainV_s, rInM, rListM, rSortM, rSumM, rIsD, tBMM, tBM0M, tSl, rSlM, rAppend, rPop, rClear, wAs, reduceCtorEq, false_implies, true_implies, implies_true, forall_const, cxH_K, clsV_ref, clsV_ty, HO.xd.injEq, Value.ref.injEq, lkc, lkn, pfn, pfc, List.map_nil, rExtend, rCat, rRep, tMethE0, rSortD, rPush, rPopH, tDGetM, gAll, iRev, tCB, sDDel, exf_NoRoom T, exf_NoNumber T, sne_Store_room_entries, sne_Store_room_words, sne_Store_entries_words, sne_Store_room__places, sne_Store_entries__places, sne_Store_words__places, sne_Store_room__free, sne_Store_entries__free, sne_Store_words__free, sne_Store__places__free, sne_Store_room__fresh, sne_Store_entries__fresh, sne_Store_words__fresh, sne_Store__places__fresh, sne_Store__free__fresh, T.no_NoRoom_need, T.ex_NoRoom_NoNumber, T.ex_NoRoom_SaggarError, T.kit_NoRoom_NoNumber, T.kit_NoRoom_NoRoom, T.no_NoNumber_limit, T.ex_NoNumber_NoNumber, T.ex_NoNumber_SaggarError, T.kit_NoNumber_NoNumber, T.kit_NoNumber_NoRoom, g, inV_int]
        refine ⟨rfl, flat_ints _, ?_⟩
        refine ite2 (fun c => ?_) (fun c => ?_)
        · have e : (i : Int) = n := Classical.byContradiction fun e => c (hn.2.2 _ (by omega) (by omega))
          rw [e]
          exact k _ sm
        · have e : (i : Int) ≠ n := fun e => c (fun m => hn.2.1 (e ▸ m))
          show ((i + 1 : Nat) : Int) ≤ n
          omega
      · rintro σ' H' ⟨kk, n3, rfl, rfl, h⟩
        omega
end

def sp_lcopy : Sp := fun vs H Q _ => ∃ (p : Addr) (bs : List RB), vs = [.ref p] ∧ H p = some (.lst (refs bs)) ∧ View H bs ∧ bs.length ≤ 1000 ∧ (∀ b ∈ bs, b.o.sl.length ≤ 100) ∧ ∀ q cs H' D, Same H H' → Fresh H H' D → obs cs = obs bs → Rw D q cs noHp → Q (.ref q) H'
theorem sp_lcopy_len {vs H Q E} (h : sp_lcopy vs H Q E) : vs.length = (["row"] : List Str).length := by
  obtain ⟨_, _, rfl, _⟩ := h
  rfl
section
variable {P : Program} {w : World} {K : PySem.W.Frag} {mg : Str → Option Value} {base : Heap} {A : Ad}
theorem ok__law_copy (T : Txt K mg A) : FnOk P w K mg base CX0 1 A.f__law_copy A.d__law_copy ["row"] (sp_lcopy) := by
  refine Fun.ok T.F__law_copy sc__law_copy (fun vs H Q E h => ?_) (fun cdv Ar outer s H vs Q E hr h => ?_)
  · exact sp_lcopy_len h
  · have hu := hu_of hr
    refine ⟨_, (pss_one (ps_ret (pe_lc (own := [("one", 1)]) (g := gName 1) rfl sc__law_copy.nd (pi_list (pv 0)) (blkOk_by (own := [("one", 1)]) (N := ["row", "one"]) (sc := defScope s__law_copy) (by decide +kernel)) (fun _ _ _ _ _ => pg_name (i := 1) sc__law_copy.nd rfl (Or.inl rfl)) (fun _ _ _ _ _ => pts_nil) (fun _ _ _ _ _ => (pe_lst (pa_cons (pe_ix ix_lstM (pv 1) pe_int (fun _ _ => rfl)) (pa_cons (pe_ix ix_lstM (pv 1) pe_int (fun _ _ => rfl)) (pa_cons (pe_callTy call_listM (by rfl) T.z_list (by decide +kernel) (pa_cons (pe_ix ix_lstM (pv 1) pe_int (fun _ _ => rfl)) pa_nil)) (pa_cons (pe_ix ix_lstM (pv 1) pe_int (fun _ _ => rfl)) pa_nil))))))))), ?_⟩
    obtain ⟨p, bs, rfl, hp, vw, hl, hsl, k⟩ := h
    have sz : (300000 : Nat) ≤ sizeLine := by decide
    simp (config := { maxSteps := 4000000 }) only [tSeq, tNext, tDrop, tRet, tRetN, tIfS, tAsg, tTest, tAnd, tOr, tNot, tAndV, tOrV, tNotV, tIf, tOp, tUn, tVar, tC, tCB, tCons, tNil, tCall, tPart, tNoPart, tM0, tM1, tTup, tLst, tB, tIsN, tNotN, rI0, rI, rU, rEq, rNe, rAdd, gName, gTup, gCons, gNil, gSub, rSetL, rIxL, rIxT, rIxS, L2.start,
      List.map_cons, List.map_nil, List.cons_append, List.nil_append, List.append_nil, List.length_cons, List.length_nil, List.replicate, List.getElem?_cons_zero, List.getElem?_cons_succ, List.set_cons_zero, List.set_cons_succ, Nat.reduceAdd, Nat.reduceSub, Nat.sub_self, Nat.zero_add,
      Option.some.injEq, V.int.injEq, V.str.injEq, V.bl.injEq, V.ref.injEq, V.ty.injEq, List.cons.injEq, and_true, true_and, exists_eq_left, exists_eq_left', exists_eq_right, exists_and_left, exists_and_right, exists_const, decide_eq_true_eq, decide_eq_false_iff_not, if_true, if_false, reduceIte, Bool.false_eq_true, Bool.not_eq_true', sc_ii, sc_ss, sc_bb, str1, cx_K, lstAt, rIxM, rSetM, rLenM, atI_0, atI_1, atI_2, atI_3, setI_0, setI_1, setI_2, setI_3, upd_same, upd_upd, ite_true, ite_false, exists_eq', eq_self, and_assoc, rIsS, isTy_bb, isTy_bi, isTy_ib, isTy_ii, isTy_ss, isTy_nb, isTy_ni, Bool.not_true, Bool.not_false, not_true_eq_false, not_false_eq_true, tChain, tRz1, tRz2, rIsX, tFx, tMethE, tCallS, tCallZ, tMeth, tMake, tFld, sFld, HO.ins.injEq, HO.lst.injEq, HO.dK.injEq, HO.tup.injEq, dcAt, rDInM, rDGetM, rDSetM, rDLenM, keyOf_int, keyOf_str, rIsBM, plainV_b, plainV_i, plainV_n, plainV_s, rInM, rListM, rSortM, rSumM, rIsD, tBMM, tBM0M, tSl, rSlM, rAppend, rPop, rClear, wAs, reduceCtorEq, false_implies, true_implies, implies_true, forall_const, cxH_K, clsV_ref, clsV_ty, HO.xd.injEq, Value.ref.injEq, lkc, lkn, pfn, pfc, List.map_nil, rExtend, rCat, rRep, tMethE0, rSortD, rPush, rPopH, tDGetM, gAll, iRev, tCB, sDDel, exf_NoRoom T, exf_NoNumber T, sne_Store_room_entries, sne_Store_room_words, sne_Store_entries_words, sne_Store_room__places, sne_Store_entries__places, sne_Store_words__places, sne_Store_room__free, sne_Store_entries__free, sne_Store_words__free, sne_Store__places__free, sne_Store_room__fresh, sne_Store_entries__fresh, sne_Store_words__fresh, sne_Store__places__fresh, sne_Store__free__fresh, T.no_NoRoom_need, T.ex_NoRoom_NoNumber, T.ex_NoRoom_SaggarError, T.kit_NoRoom_NoNumber, T.kit_NoRoom_NoRoom, T.no_NoNumber_limit, T.ex_NoNumber_NoNumber, T.ex_NoNumber_SaggarError, T.kit_NoNumber_NoNumber, T.kit_NoNumber_NoRoom, rIsL]
    refine ⟨_, rfl, _, rfl, ⟨_, .inl (.inl hp)⟩, fun q hq => lc_list (K := K) (a := p) (xs := refs bs) (fun i H' => ∃ cs D, Same H H' ∧ Fresh H H' D ∧ obs cs = obs (bs.take i) ∧ Rw D q cs noHp) ⟨[], upd noHp q (.lst []), same_new hq, Fresh.one hq upd_same, rfl, Rw.nil⟩ ?_ ?_ ?_⟩
    · rintro i H' _ ⟨cs, D, sm, _⟩
      exact .inl (.inl (sm _ _ hp))
    · rintro i x H' hx ⟨cs, D, sm, f, oe, R⟩
      unfold refs at hx
      rw [List.getElem?_map] at hx
      obtain ⟨b, hb, e⟩ := Option.map_eq_some_iff.mp hx
      subst e
      have bm := List.mem_of_getElem? hb
      have v1 := sm _ _ (vw b bm).1
      have v2 := sm _ _ (vw b bm).2
      unfold rbL at v1
      refine ⟨rfl, ?_⟩
      have es : List.set (wipe [some (V.ref p), none] [1]) 1 (some (V.ref b.r)) = [some (V.ref p), some (V.ref b.r)] := rfl
      show tYes (List.set (wipe [some (V.ref p), none] [1]) 1 (some (V.ref b.r))) H' _
      rw [es]
      simp only [tYes, if_true]
      simp (config := { maxSteps := 4000000 }) only [tSeq, tNext, tDrop, tRet, tRetN, tIfS, tAsg, tTest, tAnd, tOr, tNot, tAndV, tOrV, tNotV, tIf, tOp, tUn, tVar, tC, tCB, tCons, tNil, tCall, tPart, tNoPart, tM0, tM1, tTup, tLst, tB, tIsN, tNotN, rI0, rI, rU, rEq, rNe, rAdd, gName, gTup, gCons, gNil, gSub, rSetL, rIxL, rIxT, rIxS, L2.start,
      List.map_cons, List.map_nil, List.cons_append, List.nil_append, List.append_nil, List.length_cons, List.length_nil, List.replicate, List.getElem?_cons_zero, List.getElem?_cons_succ, List.set_cons_zero, List.set_cons_succ, Nat.reduceAdd, Nat.reduceSub, Nat.sub_self, Nat.zero_add,
      Option.some.injEq, V.int.injEq, V.str.injEq, V.bl.injEq, V.ref.injEq, V.ty.injEq, List.cons.injEq, and_true, true_and, exists_eq_left, exists_eq_left', exists_eq_right, exists_and_left, exists_and_right, exists_const, decide_eq_true_eq, decide_eq_false_iff_not, if_true, if_false, reduceIte, Bool.false_eq_true, Bool.not_eq_true', sc_ii, sc_ss, sc_bb, str1, cx_K, lstAt, rIxM, rSetM, rLenM, atI_0, atI_1, atI_2, atI_3, setI_0, setI_1, setI_2, setI_3, upd_same, upd_upd, ite_true, ite_false, exists_eq', eq_self, and_assoc, rIsS, isTy_bb, isTy_bi, isTy_ib, isTy_ii, isTy_ss, isTy_nb, isTy_ni, Bool.not_true, Bool.not_false, not_true_eq_false, not_false_eq_true, tChain, tRz1, tRz2, rIsX, tFx, tMethE, tCallS, tCallZ, tMeth, tMake, tFld, sFld, HO.ins.injEq, HO.lst.injEq, HO.dK.injEq, HO.tup.injEq, dcAt, rDInM, rDGetM, rDSetM, rDLenM, keyOf_int, keyOf_str, rIsBM, plainV_b, plainV_i, plainV_n, plainV_s, rInM, rListM, rSortM, rSumM, rIsD, tBMM, tBM0M, tSl, rSlM, rAppend, rPop, rClear, wAs, reduceCtorEq, false_implies, true_implies, implies_true, forall_const, cxH_K, clsV_ref, clsV_ty, HO.xd.injEq, Value.ref.injEq, lkc, lkn, pfn, pfc, List.map_nil, rExtend, rCat, rRep, tMethE0, rSortD, rPush, rPopH, tDGetM, gAll, iRev, tCB, sDDel, exf_NoRoom T, exf_NoNumber T, sne_Store_room_entries, sne_Store_room_words, sne_Store_entries_words, sne_Store_room__places, sne_Store_entries__places, sne_Store_words__places, sne_Store_room__free, sne_Store_entries__free, sne_Store_words__free, sne_Store__places__free, sne_Store_room__fresh, sne_Store_entries__fresh, sne_Store_words__fresh, sne_Store__places__fresh, sne_Store__free__fresh, T.no_NoRoom_need, T.ex_NoRoom_NoNumber, T.ex_NoRoom_SaggarError, T.kit_NoRoom_NoNumber, T.kit_NoRoom_NoRoom, T.no_NoNumber_limit, T.ex_NoNumber_NoNumber, T.ex_NoNumber_SaggarError, T.kit_NoNumber_NoNumber, T.kit_NoNumber_NoRoom, v1, v2, atI_0, atI_1, atI_2, atI_3]
      intro c hc
      have w1 := same_new (o := HO.lst (b.o.sl.map V.int)) hc _ _ v1
      have sm2 := same_trans sm (same_new (o := HO.lst (b.o.sl.map V.int)) hc)
      have f2 := f.new (o := HO.lst (b.o.sl.map V.int)) sm hc
      have g2 : upd H' c (HO.lst (b.o.sl.map V.int)) c = some (.lst (b.o.sl.map V.int)) := upd_same
      have Dc := f.none hc
      generalize upd H' c (HO.lst (b.o.sl.map V.int)) = H2 at w1 sm2 f2 g2 ⊢
      simp (config := { maxSteps := 4000000 }) only [tSeq, tNext, tDrop, tRet, tRetN, tIfS, tAsg, tTest, tAnd, tOr, tNot, tAndV, tOrV, tNotV, tIf, tOp, tUn, tVar, tC, tCB, tCons, tNil, tCall, tPart, tNoPart, tM0, tM1, tTup, tLst, tB, tIsN, tNotN, rI0, rI, rU, rEq, rNe, rAdd, gName, gTup, gCons, gNil, gSub, rSetL, rIxL, rIxT, rIxS, L2.start,
      List.map_cons, List.map_nil, List.cons_append, List.nil_append, List.append_nil, List.length_cons, List.length_nil, List.replicate, List.getElem?_cons_zero, List.getElem?_cons_succ, List.set_cons_zero, List.set_cons_succ, Nat.reduceAdd, Nat.reduceSub, Nat.sub_self, Nat.zero_add,
      Option.some.injEq, V.int.injEq, V.str.injEq, V.bl.injEq, V.ref.injEq, V.ty.injEq, List.cons.injEq, and_true, true_and, exists_eq_left, exists_eq_left', exists_eq_right, exists_and_left, exists_and_right, exists_const, decide_eq_true_eq, decide_eq_false_iff_not, if_true, if_false, reduceIte, Bool.false_eq_true, Bool.not_eq_true', sc_ii, sc_ss, sc_bb, str1, cx_K, lstAt, rIxM, rSetM, rLenM, atI_0, atI_1, atI_2, atI_3, setI_0, setI_1, setI_2, setI_3, upd_same, upd_upd, ite_true, ite_false, exists_eq', eq_self, and_assoc, rIsS, isTy_bb, isTy_bi, isTy_ib, isTy_ii, isTy_ss, isTy_nb, isTy_ni, Bool.not_true, Bool.not_false, not_true_eq_false, not_false_eq_true, tChain, tRz1, tRz2, rIsX, tFx, tMethE, tCallS, tCallZ, tMeth, tMake, tFld, sFld, HO.ins.injEq, HO.lst.injEq, HO.dK.injEq, HO.tup.injEq, dcAt, rDInM, rDGetM, rDSetM, rDLenM, keyOf_int, keyOf_str, rIsBM, plainV_b, plainV_i, plainV_n, plainV_s, rInM, rListM, rSortM, rSumM, rIsD, tBMM, tBM0M, tSl, rSlM, rAppend, rPop, rClear, wAs, reduceCtorEq, false_implies, true_implies, implies_true, forall_const, cxH_K, clsV_ref, clsV_ty, HO.xd.injEq, Value.ref.injEq, lkc, lkn, pfn, pfc, List.map_nil, rExtend, rCat, rRep, tMethE0, rSortD, rPush, rPopH, tDGetM, gAll, iRev, tCB, sDDel, exf_NoRoom T, exf_NoNumber T, sne_Store_room_entries, sne_Store_room_words, sne_Store_entries_words, sne_Store_room__places, sne_Store_entries__places, sne_Store_words__places, sne_Store_room__free, sne_Store_entries__free, sne_Store_words__free, sne_Store__places__free, sne_Store_room__fresh, sne_Store_entries__fresh, sne_Store_words__fresh, sne_Store__places__fresh, sne_Store__free__fresh, T.no_NoRoom_need, T.ex_NoRoom_NoNumber, T.ex_NoRoom_SaggarError, T.kit_NoRoom_NoNumber, T.kit_NoRoom_NoRoom, T.no_NoNumber_limit, T.ex_NoNumber_NoNumber, T.ex_NoNumber_SaggarError, T.kit_NoNumber_NoNumber, T.kit_NoNumber_NoRoom, w1, atI_0, atI_1, atI_2, atI_3]
      refine ⟨by omega, fun r hr => ?_⟩
      have ne : r ≠ c := Ne.symm (ne_of_none g2 hr)
      have f3 := f2.new (o := HO.lst [V.int b.o.num, V.int b.o.kind, V.ref c, V.bl b.o.al]) sm2 hr
      have sm3 := same_trans sm2 (same_new (o := HO.lst [V.int b.o.num, V.int b.o.kind, V.ref c, V.bl b.o.al]) hr)
      have Dr : D r = none := by
        have := f2.none hr
        rw [upd_ne ne] at this
        exact this
      have R3 := R.push (o := b.o) Dc Dr ne
      have n1 : q ≠ c := ne_of_none R.lst Dc
      have n2 : q ≠ r := ne_of_none R.lst Dr
      have g3 : upd (upd D c (HO.lst (b.o.sl.map V.int))) r (HO.lst [V.int b.o.num, V.int b.o.kind, V.ref c, V.bl b.o.al]) q = some (.lst (refs cs)) := by
        rw [upd_ne n2, upd_ne n1]
        exact R.lst
      have l3 := (f3 _ _ g3).2
      have cl : cs.length ≤ i := by
        have e1 := congrArg List.length oe
        unfold obs at e1
        rw [List.length_map, List.length_map, List.length_take] at e1
        omega
      have il := (List.getElem?_eq_some_iff.mp hb).1
      refine ⟨_, l3, by rw [refs_len]; omega, ?_, cs ++ [⟨r, c, b.o⟩], upd (upd (upd D c (.lst (b.o.sl.map V.int))) r (rbL ⟨r, c, b.o⟩)) q (.lst (refs cs ++ [.ref r])), f3.set g3, ?_, R3⟩
      · intro a u ha
        have : a ≠ q := ne_of_none ha hq
        rw [upd_ne this]
        exact sm3 _ _ ha
      · rw [List.take_add_one, hb]
        unfold obs at oe ⊢
        rw [List.map_append, List.map_append, oe]
        rfl
    · rintro H' ⟨cs, D, sm, f, oe, R⟩
      rw [refs_len, List.take_length] at oe
      exact k q cs H' D sm f oe R
end

def sp_lallo (A : Ad) : Sp := fun vs H Q _ => ∃ (s rl lm : Addr) (rm en kd : Int) (m : Nat) (bs : List RB) (G : Hp), vs = [.ref s, .ref rl, .ref lm, .int kd, .int (m : Int)] ∧ Lx A H s rl rm en (obs bs) bs G ∧ G lm = some (.tup [.int rm, .int en]) ∧ bs.length ≤ 200 ∧ (∀ b ∈ bs, b.o.sl.length ≤ 79) ∧ m ≤ 79 ∧
  ∀ H' bs', Lx A H' s rl rm en (obs bs') bs' G → bs'.length ≤ bs.length + 1 → (∀ b ∈ bs', b.o.sl.length ≤ 79) → Q (.bl true) H'
theorem sp_lallo_len {A vs H Q E} (h : sp_lallo A vs H Q E) : vs.length = (["store", "row", "limits", "kind", "size"] : List Str).length := by
  obtain ⟨_, _, _, _, _, _, _, _, _, rfl, _⟩ := h
  rfl
section
variable {P : Program} {w : World} {K : PySem.W.Frag} {mg : Str → Option Value} {base : Heap} {A : Ad}
theorem ok__law_allocated (T : Txt K mg A) : FnOk P w K mg base CX0 5 A.f__law_allocated A.d__law_allocated ["store", "row", "limits", "kind", "size"] (sp_lallo A) := by
  refine Fun.ok T.F__law_allocated sc__law_allocated (fun vs H Q E h => ?_) (fun cdv Ar outer s H vs Q E hr h => ?_)
  · exact sp_lallo_len h
  · have hu := hu_of hr
    refine ⟨_, (pss_cons (ps_asg (pe_call (ok__law_free T) (hr.mono (by decide)) (by rfl) T.g__law_free T.k__law_free T.b__law_free .nil pass0 (pa_cons (pv 1) pa_nil)) (pg_name (i := 5) sc__law_allocated.nd rfl (Or.inl rfl)))
    (pss_cons (ps_asg (pe_op op_add pe_int (pv 4)) (pg_name (i := 6) sc__law_allocated.nd rfl (Or.inl rfl)))
    (pss_cons (ps_asg (pe_tup (pa_cons pe_str (pa_cons (pv 5) pa_nil))) (pg_name (i := 7) sc__law_allocated.nd rfl (Or.inl rfl)))
    (Evl.pss_cut (ps_if (pt_cmpR op_gt (pe_op op_add (pe_callB call_lenM (by rfl) T.z_len PySem.boot_len (pa_cons (pe_call (ok__law_flat T) (hr.mono (by decide)) (by rfl) T.g__law_flat T.k__law_flat T.b__law_flat .nil pass0 (pa_cons (pv 1) pa_nil)) pa_nil)) (pv 6)) (pe_ix ix_tup (pv 2) pe_int (fun _ _ => rfl)) (nomark _)) (pss_one (ps_asg (pe_tup (pa_cons pe_str (pa_cons (pv 6) pa_nil))) (pg_name (i := 7) sc__law_allocated.nd rfl (Or.inl rfl)))) (pss_one (ps_if (pt_cmpR op_ge (pv 5) (pe_ix ix_tup (pv 2) pe_int (fun _ _ => rfl)) (nomark _)) (pss_one (ps_asg (pe_tup (pa_cons pe_str (pa_cons (pe_ix ix_tup (pv 2) pe_int (fun _ _ => rfl)) pa_nil))) (pg_name (i := 7) sc__law_allocated.nd rfl (Or.inl rfl)))) pss_nil)))
    (pss_cons (L2N.ps_try_as (i := 9) rfl rfl sc__law_allocated.nd rfl rfl ⟨rfl, by decide, Or.inl T.m_SaggarError⟩ takesN (fun W pn xe tk _ => (pss_one (ps_asg (pe_tup (pa_cons pe_str (pa_cons (pe_methE (pv 0) T.cl_Store T.me_Store_allocate (ok_Store_allocate T) (hr.mono (by decide)) T.b_Store_allocate (fun σ => L2N.passAt tk σ) (pa_cons (pv 3) (pa_cons (pv 4) pa_nil))) pa_nil))) (pg_name (i := 8) sc__law_allocated.nd rfl (Or.inl rfl)))))
      (fun a oe cls d pn hz hf => (pss_one (ps_if (pt_val (pe_callB (call_isXs hz hf) (by rfl) T.z_isinstance (by decide +kernel) (pa_cons (pv 9) (pa_cons (pe_glob (v := .ref A.C_NoRoom) (by rfl) T.m_NoRoom rfl) pa_nil)))) (pss_one (ps_asg (pe_tup (pa_cons pe_str (pa_cons (pe_fxs hz hf (pv 9)) pa_nil))) (pg_name (i := 8) sc__law_allocated.nd rfl (Or.inl rfl)))) (pss_one (ps_if (pt_val (pe_callB (call_isXs hz hf) (by rfl) T.z_isinstance (by decide +kernel) (pa_cons (pv 9) (pa_cons (pe_glob (v := .ref A.C_NoNumber) (by rfl) T.m_NoNumber rfl) pa_nil)))) (pss_one (ps_asg (pe_tup (pa_cons pe_str (pa_cons (pe_fxs hz hf (pv 9)) pa_nil))) (pg_name (i := 8) sc__law_allocated.nd rfl (Or.inl rfl)))) (pss_one (ps_ret pe_bl))))))))
    (Evl.pss_cut (ps_if (pt_cmpR op_eq (pe_ix ix_tup (pv 7) pe_int (fun _ _ => rfl)) pe_str (nomark _)) (pss_one (ps_expr (pe_bmM PySem.F.slot_list_append PySem.F.type_list_append mt_append (pv 1) (pa_cons (pe_lst (pa_cons (pv 5) (pa_cons (pv 3) (pa_cons (pe_op op_rep (pe_lst (pa_cons pe_int pa_nil)) (pv 4)) (pa_cons pe_bl pa_nil))))) pa_nil)))) pss_nil)
    (pss_one (ps_ret (pe_and (pe_cmpR op_eq (pe_ix ix_tup (pv 8) pe_int (fun _ _ => rfl)) (pe_ix ix_tup (pv 7) pe_int (fun _ _ => rfl)) (nomark _)) (pe_one (pe_call (ok__law_is T) (hr.mono (by decide)) (by rfl) T.g__law_is T.k__law_is T.b__law_is .nil pass0 (pa_cons (pe_ix ix_tup (pv 8) pe_int (fun _ _ => rfl)) (pa_cons (pe_ix ix_tup (pv 7) pe_int (fun _ _ => rfl)) pa_nil))))))))))))), ?_⟩
    obtain ⟨s, rl, lm, rm, en, kd, m, bs, G, rfl, L, hG, hn, hsl, hm, k⟩ := h
    have fl := obs_flat79 hsl
    have hl := L.lst
    have sz : (300000 : Nat) ≤ sizeLine := by decide
    obtain ⟨n, hfr⟩ := L.free
    simp (config := { maxSteps := 4000000 }) only [tSeq, tNext, tDrop, tRet, tRetN, tIfS, tAsg, tTest, tAnd, tOr, tNot, tAndV, tOrV, tNotV, tIf, tOp, tUn, tVar, tC, tCB, tCons, tNil, tCall, tPart, tNoPart, tM0, tM1, tTup, tLst, tB, tIsN, tNotN, rI0, rI, rU, rEq, rNe, rAdd, gName, gTup, gCons, gNil, gSub, rSetL, rIxL, rIxT, rIxS, L2.start,
      List.map_cons, List.map_nil, List.cons_append, List.nil_append, List.append_nil, List.length_cons, List.length_nil, List.replicate, List.getElem?_cons_zero, List.getElem?_cons_succ, List.set_cons_zero, List.set_cons_succ, Nat.reduceAdd, Nat.reduceSub, Nat.sub_self, Nat.zero_add,
      Option.some.injEq, V.int.injEq, V.str.injEq, V.bl.injEq, V.ref.injEq, V.ty.injEq, List.cons.injEq, and_true, true_and, exists_eq_left, exists_eq_left', exists_eq_right, exists_and_left, exists_and_right, exists_const, decide_eq_true_eq, decide_eq_false_iff_not, if_true, if_false, reduceIte, Bool.false_eq_true, Bool.not_eq_true', sc_ii, sc_ss, sc_bb, str1, cx_K, lstAt, rIxM, rSetM, rLenM, atI_0, atI_1, atI_2, atI_3, setI_0, setI_1, setI_2, setI_3, upd_same, upd_upd, ite_true, ite_false, exists_eq', eq_self, and_assoc, rIsS, isTy_bb, isTy_bi, isTy_ib, isTy_ii, isTy_ss, isTy_nb, isTy_ni, Bool.not_true, Bool.not_false, not_true_eq_false, not_false_eq_true, tChain, tRz1, tRz2, rIsX, tFx, tMethE, tCallS, tCallZ, tMeth, tMake, tFld, sFld, HO.ins.injEq, HO.lst.injEq, HO.dK.injEq, HO.tup.injEq, dcAt, rDInM, rDGetM, rDSetM, rDLenM, keyOf_int, keyOf_str, rIsBM, plainV_b, plainV_i, plainV_n, plainV_s, rInM, rListM, rSortM, rSumM, rIsD, tBMM, tBM0M, tSl, rSlM, rAppend, rPop, rClear, wAs, reduceCtorEq, false_implies, true_implies, implies_true, forall_const, cxH_K, clsV_ref, clsV_ty, HO.xd.injEq, Value.ref.injEq, lkc, lkn, pfn, pfc, List.map_nil, rExtend, rCat, rRep, tMethE0, rSortD, rPush, rPopH, tDGetM, gAll, iRev, tCB, sDDel, exf_NoRoom T, exf_NoNumber T, sne_Store_room_entries, sne_Store_room_words, sne_Store_entries_words, sne_Store_room__places, sne_Store_entries__places, sne_Store_words__places, sne_Store_room__free, sne_Store_entries__free, sne_Store_words__free, sne_Store__places__free, sne_Store_room__fresh, sne_Store_entries__fresh, sne_Store_words__fresh, sne_Store__places__fresh, sne_Store__free__fresh, T.no_NoRoom_need, T.ex_NoRoom_NoNumber, T.ex_NoRoom_SaggarError, T.kit_NoRoom_NoNumber, T.kit_NoRoom_NoRoom, T.no_NoNumber_limit, T.ex_NoNumber_NoNumber, T.ex_NoNumber_SaggarError, T.kit_NoNumber_NoNumber, T.kit_NoNumber_NoRoom, rIsL]
    refine ⟨rl, bs, rfl, hl, L.view, by omega, n, hfr, fun H1 sm1 => ?_⟩
    have L1 := L.same sm1
    simp (config := { maxSteps := 4000000 }) only [tSeq, tNext, tDrop, tRet, tRetN, tIfS, tAsg, tTest, tAnd, tOr, tNot, tAndV, tOrV, tNotV, tIf, tOp, tUn, tVar, tC, tCB, tCons, tNil, tCall, tPart, tNoPart, tM0, tM1, tTup, tLst, tB, tIsN, tNotN, rI0, rI, rU, rEq, rNe, rAdd, gName, gTup, gCons, gNil, gSub, rSetL, rIxL, rIxT, rIxS, L2.start,
      List.map_cons, List.map_nil, List.cons_append, List.nil_append, List.append_nil, List.length_cons, List.length_nil, List.replicate, List.getElem?_cons_zero, List.getElem?_cons_succ, List.set_cons_zero, List.set_cons_succ, Nat.reduceAdd, Nat.reduceSub, Nat.sub_self, Nat.zero_add,
      Option.some.injEq, V.int.injEq, V.str.injEq, V.bl.injEq, V.ref.injEq, V.ty.injEq, List.cons.injEq, and_true, true_and, exists_eq_left, exists_eq_left', exists_eq_right, exists_and_left, exists_and_right, exists_const, decide_eq_true_eq, decide_eq_false_iff_not, if_true, if_false, reduceIte, Bool.false_eq_true, Bool.not_eq_true', sc_ii, sc_ss, sc_bb, str1, cx_K, lstAt, rIxM, rSetM, rLenM, atI_0, atI_1, atI_2, atI_3, setI_0, setI_1, setI_2, setI_3, upd_same, upd_upd, ite_true, ite_false, exists_eq', eq_self, and_assoc, rIsS, isTy_bb, isTy_bi, isTy_ib, isTy_ii, isTy_ss, isTy_nb, isTy_ni, Bool.not_true, Bool.not_false, not_true_eq_false, not_false_eq_true, tChain, tRz1, tRz2, rIsX, tFx, tMethE, tCallS, tCallZ, tMeth, tMake, tFld, sFld, HO.ins.injEq, HO.lst.injEq, HO.dK.injEq, HO.tup.injEq, dcAt, rDInM, rDGetM, rDSetM, rDLenM, keyOf_int, keyOf_str, rIsBM, plainV_b, plainV_i, plainV_n, plainV_s, rInM, rListM, rSortM, rSumM, rIsD, tBMM, tBM0M, tSl, rSlM, rAppend, rPop, rClear, wAs, reduceCtorEq, false_implies, true_implies, implies_true, forall_const, cxH_K, clsV_ref, clsV_ty, HO.xd.injEq, Value.ref.injEq, lkc, lkn, pfn, pfc, List.map_nil, rExtend, rCat, rRep, tMethE0, rSortD, rPush, rPopH, tDGetM, gAll, iRev, tCB, sDDel, exf_NoRoom T, exf_NoNumber T, sne_Store_room_entries, sne_Store_room_words, sne_Store_entries_words, sne_Store_room__places, sne_Store_entries__places, sne_Store_words__places, sne_Store_room__free, sne_Store_entries__free, sne_Store_words__free, sne_Store__places__free, sne_Store_room__fresh, sne_Store_entries__fresh, sne_Store_words__fresh, sne_Store__places__fresh, sne_Store__free__fresh, T.no_NoRoom_need, T.ex_NoRoom_NoNumber, T.ex_NoRoom_SaggarError, T.kit_NoRoom_NoNumber, T.kit_NoRoom_NoRoom, T.no_NoNumber_limit, T.ex_NoNumber_NoNumber, T.ex_NoNumber_SaggarError, T.kit_NoNumber_NoNumber, T.kit_NoNumber_NoRoom, rIsL]
    refine ⟨by decide, fun T1 hT1 => ?_⟩
    have G1 : upd G T1 (HO.tup [V.str "number", V.int n]) T1 = some (.tup [V.str "number", V.int n]) := upd_same
    have sG : Same G (upd G T1 (HO.tup [V.str "number", V.int n])) := same_new (L1.out hT1)
    have La := L1.new (o := HO.tup [V.str "number", V.int n]) hT1
    generalize upd G T1 (HO.tup [V.str "number", V.int n]) = Ga at G1 sG La
    have lG := sG _ _ hG
    generalize upd H1 T1 (HO.tup [V.str (Str.ofString "number"), V.int n]) = Ha at La ⊢
    clear L1 sm1 hT1 hl
    refine ⟨fun σ2 H2 => ∃ (T2 : Addr) (t : Str) (z : Int) (G2 : Hp), σ2 = [some (V.ref s), some (V.ref rl), some (V.ref lm), some (V.int kd), some (V.int m), some (V.int n), some (V.int (3 + m)), some (V.ref T2), none, none] ∧ Same G G2 ∧ G2 T2 = some (.tup [.str t, .int z]) ∧ Lx A H2 s rl rm en (obs bs) bs G2 ∧
      ((t = "room" ∧ z = 3 + (m : Int) ∧ rm < ((flat (obs bs)).length : Int) + (3 + (m : Int))) ∨ (t = "none" ∧ z = en ∧ ((flat (obs bs)).length : Int) + (3 + (m : Int)) ≤ rm ∧ en ≤ n) ∨ (t = "number" ∧ z = n ∧ ((flat (obs bs)).length : Int) + (3 + (m : Int)) ≤ rm ∧ n < en)), ?_, ?_⟩
    · simp (config := { maxSteps := 4000000 }) only [tSeq, tNext, tDrop, tRet, tRetN, tIfS, tAsg, tTest, tAnd, tOr, tNot, tAndV, tOrV, tNotV, tIf, tOp, tUn, tVar, tC, tCB, tCons, tNil, tCall, tPart, tNoPart, tM0, tM1, tTup, tLst, tB, tIsN, tNotN, rI0, rI, rU, rEq, rNe, rAdd, gName, gTup, gCons, gNil, gSub, rSetL, rIxL, rIxT, rIxS, L2.start,
      List.map_cons, List.map_nil, List.cons_append, List.nil_append, List.append_nil, List.length_cons, List.length_nil, List.replicate, List.getElem?_cons_zero, List.getElem?_cons_succ, List.set_cons_zero, List.set_cons_succ, Nat.reduceAdd, Nat.reduceSub, Nat.sub_self, Nat.zero_add,
      Option.some.injEq, V.int.injEq, V.str.injEq, V.bl.injEq, V.ref.injEq, V.ty.injEq, List.cons.injEq, and_true, true_and, exists_eq_left, exists_eq_left', exists_eq_right, exists_and_left, exists_and_right, exists_const, decide_eq_true_eq, decide_eq_false_iff_not, if_true, if_false, reduceIte, Bool.false_eq_true, Bool.not_eq_true', sc_ii, sc_ss, sc_bb, str1, cx_K, lstAt, rIxM, rSetM, rLenM, atI_0, atI_1, atI_2, atI_3, setI_0, setI_1, setI_2, setI_3, upd_same, upd_upd, ite_true, ite_false, exists_eq', eq_self, and_assoc, rIsS, isTy_bb, isTy_bi, isTy_ib, isTy_ii, isTy_ss, isTy_nb, isTy_ni, Bool.not_true, Bool.not_false, not_true_eq_false, not_false_eq_true, tChain, tRz1, tRz2, rIsX, tFx, tMethE, tCallS, tCallZ, tMeth, tMake, tFld, sFld, HO.ins.injEq, HO.lst.injEq, HO.dK.injEq, HO.tup.injEq, dcAt, rDInM, rDGetM, rDSetM, rDLenM, keyOf_int, keyOf_str, rIsBM, plainV_b, plainV_i, plainV_n, plainV_s, rInM, rListM, rSortM, rSumM, rIsD, tBMM, tBM0M, tSl, rSlM, rAppend, rPop, rClear, wAs, reduceCtorEq, false_implies, true_implies, implies_true, forall_const, cxH_K, clsV_ref, clsV_ty, HO.xd.injEq, Value.ref.injEq, lkc, lkn, pfn, pfc, List.map_nil, rExtend, rCat, rRep, tMethE0, rSortD, rPush, rPopH, tDGetM, gAll, iRev, tCB, sDDel, exf_NoRoom T, exf_NoNumber T, sne_Store_room_entries, sne_Store_room_words, sne_Store_entries_words, sne_Store_room__places, sne_Store_entries__places, sne_Store_words__places, sne_Store_room__free, sne_Store_entries__free, sne_Store_words__free, sne_Store__places__free, sne_Store_room__fresh, sne_Store_entries__fresh, sne_Store_words__fresh, sne_Store__places__fresh, sne_Store__free__fresh, T.no_NoRoom_need, T.ex_NoRoom_NoNumber, T.ex_NoRoom_SaggarError, T.kit_NoRoom_NoNumber, T.kit_NoRoom_NoRoom, T.no_NoNumber_limit, T.ex_NoNumber_NoNumber, T.ex_NoNumber_SaggarError, T.kit_NoNumber_NoNumber, T.kit_NoNumber_NoRoom, rIsL]
      refine ⟨rl, bs, rfl, La.lst, La.view, by omega, fun q H3 sm hq gq => ?_⟩
      have Lb := La.same sm
      have lm3 := Lb.get lG
      simp (config := { maxSteps := 4000000 }) only [tSeq, tNext, tDrop, tRet, tRetN, tIfS, tAsg, tTest, tAnd, tOr, tNot, tAndV, tOrV, tNotV, tIf, tOp, tUn, tVar, tC, tCB, tCons, tNil, tCall, tPart, tNoPart, tM0, tM1, tTup, tLst, tB, tIsN, tNotN, rI0, rI, rU, rEq, rNe, rAdd, gName, gTup, gCons, gNil, gSub, rSetL, rIxL, rIxT, rIxS, L2.start,
      List.map_cons, List.map_nil, List.cons_append, List.nil_append, List.append_nil, List.length_cons, List.length_nil, List.replicate, List.getElem?_cons_zero, List.getElem?_cons_succ, List.set_cons_zero, List.set_cons_succ, Nat.reduceAdd, Nat.reduceSub, Nat.sub_self, Nat.zero_add,
      Option.some.injEq, V.int.injEq, V.str.injEq, V.bl.injEq, V.ref.injEq, V.ty.injEq, List.cons.injEq, and_true, true_and, exists_eq_left, exists_eq_left', exists_eq_right, exists_and_left, exists_and_right, exists_const, decide_eq_true_eq, decide_eq_false_iff_not, if_true, if_false, reduceIte, Bool.false_eq_true, Bool.not_eq_true', sc_ii, sc_ss, sc_bb, str1, cx_K, lstAt, rIxM, rSetM, rLenM, atI_0, atI_1, atI_2, atI_3, setI_0, setI_1, setI_2, setI_3, upd_same, upd_upd, ite_true, ite_false, exists_eq', eq_self, and_assoc, rIsS, isTy_bb, isTy_bi, isTy_ib, isTy_ii, isTy_ss, isTy_nb, isTy_ni, Bool.not_true, Bool.not_false, not_true_eq_false, not_false_eq_true, tChain, tRz1, tRz2, rIsX, tFx, tMethE, tCallS, tCallZ, tMeth, tMake, tFld, sFld, HO.ins.injEq, HO.lst.injEq, HO.dK.injEq, HO.tup.injEq, dcAt, rDInM, rDGetM, rDSetM, rDLenM, keyOf_int, keyOf_str, rIsBM, plainV_b, plainV_i, plainV_n, plainV_s, rInM, rListM, rSortM, rSumM, rIsD, tBMM, tBM0M, tSl, rSlM, rAppend, rPop, rClear, wAs, reduceCtorEq, false_implies, true_implies, implies_true, forall_const, cxH_K, clsV_ref, clsV_ty, HO.xd.injEq, Value.ref.injEq, lkc, lkn, pfn, pfc, List.map_nil, rExtend, rCat, rRep, tMethE0, rSortD, rPush, rPopH, tDGetM, gAll, iRev, tCB, sDDel, exf_NoRoom T, exf_NoNumber T, sne_Store_room_entries, sne_Store_room_words, sne_Store_entries_words, sne_Store_room__places, sne_Store_entries__places, sne_Store_words__places, sne_Store_room__free, sne_Store_entries__free, sne_Store_words__free, sne_Store__places__free, sne_Store_room__fresh, sne_Store_entries__fresh, sne_Store_words__fresh, sne_Store__places__fresh, sne_Store__free__fresh, T.no_NoRoom_need, T.ex_NoRoom_NoNumber, T.ex_NoRoom_SaggarError, T.kit_NoRoom_NoNumber, T.kit_NoRoom_NoRoom, T.no_NoNumber_limit, T.ex_NoNumber_NoNumber, T.ex_NoNumber_SaggarError, T.kit_NoNumber_NoNumber, T.kit_NoNumber_NoRoom, gq, lm3, List.length_map]
      refine ⟨_, .inl (.inl lm3), _, rfl, _, rfl, ite2 (fun c => ⟨by decide, fun p hp => ⟨"room", _, _, same_trans sG (same_new (Lb.out hp)), upd_same, Lb.new hp, .inl ⟨rfl, rfl, c⟩⟩⟩) (fun c => ⟨_, .inl (.inl lm3), _, rfl, _, rfl, ite2 (fun c2 => ⟨_, .inl (.inl lm3), _, rfl, by decide, fun p hp => ⟨"none", _, _, same_trans sG (same_new (Lb.out hp)), upd_same, Lb.new hp, .inr (.inl ⟨rfl, rfl, by omega, c2⟩)⟩⟩) (fun c2 => ⟨"number", _, _, sG, G1, Lb, .inr (.inr ⟨rfl, rfl, by omega, by omega⟩)⟩)⟩)⟩
    · rintro σ2 H2 ⟨T2, t, z, G2, rfl, sG2, gT, Lb, alt⟩
      obtain ⟨dx, w, d, f, fs, ho⟩ := Lb.ho
      have nd := Lb.nodup
      have Lb0 := Lb
      obtain ⟨F, S, R⟩ := Lb
      simp (config := { maxSteps := 4000000 }) only [tSeq, tNext, tDrop, tRet, tRetN, tIfS, tAsg, tTest, tAnd, tOr, tNot, tAndV, tOrV, tNotV, tIf, tOp, tUn, tVar, tC, tCB, tCons, tNil, tCall, tPart, tNoPart, tM0, tM1, tTup, tLst, tB, tIsN, tNotN, rI0, rI, rU, rEq, rNe, rAdd, gName, gTup, gCons, gNil, gSub, rSetL, rIxL, rIxT, rIxS, L2.start,
      List.map_cons, List.map_nil, List.cons_append, List.nil_append, List.append_nil, List.length_cons, List.length_nil, List.replicate, List.getElem?_cons_zero, List.getElem?_cons_succ, List.set_cons_zero, List.set_cons_succ, Nat.reduceAdd, Nat.reduceSub, Nat.sub_self, Nat.zero_add,
      Option.some.injEq, V.int.injEq, V.str.injEq, V.bl.injEq, V.ref.injEq, V.ty.injEq, List.cons.injEq, and_true, true_and, exists_eq_left, exists_eq_left', exists_eq_right, exists_and_left, exists_and_right, exists_const, decide_eq_true_eq, decide_eq_false_iff_not, if_true, if_false, reduceIte, Bool.false_eq_true, Bool.not_eq_true', sc_ii, sc_ss, sc_bb, str1, cx_K, lstAt, rIxM, rSetM, rLenM, atI_0, atI_1, atI_2, atI_3, setI_0, setI_1, setI_2, setI_3, upd_same, upd_upd, ite_true, ite_false, exists_eq', eq_self, and_assoc, rIsS, isTy_bb, isTy_bi, isTy_ib, isTy_ii, isTy_ss, isTy_nb, isTy_ni, Bool.not_true, Bool.not_false, not_true_eq_false, not_false_eq_true, tChain, tRz1, tRz2, rIsX, tFx, tMethE, tCallS, tCallZ, tMeth, tMake, tFld, sFld, HO.ins.injEq, HO.lst.injEq, HO.dK.injEq, HO.tup.injEq, dcAt, rDInM, rDGetM, rDSetM, rDLenM, keyOf_int, keyOf_str, rIsBM, plainV_b, plainV_i, plainV_n, plainV_s, rInM, rListM, rSortM, rSumM, rIsD, tBMM, tBM0M, tSl, rSlM, rAppend, rPop, rClear, wAs, reduceCtorEq, false_implies, true_implies, implies_true, forall_const, cxH_K, clsV_ref, clsV_ty, HO.xd.injEq, Value.ref.injEq, lkc, lkn, pfn, pfc, List.map_nil, rExtend, rCat, rRep, tMethE0, rSortD, rPush, rPopH, tDGetM, gAll, iRev, tCB, sDDel, exf_NoRoom T, exf_NoNumber T, sne_Store_room_entries, sne_Store_room_words, sne_Store_entries_words, sne_Store_room__places, sne_Store_entries__places, sne_Store_words__places, sne_Store_room__free, sne_Store_entries__free, sne_Store_words__free, sne_Store__places__free, sne_Store_room__fresh, sne_Store_entries__fresh, sne_Store_words__fresh, sne_Store__places__fresh, sne_Store__free__fresh, T.no_NoRoom_need, T.ex_NoRoom_NoNumber, T.ex_NoRoom_SaggarError, T.kit_NoRoom_NoNumber, T.kit_NoRoom_NoRoom, T.no_NoNumber_limit, T.ex_NoNumber_NoNumber, T.ex_NoNumber_SaggarError, T.kit_NoNumber_NoNumber, T.kit_NoNumber_NoRoom, ho, T.cl_Store, T.no_Store_room, T.no_Store_entries, T.no_Store_words, T.no_Store__places, T.no_Store__free, T.no_Store__fresh, stF_room, stF_entries, stF_words, stF_places, stF_free, stF_fresh, stF_mused, stF_mexists, stF_mnumbers, stF_mfree, stF_malloc, stF_msize, stF_mkind, stF_mskind, stF_mget, stF_mput, stF_mslots, stF_mdrop, stF_mclose, stF_msnap, stF_mrest, stF_mexch, stF_len, stF_pf, stF_pd, stF_pl]
      refine ⟨s, rm, en, obs bs, F, kd, m, rfl, S, by omega, fun c dd hdd => ?_, fun c n' hn' => ?_⟩
      · simp (config := { maxSteps := 4000000 }) only [tSeq, tNext, tDrop, tRet, tRetN, tIfS, tAsg, tTest, tAnd, tOr, tNot, tAndV, tOrV, tNotV, tIf, tOp, tUn, tVar, tC, tCB, tCons, tNil, tCall, tPart, tNoPart, tM0, tM1, tTup, tLst, tB, tIsN, tNotN, rI0, rI, rU, rEq, rNe, rAdd, gName, gTup, gCons, gNil, gSub, rSetL, rIxL, rIxT, rIxS, L2.start,
      List.map_cons, List.map_nil, List.cons_append, List.nil_append, List.append_nil, List.length_cons, List.length_nil, List.replicate, List.getElem?_cons_zero, List.getElem?_cons_succ, List.set_cons_zero, List.set_cons_succ, Nat.reduceAdd, Nat.reduceSub, Nat.sub_self, Nat.zero_add,
      Option.some.injEq, V.int.injEq, V.str.injEq, V.bl.injEq, V.ref.injEq, V.ty.injEq, List.cons.injEq, and_true, true_and, exists_eq_left, exists_eq_left', exists_eq_right, exists_and_left, exists_and_right, exists_const, decide_eq_true_eq, decide_eq_false_iff_not, if_true, if_false, reduceIte, Bool.false_eq_true, Bool.not_eq_true', sc_ii, sc_ss, sc_bb, str1, cx_K, lstAt, rIxM, rSetM, rLenM, atI_0, atI_1, atI_2, atI_3, setI_0, setI_1, setI_2, setI_3, upd_same, upd_upd, ite_true, ite_false, exists_eq', eq_self, and_assoc, rIsS, isTy_bb, isTy_bi, isTy_ib, isTy_ii, isTy_ss, isTy_nb, isTy_ni, Bool.not_true, Bool.not_false, not_true_eq_false, not_false_eq_true, tChain, tRz1, tRz2, rIsX, tFx, tMethE, tCallS, tCallZ, tMeth, tMake, tFld, sFld, HO.ins.injEq, HO.lst.injEq, HO.dK.injEq, HO.tup.injEq, dcAt, rDInM, rDGetM, rDSetM, rDLenM, keyOf_int, keyOf_str, rIsBM, plainV_b, plainV_i, plainV_n, plainV_s, rInM, rListM, rSortM, rSumM, rIsD, tBMM, tBM0M, tSl, rSlM, rAppend, rPop, rClear, wAs, reduceCtorEq, false_implies, true_implies, implies_true, forall_const, cxH_K, clsV_ref, clsV_ty, HO.xd.injEq, Value.ref.injEq, lkc, lkn, pfn, pfc, List.map_nil, rExtend, rCat, rRep, tMethE0, rSortD, rPush, rPopH, tDGetM, gAll, iRev, tCB, sDDel, exf_NoRoom T, exf_NoNumber T, sne_Store_room_entries, sne_Store_room_words, sne_Store_entries_words, sne_Store_room__places, sne_Store_entries__places, sne_Store_words__places, sne_Store_room__free, sne_Store_entries__free, sne_Store_words__free, sne_Store__places__free, sne_Store_room__fresh, sne_Store_entries__fresh, sne_Store_words__fresh, sne_Store__places__fresh, sne_Store__free__fresh, T.no_NoRoom_need, T.ex_NoRoom_NoNumber, T.ex_NoRoom_SaggarError, T.kit_NoRoom_NoNumber, T.kit_NoRoom_NoRoom, T.no_NoNumber_limit, T.ex_NoNumber_NoNumber, T.ex_NoNumber_SaggarError, T.kit_NoNumber_NoNumber, T.kit_NoNumber_NoRoom, hdd]
        refine fun b hb => ⟨by decide, fun p hp => ?_⟩
        rcases alt with ⟨rfl, rfl, _⟩ | ⟨_, _, c1, _⟩ | ⟨_, _, c1, _⟩
        · have L3 := Lb0.new (o := HO.xd [(Str.ofString "need", V.int (3 + (m : Int)))]) hdd
          have L4 := L3.new (o := HO.tup [V.str (Str.ofString "room"), V.int (3 + (m : Int))]) hp
          have sG4 := same_trans (same_new (o := HO.xd [(Str.ofString "need", V.int (3 + (m : Int)))]) (Lb0.out hdd)) (same_new (o := HO.tup [V.str (Str.ofString "room"), V.int (3 + (m : Int))]) (L3.out hp))
          have t4 := L4.get (sG4 _ _ gT)
          have p4 := L4.get (p := p) upd_same
          refine ⟨fun σ2 H2' => σ2 = [some (V.ref s), some (V.ref rl), some (V.ref lm), some (V.int kd), some (V.int m), some (V.int n), some (V.int (3 + m)), some (V.ref T2), some (V.ref p), none] ∧ H2' = upd (upd H2 dd (HO.xd [(Str.ofString "need", V.int (3 + (m : Int)))])) p (HO.tup [V.str (Str.ofString "room"), V.int (3 + (m : Int))]), ?_, ?_⟩
          · simp (config := { maxSteps := 4000000 }) only [tSeq, tNext, tDrop, tRet, tRetN, tIfS, tAsg, tTest, tAnd, tOr, tNot, tAndV, tOrV, tNotV, tIf, tOp, tUn, tVar, tC, tCB, tCons, tNil, tCall, tPart, tNoPart, tM0, tM1, tTup, tLst, tB, tIsN, tNotN, rI0, rI, rU, rEq, rNe, rAdd, gName, gTup, gCons, gNil, gSub, rSetL, rIxL, rIxT, rIxS, L2.start,
      List.map_cons, List.map_nil, List.cons_append, List.nil_append, List.append_nil, List.length_cons, List.length_nil, List.replicate, List.getElem?_cons_zero, List.getElem?_cons_succ, List.set_cons_zero, List.set_cons_succ, Nat.reduceAdd, Nat.reduceSub, Nat.sub_self, Nat.zero_add,
      Option.some.injEq, V.int.injEq, V.str.injEq, V.bl.injEq, V.ref.injEq, V.ty.injEq, List.cons.injEq, and_true, true_and, exists_eq_left, exists_eq_left', exists_eq_right, exists_and_left, exists_and_right, exists_const, decide_eq_true_eq, decide_eq_false_iff_not, if_true, if_false, reduceIte, Bool.false_eq_true, Bool.not_eq_true', sc_ii, sc_ss, sc_bb, str1, cx_K, lstAt, rIxM, rSetM, rLenM, atI_0, atI_1, atI_2, atI_3, setI_0, setI_1, setI_2, setI_3, upd_same, upd_upd, ite_true, ite_false, exists_eq', eq_self, and_assoc, rIsS, isTy_bb, isTy_bi, isTy_ib, isTy_ii, isTy_ss, isTy_nb, isTy_ni, Bool.not_true, Bool.not_false, not_true_eq_false, not_false_eq_true, tChain, tRz1, tRz2, rIsX, tFx, tMethE, tCallS, tCallZ, tMeth, tMake, tFld, sFld, HO.ins.injEq, HO.lst.injEq, HO.dK.injEq, HO.tup.injEq, dcAt, rDInM, rDGetM, rDSetM, rDLenM, keyOf_int, keyOf_str, rIsBM, plainV_b, plainV_i, plainV_n, plainV_s, rInM, rListM, rSortM, rSumM, rIsD, tBMM, tBM0M, tSl, rSlM, rAppend, rPop, rClear, wAs, reduceCtorEq, false_implies, true_implies, implies_true, forall_const, cxH_K, clsV_ref, clsV_ty, HO.xd.injEq, Value.ref.injEq, lkc, lkn, pfn, pfc, List.map_nil, rExtend, rCat, rRep, tMethE0, rSortD, rPush, rPopH, tDGetM, gAll, iRev, tCB, sDDel, exf_NoRoom T, exf_NoNumber T, sne_Store_room_entries, sne_Store_room_words, sne_Store_entries_words, sne_Store_room__places, sne_Store_entries__places, sne_Store_words__places, sne_Store_room__free, sne_Store_entries__free, sne_Store_words__free, sne_Store__places__free, sne_Store_room__fresh, sne_Store_entries__fresh, sne_Store_words__fresh, sne_Store__places__fresh, sne_Store__free__fresh, T.no_NoRoom_need, T.ex_NoRoom_NoNumber, T.ex_NoRoom_SaggarError, T.kit_NoRoom_NoNumber, T.kit_NoRoom_NoRoom, T.no_NoNumber_limit, T.ex_NoNumber_NoNumber, T.ex_NoNumber_SaggarError, T.kit_NoNumber_NoNumber, T.kit_NoNumber_NoRoom, t4]
            refine ⟨_, .inl (.inl t4), _, rfl, rfl, ?_⟩
            rw [if_neg (fun e => absurd (V.str.inj e) (by decide))]
            trivial
          · rintro σ2 H3 ⟨rfl, rfl⟩
            simp (config := { maxSteps := 4000000 }) only [tSeq, tNext, tDrop, tRet, tRetN, tIfS, tAsg, tTest, tAnd, tOr, tNot, tAndV, tOrV, tNotV, tIf, tOp, tUn, tVar, tC, tCB, tCons, tNil, tCall, tPart, tNoPart, tM0, tM1, tTup, tLst, tB, tIsN, tNotN, rI0, rI, rU, rEq, rNe, rAdd, gName, gTup, gCons, gNil, gSub, rSetL, rIxL, rIxT, rIxS, L2.start,
      List.map_cons, List.map_nil, List.cons_append, List.nil_append, List.append_nil, List.length_cons, List.length_nil, List.replicate, List.getElem?_cons_zero, List.getElem?_cons_succ, List.set_cons_zero, List.set_cons_succ, Nat.reduceAdd, Nat.reduceSub, Nat.sub_self, Nat.zero_add,
      Option.some.injEq, V.int.injEq, V.str.injEq, V.bl.injEq, V.ref.injEq, V.ty.injEq, List.cons.injEq, and_true, true_and, exists_eq_left, exists_eq_left', exists_eq_right, exists_and_left, exists_and_right, exists_const, decide_eq_true_eq, decide_eq_false_iff_not, if_true, if_false, reduceIte, Bool.false_eq_true, Bool.not_eq_true', sc_ii, sc_ss, sc_bb, str1, cx_K, lstAt, rIxM, rSetM, rLenM, atI_0, atI_1, atI_2, atI_3, setI_0, setI_1, setI_2, setI_3, upd_same, upd_upd, ite_true, ite_false, exists_eq', eq_self, and_assoc, rIsS, isTy_bb, isTy_bi, isTy_ib, isTy_ii, isTy_ss, isTy_nb, isTy_ni, Bool.not_true, Bool.not_false, not_true_eq_false, not_false_eq_true, tChain, tRz1, tRz2, rIsX, tFx, tMethE, tCallS, tCallZ, tMeth, tMake, tFld, sFld, HO.ins.injEq, HO.lst.injEq, HO.dK.injEq, HO.tup.injEq, dcAt, rDInM, rDGetM, rDSetM, rDLenM, keyOf_int, keyOf_str, rIsBM, plainV_b, plainV_i, plainV_n, plainV_s, rInM, rListM, rSortM, rSumM, rIsD, tBMM, tBM0M, tSl, rSlM, rAppend, rPop, rClear, wAs, reduceCtorEq, false_implies, true_implies, implies_true, forall_const, cxH_K, clsV_ref, clsV_ty, HO.xd.injEq, Value.ref.injEq, lkc, lkn, pfn, pfc, List.map_nil, rExtend, rCat, rRep, tMethE0, rSortD, rPush, rPopH, tDGetM, gAll, iRev, tCB, sDDel, exf_NoRoom T, exf_NoNumber T, sne_Store_room_entries, sne_Store_room_words, sne_Store_entries_words, sne_Store_room__places, sne_Store_entries__places, sne_Store_words__places, sne_Store_room__free, sne_Store_entries__free, sne_Store_words__free, sne_Store__places__free, sne_Store_room__fresh, sne_Store_entries__fresh, sne_Store_words__fresh, sne_Store__places__fresh, sne_Store__free__fresh, T.no_NoRoom_need, T.ex_NoRoom_NoNumber, T.ex_NoRoom_SaggarError, T.kit_NoRoom_NoNumber, T.kit_NoRoom_NoRoom, T.no_NoNumber_limit, T.ex_NoNumber_NoNumber, T.ex_NoNumber_SaggarError, T.kit_NoNumber_NoNumber, T.kit_NoNumber_NoRoom, t4, p4]
            refine ⟨_, .inl (.inl p4), _, rfl, _, .inl (.inl t4), _, rfl, rfl, ?_⟩
            rw [if_pos rfl]
            refine ⟨_, .inl (.inl p4), _, rfl, _, .inl (.inl t4), _, rfl, _, _, rfl, ?_⟩
            rw [decide_eq_true rfl]
            exact k _ bs (L4.less (same_trans sG2 sG4)) (by omega) hsl
        · omega
        · omega
      · have e := hn'.uniq hfr
        subst e
        refine ⟨fun c2 dd hdd => ?_, fun c2 H3 S3 => ?_⟩
        · simp (config := { maxSteps := 4000000 }) only [tSeq, tNext, tDrop, tRet, tRetN, tIfS, tAsg, tTest, tAnd, tOr, tNot, tAndV, tOrV, tNotV, tIf, tOp, tUn, tVar, tC, tCB, tCons, tNil, tCall, tPart, tNoPart, tM0, tM1, tTup, tLst, tB, tIsN, tNotN, rI0, rI, rU, rEq, rNe, rAdd, gName, gTup, gCons, gNil, gSub, rSetL, rIxL, rIxT, rIxS, L2.start,
      List.map_cons, List.map_nil, List.cons_append, List.nil_append, List.append_nil, List.length_cons, List.length_nil, List.replicate, List.getElem?_cons_zero, List.getElem?_cons_succ, List.set_cons_zero, List.set_cons_succ, Nat.reduceAdd, Nat.reduceSub, Nat.sub_self, Nat.zero_add,
      Option.some.injEq, V.int.injEq, V.str.injEq, V.bl.injEq, V.ref.injEq, V.ty.injEq, List.cons.injEq, and_true, true_and, exists_eq_left, exists_eq_left', exists_eq_right, exists_and_left, exists_and_right, exists_const, decide_eq_true_eq, decide_eq_false_iff_not, if_true, if_false, reduceIte, Bool.false_eq_true, Bool.not_eq_true', sc_ii, sc_ss, sc_bb, str1, cx_K, lstAt, rIxM, rSetM, rLenM, atI_0, atI_1, atI_2, atI_3, setI_0, setI_1, setI_2, setI_3, upd_same, upd_upd, ite_true, ite_false, exists_eq', eq_self, and_assoc, rIsS, isTy_bb, isTy_bi, isTy_ib, isTy_ii, isTy_ss, isTy_nb, isTy_ni, Bool.not_true, Bool.not_false, not_true_eq_false, not_false_eq_true, tChain, tRz1, tRz2, rIsX, tFx, tMethE, tCallS, tCallZ, tMeth, tMake, tFld, sFld, HO.ins.injEq, HO.lst.injEq, HO.dK.injEq, HO.tup.injEq, dcAt, rDInM, rDGetM, rDSetM, rDLenM, keyOf_int, keyOf_str, rIsBM, plainV_b, plainV_i, plainV_n, plainV_s, rInM, rListM, rSortM, rSumM, rIsD, tBMM, tBM0M, tSl, rSlM, rAppend, rPop, rClear, wAs, reduceCtorEq, false_implies, true_implies, implies_true, forall_const, cxH_K, clsV_ref, clsV_ty, HO.xd.injEq, Value.ref.injEq, lkc, lkn, pfn, pfc, List.map_nil, rExtend, rCat, rRep, tMethE0, rSortD, rPush, rPopH, tDGetM, gAll, iRev, tCB, sDDel, exf_NoRoom T, exf_NoNumber T, sne_Store_room_entries, sne_Store_room_words, sne_Store_entries_words, sne_Store_room__places, sne_Store_entries__places, sne_Store_words__places, sne_Store_room__free, sne_Store_entries__free, sne_Store_words__free, sne_Store__places__free, sne_Store_room__fresh, sne_Store_entries__fresh, sne_Store_words__fresh, sne_Store__places__fresh, sne_Store__free__fresh, T.no_NoRoom_need, T.ex_NoRoom_NoNumber, T.ex_NoRoom_SaggarError, T.kit_NoRoom_NoNumber, T.kit_NoRoom_NoRoom, T.no_NoNumber_limit, T.ex_NoNumber_NoNumber, T.ex_NoNumber_SaggarError, T.kit_NoNumber_NoNumber, T.kit_NoNumber_NoRoom, hdd]
          refine fun b hb => ⟨by decide, fun p hp => ?_⟩
          rcases alt with ⟨_, _, c1⟩ | ⟨rfl, rfl, _, _⟩ | ⟨_, _, _, c1⟩
          · omega
          · have L3 := Lb0.new (o := HO.xd [(Str.ofString "limit", V.int z)]) hdd
            have L4 := L3.new (o := HO.tup [V.str (Str.ofString "none"), V.int z]) hp
            have sG4 := same_trans (same_new (o := HO.xd [(Str.ofString "limit", V.int z)]) (Lb0.out hdd)) (same_new (o := HO.tup [V.str (Str.ofString "none"), V.int z]) (L3.out hp))
            have t4 := L4.get (sG4 _ _ gT)
            have p4 := L4.get (p := p) upd_same
            refine ⟨fun σ2 H2' => σ2 = [some (V.ref s), some (V.ref rl), some (V.ref lm), some (V.int kd), some (V.int m), some (V.int n'), some (V.int (3 + m)), some (V.ref T2), some (V.ref p), none] ∧ H2' = upd (upd H2 dd (HO.xd [(Str.ofString "limit", V.int z)])) p (HO.tup [V.str (Str.ofString "none"), V.int z]), ?_, ?_⟩
            · simp (config := { maxSteps := 4000000 }) only [tSeq, tNext, tDrop, tRet, tRetN, tIfS, tAsg, tTest, tAnd, tOr, tNot, tAndV, tOrV, tNotV, tIf, tOp, tUn, tVar, tC, tCB, tCons, tNil, tCall, tPart, tNoPart, tM0, tM1, tTup, tLst, tB, tIsN, tNotN, rI0, rI, rU, rEq, rNe, rAdd, gName, gTup, gCons, gNil, gSub, rSetL, rIxL, rIxT, rIxS, L2.start,
      List.map_cons, List.map_nil, List.cons_append, List.nil_append, List.append_nil, List.length_cons, List.length_nil, List.replicate, List.getElem?_cons_zero, List.getElem?_cons_succ, List.set_cons_zero, List.set_cons_succ, Nat.reduceAdd, Nat.reduceSub, Nat.sub_self, Nat.zero_add,
      Option.some.injEq, V.int.injEq, V.str.injEq, V.bl.injEq, V.ref.injEq, V.ty.injEq, List.cons.injEq, and_true, true_and, exists_eq_left, exists_eq_left', exists_eq_right, exists_and_left, exists_and_right, exists_const, decide_eq_true_eq, decide_eq_false_iff_not, if_true, if_false, reduceIte, Bool.false_eq_true, Bool.not_eq_true', sc_ii, sc_ss, sc_bb, str1, cx_K, lstAt, rIxM, rSetM, rLenM, atI_0, atI_1, atI_2, atI_3, setI_0, setI_1, setI_2, setI_3, upd_same, upd_upd, ite_true, ite_false, exists_eq', eq_self, and_assoc, rIsS, isTy_bb, isTy_bi, isTy_ib, isTy_ii, isTy_ss, isTy_nb, isTy_ni, Bool.not_true, Bool.not_false, not_true_eq_false, not_false_eq_true, tChain, tRz1, tRz2, rIsX, tFx, tMethE, tCallS, tCallZ, tMeth, tMake, tFld, sFld, HO.ins.injEq, HO.lst.injEq, HO.dK.injEq, HO.tup.injEq, dcAt, rDInM, rDGetM, rDSetM, rDLenM, keyOf_int, keyOf_str, rIsBM, plainV_b, plainV_i, plainV_n, plainV_s, rInM, rListM, rSortM, rSumM, rIsD, tBMM, tBM0M, tSl, rSlM, rAppend, rPop, rClear, wAs, reduceCtorEq, false_implies, true_implies, implies_true, forall_const, cxH_K, clsV_ref, clsV_ty, HO.xd.injEq, Value.ref.injEq, lkc, lkn, pfn, pfc, List.map_nil, rExtend, rCat, rRep, tMethE0, rSortD, rPush, rPopH, tDGetM, gAll, iRev, tCB, sDDel, exf_NoRoom T, exf_NoNumber T, sne_Store_room_entries, sne_Store_room_words, sne_Store_entries_words, sne_Store_room__places, sne_Store_entries__places, sne_Store_words__places, sne_Store_room__free, sne_Store_entries__free, sne_Store_words__free, sne_Store__places__free, sne_Store_room__fresh, sne_Store_entries__fresh, sne_Store_words__fresh, sne_Store__places__fresh, sne_Store__free__fresh, T.no_NoRoom_need, T.ex_NoRoom_NoNumber, T.ex_NoRoom_SaggarError, T.kit_NoRoom_NoNumber, T.kit_NoRoom_NoRoom, T.no_NoNumber_limit, T.ex_NoNumber_NoNumber, T.ex_NoNumber_SaggarError, T.kit_NoNumber_NoNumber, T.kit_NoNumber_NoRoom, t4]
              refine ⟨_, .inl (.inl t4), _, rfl, rfl, ?_⟩
              rw [if_neg (fun e => absurd (V.str.inj e) (by decide))]
              trivial
            · rintro σ2 H3 ⟨rfl, rfl⟩
              simp (config := { maxSteps := 4000000 }) only [tSeq, tNext, tDrop, tRet, tRetN, tIfS, tAsg, tTest, tAnd, tOr, tNot, tAndV, tOrV, tNotV, tIf, tOp, tUn, tVar, tC, tCB, tCons, tNil, tCall, tPart, tNoPart, tM0, tM1, tTup, tLst, tB, tIsN, tNotN, rI0, rI, rU, rEq, rNe, rAdd, gName, gTup, gCons, gNil, gSub, rSetL, rIxL, rIxT, rIxS, L2.start,
      List.map_cons, List.map_nil, List.cons_append, List.nil_append, List.append_nil, List.length_cons, List.length_nil, List.replicate, List.getElem?_cons_zero, List.getElem?_cons_succ, List.set_cons_zero, List.set_cons_succ, Nat.reduceAdd, Nat.reduceSub, Nat.sub_self, Nat.zero_add,
      Option.some.injEq, V.int.injEq, V.str.injEq, V.bl.injEq, V.ref.injEq, V.ty.injEq, List.cons.injEq, and_true, true_and, exists_eq_left, exists_eq_left', exists_eq_right, exists_and_left, exists_and_right, exists_const, decide_eq_true_eq, decide_eq_false_iff_not, if_true, if_false, reduceIte, Bool.false_eq_true, Bool.not_eq_true', sc_ii, sc_ss, sc_bb, str1, cx_K, lstAt, rIxM, rSetM, rLenM, atI_0, atI_1, atI_2, atI_3, setI_0, setI_1, setI_2, setI_3, upd_same, upd_upd, ite_true, ite_false, exists_eq', eq_self, and_assoc, rIsS, isTy_bb, isTy_bi, isTy_ib, isTy_ii, isTy_ss, isTy_nb, isTy_ni, Bool.not_true, Bool.not_false, not_true_eq_false, not_false_eq_true, tChain, tRz1, tRz2, rIsX, tFx, tMethE, tCallS, tCallZ, tMeth, tMake, tFld, sFld, HO.ins.injEq, HO.lst.injEq, HO.dK.injEq, HO.tup.injEq, dcAt, rDInM, rDGetM, rDSetM, rDLenM, keyOf_int, keyOf_str, rIsBM, plainV_b, plainV_i, plainV_n, plainV_s, rInM, rListM, rSortM, rSumM, rIsD, tBMM, tBM0M, tSl, rSlM, rAppend, rPop, rClear, wAs, reduceCtorEq, false_implies, true_implies, implies_true, forall_const, cxH_K, clsV_ref, clsV_ty, HO.xd.injEq, Value.ref.injEq, lkc, lkn, pfn, pfc, List.map_nil, rExtend, rCat, rRep, tMethE0, rSortD, rPush, rPopH, tDGetM, gAll, iRev, tCB, sDDel, exf_NoRoom T, exf_NoNumber T, sne_Store_room_entries, sne_Store_room_words, sne_Store_entries_words, sne_Store_room__places, sne_Store_entries__places, sne_Store_words__places, sne_Store_room__free, sne_Store_entries__free, sne_Store_words__free, sne_Store__places__free, sne_Store_room__fresh, sne_Store_entries__fresh, sne_Store_words__fresh, sne_Store__places__fresh, sne_Store__free__fresh, T.no_NoRoom_need, T.ex_NoRoom_NoNumber, T.ex_NoRoom_SaggarError, T.kit_NoRoom_NoNumber, T.kit_NoRoom_NoRoom, T.no_NoNumber_limit, T.ex_NoNumber_NoNumber, T.ex_NoNumber_SaggarError, T.kit_NoNumber_NoNumber, T.kit_NoNumber_NoRoom, t4, p4]
              refine ⟨_, .inl (.inl p4), _, rfl, _, .inl (.inl t4), _, rfl, rfl, ?_⟩
              rw [if_pos rfl]
              refine ⟨_, .inl (.inl p4), _, rfl, _, .inl (.inl t4), _, rfl, _, _, rfl, ?_⟩
              rw [decide_eq_true rfl]
              exact k _ bs (L4.less (same_trans sG2 sG4)) (by omega) hsl
          · omega
        · have Lf : Lx A H3 s rl rm en (obs bs ++ [⟨n', kd, List.replicate m 0, true⟩]) bs G2 := ⟨F, S3, R⟩
          rcases alt with ⟨_, _, c1⟩ | ⟨_, _, _, c1⟩ | ⟨rfl, rfl, _, _⟩
          · omega
          · omega
          · simp (config := { maxSteps := 4000000 }) only [tSeq, tNext, tDrop, tRet, tRetN, tIfS, tAsg, tTest, tAnd, tOr, tNot, tAndV, tOrV, tNotV, tIf, tOp, tUn, tVar, tC, tCB, tCons, tNil, tCall, tPart, tNoPart, tM0, tM1, tTup, tLst, tB, tIsN, tNotN, rI0, rI, rU, rEq, rNe, rAdd, gName, gTup, gCons, gNil, gSub, rSetL, rIxL, rIxT, rIxS, L2.start,
      List.map_cons, List.map_nil, List.cons_append, List.nil_append, List.append_nil, List.length_cons, List.length_nil, List.replicate, List.getElem?_cons_zero, List.getElem?_cons_succ, List.set_cons_zero, List.set_cons_succ, Nat.reduceAdd, Nat.reduceSub, Nat.sub_self, Nat.zero_add,
      Option.some.injEq, V.int.injEq, V.str.injEq, V.bl.injEq, V.ref.injEq, V.ty.injEq, List.cons.injEq, and_true, true_and, exists_eq_left, exists_eq_left', exists_eq_right, exists_and_left, exists_and_right, exists_const, decide_eq_true_eq, decide_eq_false_iff_not, if_true, if_false, reduceIte, Bool.false_eq_true, Bool.not_eq_true', sc_ii, sc_ss, sc_bb, str1, cx_K, lstAt, rIxM, rSetM, rLenM, atI_0, atI_1, atI_2, atI_3, setI_0, setI_1, setI_2, setI_3, upd_same, upd_upd, ite_true, ite_false, exists_eq', eq_self, and_assoc, rIsS, isTy_bb, isTy_bi, isTy_ib, isTy_ii, isTy_ss, isTy_nb, isTy_ni, Bool.not_true, Bool.not_false, not_true_eq_false, not_false_eq_true, tChain, tRz1, tRz2, rIsX, tFx, tMethE, tCallS, tCallZ, tMeth, tMake, tFld, sFld, HO.ins.injEq, HO.lst.injEq, HO.dK.injEq, HO.tup.injEq, dcAt, rDInM, rDGetM, rDSetM, rDLenM, keyOf_int, keyOf_str, rIsBM, plainV_b, plainV_i, plainV_n, plainV_s, rInM, rListM, rSortM, rSumM, rIsD, tBMM, tBM0M, tSl, rSlM, rAppend, rPop, rClear, wAs, reduceCtorEq, false_implies, true_implies, implies_true, forall_const, cxH_K, clsV_ref, clsV_ty, HO.xd.injEq, Value.ref.injEq, lkc, lkn, pfn, pfc, List.map_nil, rExtend, rCat, rRep, tMethE0, rSortD, rPush, rPopH, tDGetM, gAll, iRev, tCB, sDDel, exf_NoRoom T, exf_NoNumber T, sne_Store_room_entries, sne_Store_room_words, sne_Store_entries_words, sne_Store_room__places, sne_Store_entries__places, sne_Store_words__places, sne_Store_room__free, sne_Store_entries__free, sne_Store_words__free, sne_Store__places__free, sne_Store_room__fresh, sne_Store_entries__fresh, sne_Store_words__fresh, sne_Store__places__fresh, sne_Store__free__fresh, T.no_NoRoom_need, T.ex_NoRoom_NoNumber, T.ex_NoRoom_SaggarError, T.kit_NoRoom_NoNumber, T.kit_NoRoom_NoRoom, T.no_NoNumber_limit, T.ex_NoNumber_NoNumber, T.ex_NoNumber_SaggarError, T.kit_NoNumber_NoNumber, T.kit_NoNumber_NoRoom, rIsL]
            refine ⟨by decide, fun p hp => ?_⟩
            have L4 := Lf.new (o := HO.tup [V.str (Str.ofString "number"), V.int z]) hp
            have sG4 := same_new (o := HO.tup [V.str (Str.ofString "number"), V.int z]) (Lf.out hp)
            have gT4 := sG4 _ _ gT
            have gp4 : upd G2 p (HO.tup [V.str (Str.ofString "number"), V.int z]) p = some (HO.tup [V.str (Str.ofString "number"), V.int z]) := upd_same
            generalize upd G2 p (HO.tup [V.str (Str.ofString "number"), V.int z]) = G4 at L4 sG4 gT4 gp4
            generalize upd H3 p (HO.tup [V.str (Str.ofString "number"), V.int z]) = H4 at L4 ⊢
            refine ⟨fun σ2 H5 => σ2 = [some (V.ref s), some (V.ref rl), some (V.ref lm), some (V.int kd), some (V.int m), some (V.int z), some (V.int (3 + m)), some (V.ref T2), some (V.ref p), none] ∧ ∃ bs', Lx A H5 s rl rm en (obs bs') bs' G4 ∧ bs'.length ≤ bs.length + 1 ∧ (∀ b ∈ bs', b.o.sl.length ≤ 79), ?_, ?_⟩
            · have t4 := L4.get gT4
              simp (config := { maxSteps := 4000000 }) only [tSeq, tNext, tDrop, tRet, tRetN, tIfS, tAsg, tTest, tAnd, tOr, tNot, tAndV, tOrV, tNotV, tIf, tOp, tUn, tVar, tC, tCB, tCons, tNil, tCall, tPart, tNoPart, tM0, tM1, tTup, tLst, tB, tIsN, tNotN, rI0, rI, rU, rEq, rNe, rAdd, gName, gTup, gCons, gNil, gSub, rSetL, rIxL, rIxT, rIxS, L2.start,
      List.map_cons, List.map_nil, List.cons_append, List.nil_append, List.append_nil, List.length_cons, List.length_nil, List.replicate, List.getElem?_cons_zero, List.getElem?_cons_succ, List.set_cons_zero, List.set_cons_succ, Nat.reduceAdd, Nat.reduceSub, Nat.sub_self, Nat.zero_add,
      Option.some.injEq, V.int.injEq, V.str.injEq, V.bl.injEq, V.ref.injEq, V.ty.injEq, List.cons.injEq, and_true, true_and, exists_eq_left, exists_eq_left', exists_eq_right, exists_and_left, exists_and_right, exists_const, decide_eq_true_eq, decide_eq_false_iff_not, if_true, if_false, reduceIte, Bool.false_eq_true, Bool.not_eq_true', sc_ii, sc_ss, sc_bb, str1, cx_K, lstAt, rIxM, rSetM, rLenM, atI_0, atI_1, atI_2, atI_3, setI_0, setI_1, setI_2, setI_3, upd_same, upd_upd, ite_true, ite_false, exists_eq', eq_self, and_assoc, rIsS, isTy_bb, isTy_bi, isTy_ib, isTy_ii, isTy_ss, isTy_nb, isTy_ni, Bool.not_true, Bool.not_false, not_true_eq_false, not_false_eq_true, tChain, tRz1, tRz2, rIsX, tFx, tMethE, tCallS, tCallZ, tMeth, tMake, tFld, sFld, HO.ins.injEq, HO.lst.injEq, HO.dK.injEq, HO.tup.injEq, dcAt, rDInM, rDGetM, rDSetM, rDLenM, keyOf_int, keyOf_str, rIsBM, plainV_b, plainV_i, plainV_n, plainV_s, rInM, rListM, rSortM, rSumM, rIsD, tBMM, tBM0M, tSl, rSlM, rAppend, rPop, rClear, wAs, reduceCtorEq, false_implies, true_implies, implies_true, forall_const, cxH_K, clsV_ref, clsV_ty, HO.xd.injEq, Value.ref.injEq, lkc, lkn, pfn, pfc, List.map_nil, rExtend, rCat, rRep, tMethE0, rSortD, rPush, rPopH, tDGetM, gAll, iRev, tCB, sDDel, exf_NoRoom T, exf_NoNumber T, sne_Store_room_entries, sne_Store_room_words, sne_Store_entries_words, sne_Store_room__places, sne_Store_entries__places, sne_Store_words__places, sne_Store_room__free, sne_Store_entries__free, sne_Store_words__free, sne_Store__places__free, sne_Store_room__fresh, sne_Store_entries__fresh, sne_Store_words__fresh, sne_Store__places__fresh, sne_Store__free__fresh, T.no_NoRoom_need, T.ex_NoRoom_NoNumber, T.ex_NoRoom_SaggarError, T.kit_NoRoom_NoNumber, T.kit_NoRoom_NoRoom, T.no_NoNumber_limit, T.ex_NoNumber_NoNumber, T.ex_NoNumber_SaggarError, T.kit_NoNumber_NoNumber, T.kit_NoNumber_NoRoom, t4]
              refine ⟨_, .inl (.inl t4), _, rfl, rfl, ?_⟩
              rw [if_pos rfl, L4.lst]
              refine ⟨by decide, fun p0 hp0 => ⟨by omega, by omega, by rw [Int.toNat_natCast]; omega, fun p1 h1 => ⟨by decide, fun p2 h2 => ?_⟩⟩⟩
              rw [Int.toNat_natCast, rep0] at h2 ⊢
              have Lg := L4.same (same_new (o := HO.lst [V.int 0]) hp0)
              generalize upd H4 p0 (HO.lst [V.int 0]) = H6 at Lg h1 h2 ⊢
              have n12 : p1 ≠ p2 := ne_of_none upd_same h2
              have h2' : H6 p2 = none := by
                rw [upd_ne (Ne.symm n12)] at h2
                exact h2
              have sm := same_trans (same_new (o := HO.lst ((List.replicate m (0 : Int)).map V.int)) h1) (same_new (o := HO.lst [V.int z, V.int kd, V.ref p1, V.bl true]) h2)
              have Lh := Lg.push sm (o := ⟨z, kd, List.replicate m 0, true⟩) h1 h2' (Ne.symm n12) (by rw [upd_ne n12, upd_same]) upd_same
              refine ⟨_, sm _ _ Lg.lst, by rw [refs_len]; omega, _, Lh.row ?_, ?_, fun b hb => ?_⟩
              · simp [obs]
              · rw [List.length_append]
                exact Nat.le_refl _
              · rcases List.mem_append.mp hb with hb | hb
                · exact hsl b hb
                · rw [List.mem_singleton] at hb
                  subst hb
                  show (List.replicate m (0 : Int)).length ≤ 79
                  rw [List.length_replicate]
                  exact hm
            · rintro σ2 H5 ⟨rfl, bs', L5, n5, h5⟩
              have t5 := L5.get gT4
              have p5 := L5.get gp4
              simp (config := { maxSteps := 4000000 }) only [tSeq, tNext, tDrop, tRet, tRetN, tIfS, tAsg, tTest, tAnd, tOr, tNot, tAndV, tOrV, tNotV, tIf, tOp, tUn, tVar, tC, tCB, tCons, tNil, tCall, tPart, tNoPart, tM0, tM1, tTup, tLst, tB, tIsN, tNotN, rI0, rI, rU, rEq, rNe, rAdd, gName, gTup, gCons, gNil, gSub, rSetL, rIxL, rIxT, rIxS, L2.start,
      List.map_cons, List.map_nil, List.cons_append, List.nil_append, List.append_nil, List.length_cons, List.length_nil, List.replicate, List.getElem?_cons_zero, List.getElem?_cons_succ, List.set_cons_zero, List.set_cons_succ, Nat.reduceAdd, Nat.reduceSub, Nat.sub_self, Nat.zero_add,
      Option.some.injEq, V.int.injEq, V.str.injEq, V.bl.injEq, V.ref.injEq, V.ty.injEq, List.cons.injEq, and_true, true_and, exists_eq_left, exists_eq_left', exists_eq_right, exists_and_left, exists_and_right, exists_const, decide_eq_true_eq, decide_eq_false_iff_not, if_true, if_false, reduceIte, Bool.false_eq_true, Bool.not_eq_true', sc_ii, sc_ss, sc_bb, str1, cx_K, lstAt, rIxM, rSetM, rLenM, atI_0, atI_1, atI_2, atI_3, setI_0, setI_1, setI_2, setI_3, upd_same, upd_upd, ite_true, ite_false, exists_eq', eq_self, and_assoc, rIsS, isTy_bb, isTy_bi, isTy_ib, isTy_ii, isTy_ss, isTy_nb, isTy_ni, Bool.not_true, Bool.not_false, not_true_eq_false, not_false_eq_true, tChain, tRz1, tRz2, rIsX, tFx, tMethE, tCallS, tCallZ, tMeth, tMake, tFld, sFld, HO.ins.injEq, HO.lst.injEq, HO.dK.injEq, HO.tup.injEq, dcAt, rDInM, rDGetM, rDSetM, rDLenM, keyOf_int, keyOf_str, rIsBM, plainV_b, plainV_i, plainV_n, plainV_s, rInM, rListM, rSortM, rSumM, rIsD, tBMM, tBM0M, tSl, rSlM, rAppend, rPop, rClear, wAs, reduceCtorEq, false_implies, true_implies, implies_true, forall_const, cxH_K, clsV_ref, clsV_ty, HO.xd.injEq, Value.ref.injEq, lkc, lkn, pfn, pfc, List.map_nil, rExtend, rCat, rRep, tMethE0, rSortD, rPush, rPopH, tDGetM, gAll, iRev, tCB, sDDel, exf_NoRoom T, exf_NoNumber T, sne_Store_room_entries, sne_Store_room_words, sne_Store_entries_words, sne_Store_room__places, sne_Store_entries__places, sne_Store_words__places, sne_Store_room__free, sne_Store_entries__free, sne_Store_words__free, sne_Store__places__free, sne_Store_room__fresh, sne_Store_entries__fresh, sne_Store_words__fresh, sne_Store__places__fresh, sne_Store__free__fresh, T.no_NoRoom_need, T.ex_NoRoom_NoNumber, T.ex_NoRoom_SaggarError, T.kit_NoRoom_NoNumber, T.kit_NoRoom_NoRoom, T.no_NoNumber_limit, T.ex_NoNumber_NoNumber, T.ex_NoNumber_SaggarError, T.kit_NoNumber_NoNumber, T.kit_NoNumber_NoRoom, t5, p5]
              refine ⟨_, .inl (.inl p5), _, rfl, _, .inl (.inl t5), _, rfl, rfl, ?_⟩
              rw [if_pos rfl]
              refine ⟨_, .inl (.inl p5), _, rfl, _, .inl (.inl t5), _, rfl, _, _, rfl, ?_⟩
              rw [decide_eq_true rfl]
              exact k _ bs' (L5.less (same_trans sG2 sG4)) n5 h5
end

def sp_changed (A : Ad) : Sp := fun vs H Q _ => ∃ (s rl tk : Addr) (rm en deed x : Int) (G0 : Hp) (N M : Nat) (bs : List RB) (ts : List TS) (G1 G : Hp), vs = [.ref s, .ref rl, .ref tk, .int deed, .int x] ∧ KS A H s rl tk rm en G0 N M bs ts G1 G ∧ N ≤ 200 ∧ M ≤ 200 ∧
  ∀ H' bs' ts' G1' G', KS A H' s rl tk rm en G0 N (M + 1) bs' ts' G1' G' → Q .non H'
theorem sp_changed_len {A vs H Q E} (h : sp_changed A vs H Q E) : vs.length = (["store", "row", "taken", "deed", "x"] : List Str).length := by
  obtain ⟨_, _, _, _, _, _, _, _, _, _, _, _, _, _, rfl, _⟩ := h
  rfl
section
variable {P : Program} {w : World} {K : PySem.W.Frag} {mg : Str → Option Value} {base : Heap} {A : Ad}
theorem ok__law_changed (T : Txt K mg A) : FnOk P w K mg base CX0 2 A.f__law_changed A.d__law_changed ["store", "row", "taken", "deed", "x"] (sp_changed A) := by
  refine Fun.ok T.F__law_changed sc__law_changed (fun vs H Q E h => ?_) (fun cdv Ar outer s H vs Q E hr h => ?_)
  · exact sp_changed_len h
  · have hu := hu_of hr
    refine ⟨_, (pss_cons (ps_asg (pe_op op_fdiv (pv 4) pe_int) (pg_name (i := 5) sc__law_changed.nd rfl (Or.inl rfl)))
    (Evl.pss_cut (ps_if (pt_cmpR op_eq (pv 3) pe_int (nomark _)) (pss_cons (ps_expr (pe_meth0 (pv 0) T.cl_Store T.me_Store_close_up (ok_Store_close_up T) (hr.mono (by decide)) T.b_Store_close_up .nil pass0))
    (pss_cons (ps_setLc (i := 7) (own := [("one", 6)]) (g := gName 6) rfl sc__law_changed.nd rfl rfl (sw_true rfl rfl rfl (by decide +kernel)) (pi_list (pv 1)) (blkOk_by (own := [("one", 6)]) (N := ["store", "row", "taken", "deed", "x", "rest", "one", "kept", "pick", "living", "other", "at", "number"]) (sc := defScope s__law_changed) (by decide +kernel)) (fun _ _ _ _ _ => pg_name (i := 6) sc__law_changed.nd rfl (Or.inl rfl)) (fun _ _ _ _ _ => (pts_one (pt_val (pe_ix ix_lstM (pv 6) pe_int (fun _ _ => rfl))))) (fun _ _ _ _ _ => (pv 6)))
    (pss_cons (ps_expr (pe_bm0M PySem.F.slot_list_clear PySem.F.type_list_clear mt_clear (pv 1)))
    (pss_one (ps_expr (pe_bmM PySem.F.slot_list_extend PySem.F.type_list_extend mt_extend (pv 1) (pa_cons (pv 7) pa_nil))))))) (pss_one (ps_if (pt_cmpR op_eq (pv 3) pe_int (nomark _)) (pss_one (ps_expr (pe_bmM PySem.F.slot_list_append PySem.F.type_list_append mt_append (pv 2) (pa_cons (pe_tup (pa_cons (pe_meth0 (pv 0) T.cl_Store T.me_Store_snapshot (ok_Store_snapshot T) (hr.mono (by decide)) T.b_Store_snapshot .nil pass0) (pa_cons (pe_call (ok__law_copy T) (hr.mono (by decide)) (by rfl) T.g__law_copy T.k__law_copy T.b__law_copy .nil pass0 (pa_cons (pv 1) pa_nil)) pa_nil))) pa_nil)))) (pss_one (ps_if (PW.pt (pw_and (pt_cmpR op_eq (pv 3) pe_int (nomark _)) (pw_and1 (pt_truth (pv 2) (by intro _; rfl))))) (pss_cons (ps_asg (pe_ix ix_lstM (pv 2) (pe_op op_mod (pe_callTy call_intI (by rfl) T.z_int (by decide +kernel) (pa_cons (pv 5) pa_nil)) (pe_callB call_lenM (by rfl) T.z_len PySem.boot_len (pa_cons (pv 2) pa_nil))) (fun _ _ => rfl)) (pg_name (i := 8) sc__law_changed.nd rfl (Or.inl rfl)))
    (pss_cons (ps_expr (pe_meth (pv 0) T.cl_Store T.me_Store_restore (ok_Store_restore T) (hr.mono (by decide)) T.b_Store_restore .nil pass0 (pa_cons (pe_ix ix_tup (pv 8) pe_int (fun _ _ => rfl)) pa_nil)))
    (pss_cons (ps_expr (pe_bm0M PySem.F.slot_list_clear PySem.F.type_list_clear mt_clear (pv 1)))
    (pss_one (ps_expr (pe_bmM PySem.F.slot_list_extend PySem.F.type_list_extend mt_extend (pv 1) (pa_cons (pe_call (ok__law_copy T) (hr.mono (by decide)) (by rfl) T.g__law_copy T.k__law_copy T.b__law_copy .nil pass0 (pa_cons (pe_ix ix_tup (pv 8) pe_int (fun _ _ => rfl)) pa_nil)) pa_nil))))))) pss_nil)))))
    (pss_cons (ps_asg (pe_call (ok__law_living T) (hr.mono (by decide)) (by rfl) T.g__law_living T.k__law_living T.b__law_living .nil pass0 (pa_cons (pv 1) pa_nil)) (pg_name (i := 9) sc__law_changed.nd rfl (Or.inl rfl)))
    (pss_cons (ps_if (PW.pt (pw_or (pt_cmpR op_lt (pv 3) pe_int (nomark _)) (pw_or1 (pt_not (pt_truth (pv 9) (by intro _; rfl)))))) (pss_one ps_retN) pss_nil)
    (pss_cons (ps_asg (pe_ix ix_lstM (pv 1) (pe_ix ix_lstM (pv 9) (pe_op op_mod (pe_callTy call_intI (by rfl) T.z_int (by decide +kernel) (pa_cons (pv 5) pa_nil)) (pe_callB call_lenM (by rfl) T.z_len PySem.boot_len (pa_cons (pv 9) pa_nil))) (fun _ _ => rfl)) (fun _ _ => rfl)) (pg_name (i := 6) sc__law_changed.nd rfl (Or.inl rfl)))
    (pss_cons (ps_asg (pe_ix ix_lstM (pv 1) (pe_ix ix_lstM (pv 9) (pe_op op_mod (pe_op op_fdiv (pv 5) pe_int) (pe_callB call_lenM (by rfl) T.z_len PySem.boot_len (pa_cons (pv 9) pa_nil))) (fun _ _ => rfl)) (fun _ _ => rfl)) (pg_name (i := 10) sc__law_changed.nd rfl (Or.inl rfl)))
    (pss_one (ps_if (pt_cmpR op_lt (pv 3) pe_int (nomark _)) (pss_one (ps_if (pt_truth (pe_ix ix_lstM (pv 6) pe_int (fun _ _ => rfl)) (by intro _; rfl)) (pss_cons (ps_asg (pe_op op_mod (pe_op op_fdiv (pv 5) pe_int) (pe_callB call_lenM (by rfl) T.z_len PySem.boot_len (pa_cons (pe_ix ix_lstM (pv 6) pe_int (fun _ _ => rfl)) pa_nil))) (pg_name (i := 11) sc__law_changed.nd rfl (Or.inl rfl)))
    (pss_cons (ps_asg (pe_call (ok__law_word T) (hr.mono (by decide)) (by rfl) T.g__law_word T.k__law_word T.b__law_word .nil pass0 (pa_cons (pe_op op_fdiv (pv 5) pe_int) pa_nil)) (pg_sub (pe_ix ix_lstM (pv 6) pe_int (fun _ _ => rfl)) (pv 11) set_lstM))
    (pss_one (ps_expr (pe_meth (pv 0) T.cl_Store T.me_Store_put (ok_Store_put T) (hr.mono (by decide)) T.b_Store_put .nil pass0 (pa_cons (pe_ix ix_lstM (pv 6) pe_int (fun _ _ => rfl)) (pa_cons (pv 11) (pa_cons (pe_ix ix_lstM (pe_ix ix_lstM (pv 6) pe_int (fun _ _ => rfl)) (pv 11) (fun _ _ => rfl)) pa_nil)))))))) pss_nil)) (pss_one (ps_if (pt_cmpR op_eq (pv 3) pe_int (nomark _)) (pss_cons (ps_asg (pe_call (ok__law_word T) (hr.mono (by decide)) (by rfl) T.g__law_word T.k__law_word T.b__law_word .nil pass0 (pa_cons (pe_op op_fdiv (pv 5) pe_int) pa_nil)) (pg_sub (pv 6) pe_int set_lstM))
    (pss_one (ps_expr (pe_meth (pv 0) T.cl_Store T.me_Store_set_kind (ok_Store_set_kind T) (hr.mono (by decide)) T.b_Store_set_kind .nil pass0 (pa_cons (pe_ix ix_lstM (pv 6) pe_int (fun _ _ => rfl)) (pa_cons (pe_ix ix_lstM (pv 6) pe_int (fun _ _ => rfl)) pa_nil)))))) (pss_one (ps_if (pt_cmpR op_lt (pv 3) pe_int (nomark _)) (pss_cons (ps_asg pe_bl (pg_sub (pv 6) pe_int set_lstM))
    (pss_one (ps_expr (pe_meth (pv 0) T.cl_Store T.me_Store_drop (ok_Store_drop T) (hr.mono (by decide)) T.b_Store_drop .nil pass0 (pa_cons (pe_ix ix_lstM (pv 6) pe_int (fun _ _ => rfl)) pa_nil))))) (pss_cons (ps_expr (pe_meth (pv 0) T.cl_Store T.me_Store_exchange (ok_Store_exchange T) (hr.mono (by decide)) T.b_Store_exchange .nil pass0 (pa_cons (pe_ix ix_lstM (pv 6) pe_int (fun _ _ => rfl)) (pa_cons (pe_ix ix_lstM (pv 10) pe_int (fun _ _ => rfl)) pa_nil))))
    (pss_cons (ps_asg (pe_ix ix_lstM (pv 6) pe_int (fun _ _ => rfl)) (pg_name (i := 12) sc__law_changed.nd rfl (Or.inl rfl)))
    (pss_cons (ps_asg (pe_ix ix_lstM (pv 10) pe_int (fun _ _ => rfl)) (pg_sub (pv 6) pe_int set_lstM))
    (pss_one (ps_asg (pv 12) (pg_sub (pv 10) pe_int set_lstM)))))))))))))))))), ?_⟩
    obtain ⟨s, rl, tk, rm, en, deed, x, G0, N, M, bs, ts, G1, G, rfl, Z, hN, hM, k⟩ := h
    have sz : (300000 : Nat) ≤ sizeLine := by decide
    simp (config := { maxSteps := 4000000 }) only [tSeq, tNext, tDrop, tRet, tRetN, tIfS, tAsg, tTest, tAnd, tOr, tNot, tAndV, tOrV, tNotV, tIf, tOp, tUn, tVar, tC, tCB, tCons, tNil, tCall, tPart, tNoPart, tM0, tM1, tTup, tLst, tB, tIsN, tNotN, rI0, rI, rU, rEq, rNe, rAdd, gName, gTup, gCons, gNil, gSub, rSetL, rIxL, rIxT, rIxS, L2.start,
      List.map_cons, List.map_nil, List.cons_append, List.nil_append, List.append_nil, List.length_cons, List.length_nil, List.replicate, List.getElem?_cons_zero, List.getElem?_cons_succ, List.set_cons_zero, List.set_cons_succ, Nat.reduceAdd, Nat.reduceSub, Nat.sub_self, Nat.zero_add,
      Option.some.injEq, V.int.injEq, V.str.injEq, V.bl.injEq, V.ref.injEq, V.ty.injEq, List.cons.injEq, and_true, true_and, exists_eq_left, exists_eq_left', exists_eq_right, exists_and_left, exists_and_right, exists_const, decide_eq_true_eq, decide_eq_false_iff_not, if_true, if_false, reduceIte, Bool.false_eq_true, Bool.not_eq_true', sc_ii, sc_ss, sc_bb, str1, cx_K, lstAt, rIxM, rSetM, rLenM, atI_0, atI_1, atI_2, atI_3, setI_0, setI_1, setI_2, setI_3, upd_same, upd_upd, ite_true, ite_false, exists_eq', eq_self, and_assoc, rIsS, isTy_bb, isTy_bi, isTy_ib, isTy_ii, isTy_ss, isTy_nb, isTy_ni, Bool.not_true, Bool.not_false, not_true_eq_false, not_false_eq_true, tChain, tRz1, tRz2, rIsX, tFx, tMethE, tCallS, tCallZ, tMeth, tMake, tFld, sFld, HO.ins.injEq, HO.lst.injEq, HO.dK.injEq, HO.tup.injEq, dcAt, rDInM, rDGetM, rDSetM, rDLenM, keyOf_int, keyOf_str, rIsBM, plainV_b, plainV_i, plainV_n, plainV_s, rInM, rListM, rSortM, rSumM, rIsD, tBMM, tBM0M, tSl, rSlM, rAppend, rPop, rClear, wAs, reduceCtorEq, false_implies, true_implies, implies_true, forall_const, cxH_K, clsV_ref, clsV_ty, HO.xd.injEq, Value.ref.injEq, lkc, lkn, pfn, pfc, List.map_nil, rExtend, rCat, rRep, tMethE0, rSortD, rPush, rPopH, tDGetM, gAll, iRev, tCB, sDDel, exf_NoRoom T, exf_NoNumber T, sne_Store_room_entries, sne_Store_room_words, sne_Store_entries_words, sne_Store_room__places, sne_Store_entries__places, sne_Store_words__places, sne_Store_room__free, sne_Store_entries__free, sne_Store_words__free, sne_Store__places__free, sne_Store_room__fresh, sne_Store_entries__fresh, sne_Store_words__fresh, sne_Store__places__fresh, sne_Store__free__fresh, T.no_NoRoom_need, T.ex_NoRoom_NoNumber, T.ex_NoRoom_SaggarError, T.kit_NoRoom_NoNumber, T.kit_NoRoom_NoRoom, T.no_NoNumber_limit, T.ex_NoNumber_NoNumber, T.ex_NoNumber_SaggarError, T.kit_NoNumber_NoNumber, T.kit_NoNumber_NoRoom, rIsL]
    refine ⟨⟨by decide, by decide⟩, fun σ2 H2 => ∃ (n7 n8 : Option V) (bs2 : List RB) (ts2 : List TS) (G12 G2 : Hp), σ2 = [some (V.ref s), some (V.ref rl), some (V.ref tk), some (V.int deed), some (V.int x), some (V.int (x / 16)), none, n7, n8, none, none, none, none] ∧ KS A H2 s rl tk rm en G0 N (M + 1) bs2 ts2 G12 G2, ?_, ?_⟩
    · have htk := Z.lx.get Z.tl
      obtain ⟨dx, w, d, f, fs, ho⟩ := Z.lx.ho
      have zlen := Z.len
      simp (config := { maxSteps := 4000000 }) only [tSeq, tNext, tDrop, tRet, tRetN, tIfS, tAsg, tTest, tAnd, tOr, tNot, tAndV, tOrV, tNotV, tIf, tOp, tUn, tVar, tC, tCB, tCons, tNil, tCall, tPart, tNoPart, tM0, tM1, tTup, tLst, tB, tIsN, tNotN, rI0, rI, rU, rEq, rNe, rAdd, gName, gTup, gCons, gNil, gSub, rSetL, rIxL, rIxT, rIxS, L2.start,
      List.map_cons, List.map_nil, List.cons_append, List.nil_append, List.append_nil, List.length_cons, List.length_nil, List.replicate, List.getElem?_cons_zero, List.getElem?_cons_succ, List.set_cons_zero, List.set_cons_succ, Nat.reduceAdd, Nat.reduceSub, Nat.sub_self, Nat.zero_add,
      Option.some.injEq, V.int.injEq, V.str.injEq, V.bl.injEq, V.ref.injEq, V.ty.injEq, List.cons.injEq, and_true, true_and, exists_eq_left, exists_eq_left', exists_eq_right, exists_and_left, exists_and_right, exists_const, decide_eq_true_eq, decide_eq_false_iff_not, if_true, if_false, reduceIte, Bool.false_eq_true, Bool.not_eq_true', sc_ii, sc_ss, sc_bb, str1, cx_K, lstAt, rIxM, rSetM, rLenM, atI_0, atI_1, atI_2, atI_3, setI_0, setI_1, setI_2, setI_3, upd_same, upd_upd, ite_true, ite_false, exists_eq', eq_self, and_assoc, rIsS, isTy_bb, isTy_bi, isTy_ib, isTy_ii, isTy_ss, isTy_nb, isTy_ni, Bool.not_true, Bool.not_false, not_true_eq_false, not_false_eq_true, tChain, tRz1, tRz2, rIsX, tFx, tMethE, tCallS, tCallZ, tMeth, tMake, tFld, sFld, HO.ins.injEq, HO.lst.injEq, HO.dK.injEq, HO.tup.injEq, dcAt, rDInM, rDGetM, rDSetM, rDLenM, keyOf_int, keyOf_str, rIsBM, plainV_b, plainV_i, plainV_n, plainV_s, rInM, rListM, rSortM, rSumM, rIsD, tBMM, tBM0M, tSl, rSlM, rAppend, rPop, rClear, wAs, reduceCtorEq, false_implies, true_implies, implies_true, forall_const, cxH_K, clsV_ref, clsV_ty, HO.xd.injEq, Value.ref.injEq, lkc, lkn, pfn, pfc, List.map_nil, rExtend, rCat, rRep, tMethE0, rSortD, rPush, rPopH, tDGetM, gAll, iRev, tCB, sDDel, exf_NoRoom T, exf_NoNumber T, sne_Store_room_entries, sne_Store_room_words, sne_Store_entries_words, sne_Store_room__places, sne_Store_entries__places, sne_Store_words__places, sne_Store_room__free, sne_Store_entries__free, sne_Store_words__free, sne_Store__places__free, sne_Store_room__fresh, sne_Store_entries__fresh, sne_Store_words__fresh, sne_Store__places__fresh, sne_Store__free__fresh, T.no_NoRoom_need, T.ex_NoRoom_NoNumber, T.ex_NoRoom_SaggarError, T.kit_NoRoom_NoNumber, T.kit_NoRoom_NoRoom, T.no_NoNumber_limit, T.ex_NoNumber_NoNumber, T.ex_NoNumber_SaggarError, T.kit_NoNumber_NoNumber, T.kit_NoNumber_NoRoom, htk]
      refine ite2 (fun c => ?_) (fun c => ite2 (fun c => ?_) (fun c => ite2 (fun c => ?_) (fun c => ⟨bs, ts, G1, G, Z.up (Nat.le_refl _) (Nat.le_succ _)⟩)))
      · refine ⟨dx, _, ho, stF_mclose, ?_⟩
        obtain ⟨F, S, R⟩ := Z.lx
        refine ⟨s, rm, en, obs bs, F, rfl, S, fun H1 S1 => ?_⟩
        have L1 : Lx A H1 s rl rm en (obs (bs.filter (·.o.al))) bs G := ⟨F, by rw [← obs_filter]; exact S1, R⟩
        have vw := L1.view
        refine lc_lstI (K := K) (refs bs) (fun i => (bs[i]?.map fun b => b.o.al).getD false) (fun i y => y = (bs[i]?.map fun b => V.ref b.r).getD .non) (fun R h => ⟨_, rfl, h⟩) (.inl (.inl L1.lst)) (by rw [refs_len]; omega) (fun i x H' R hx sm h => ?_) (fun i x H' R hx _ sm h => ?_) (fun D ys hD hy => ?_)
        · unfold refs at hx
          rw [List.getElem?_map] at hx
          obtain ⟨b, hb, e⟩ := Option.map_eq_some_iff.mp hx
          subst e
          rw [hb] at h
          have := sm _ _ (vw b (List.mem_of_getElem? hb)).1
          unfold rbL at this
          simp (config := { maxSteps := 4000000 }) only [tSeq, tNext, tDrop, tRet, tRetN, tIfS, tAsg, tTest, tAnd, tOr, tNot, tAndV, tOrV, tNotV, tIf, tOp, tUn, tVar, tC, tCB, tCons, tNil, tCall, tPart, tNoPart, tM0, tM1, tTup, tLst, tB, tIsN, tNotN, rI0, rI, rU, rEq, rNe, rAdd, gName, gTup, gCons, gNil, gSub, rSetL, rIxL, rIxT, rIxS, L2.start,
      List.map_cons, List.map_nil, List.cons_append, List.nil_append, List.append_nil, List.length_cons, List.length_nil, List.replicate, List.getElem?_cons_zero, List.getElem?_cons_succ, List.set_cons_zero, List.set_cons_succ, Nat.reduceAdd, Nat.reduceSub, Nat.sub_self, Nat.zero_add,
      Option.some.injEq, V.int.injEq, V.str.injEq, V.bl.injEq, V.ref.injEq, V.ty.injEq, List.cons.injEq, and_true, true_and, exists_eq_left, exists_eq_left', exists_eq_right, exists_and_left, exists_and_right, exists_const, decide_eq_true_eq, decide_eq_false_iff_not, if_true, if_false, reduceIte, Bool.false_eq_true, Bool.not_eq_true', sc_ii, sc_ss, sc_bb, str1, cx_K, lstAt, rIxM, rSetM, rLenM, atI_0, atI_1, atI_2, atI_3, setI_0, setI_1, setI_2, setI_3, upd_same, upd_upd, ite_true, ite_false, exists_eq', eq_self, and_assoc, rIsS, isTy_bb, isTy_bi, isTy_ib, isTy_ii, isTy_ss, isTy_nb, isTy_ni, Bool.not_true, Bool.not_false, not_true_eq_false, not_false_eq_true, tChain, tRz1, tRz2, rIsX, tFx, tMethE, tCallS, tCallZ, tMeth, tMake, tFld, sFld, HO.ins.injEq, HO.lst.injEq, HO.dK.injEq, HO.tup.injEq, dcAt, rDInM, rDGetM, rDSetM, rDLenM, keyOf_int, keyOf_str, rIsBM, plainV_b, plainV_i, plainV_n, plainV_s, rInM, rListM, rSortM, rSumM, rIsD, tBMM, tBM0M, tSl, rSlM, rAppend, rPop, rClear, wAs, reduceCtorEq, false_implies, true_implies, implies_true, forall_const, cxH_K, clsV_ref, clsV_ty, HO.xd.injEq, Value.ref.injEq, lkc, lkn, pfn, pfc, List.map_nil, rExtend, rCat, rRep, tMethE0, rSortD, rPush, rPopH, tDGetM, gAll, iRev, tCB, sDDel, exf_NoRoom T, exf_NoNumber T, sne_Store_room_entries, sne_Store_room_words, sne_Store_entries_words, sne_Store_room__places, sne_Store_entries__places, sne_Store_words__places, sne_Store_room__free, sne_Store_entries__free, sne_Store_words__free, sne_Store__places__free, sne_Store_room__fresh, sne_Store_entries__fresh, sne_Store_words__fresh, sne_Store__places__fresh, sne_Store__free__fresh, T.no_NoRoom_need, T.ex_NoRoom_NoNumber, T.ex_NoRoom_SaggarError, T.kit_NoRoom_NoNumber, T.kit_NoRoom_NoRoom, T.no_NoNumber_limit, T.ex_NoNumber_NoNumber, T.ex_NoNumber_SaggarError, T.kit_NoNumber_NoNumber, T.kit_NoNumber_NoRoom, this, atI_3]
          exact h
        · unfold refs at hx
          rw [List.getElem?_map] at hx
          obtain ⟨b, hb, e⟩ := Option.map_eq_some_iff.mp hx
          subst e
          simp (config := { maxSteps := 4000000 }) only [tSeq, tNext, tDrop, tRet, tRetN, tIfS, tAsg, tTest, tAnd, tOr, tNot, tAndV, tOrV, tNotV, tIf, tOp, tUn, tVar, tC, tCB, tCons, tNil, tCall, tPart, tNoPart, tM0, tM1, tTup, tLst, tB, tIsN, tNotN, rI0, rI, rU, rEq, rNe, rAdd, gName, gTup, gCons, gNil, gSub, rSetL, rIxL, rIxT, rIxS, L2.start,
      List.map_cons, List.map_nil, List.cons_append, List.nil_append, List.append_nil, List.length_cons, List.length_nil, List.replicate, List.getElem?_cons_zero, List.getElem?_cons_succ, List.set_cons_zero, List.set_cons_succ, Nat.reduceAdd, Nat.reduceSub, Nat.sub_self, Nat.zero_add,
      Option.some.injEq, V.int.injEq, V.str.injEq, V.bl.injEq, V.ref.injEq, V.ty.injEq, List.cons.injEq, and_true, true_and, exists_eq_left, exists_eq_left', exists_eq_right, exists_and_left, exists_and_right, exists_const, decide_eq_true_eq, decide_eq_false_iff_not, if_true, if_false, reduceIte, Bool.false_eq_true, Bool.not_eq_true', sc_ii, sc_ss, sc_bb, str1, cx_K, lstAt, rIxM, rSetM, rLenM, atI_0, atI_1, atI_2, atI_3, setI_0, setI_1, setI_2, setI_3, upd_same, upd_upd, ite_true, ite_false, exists_eq', eq_self, and_assoc, rIsS, isTy_bb, isTy_bi, isTy_ib, isTy_ii, isTy_ss, isTy_nb, isTy_ni, Bool.not_true, Bool.not_false, not_true_eq_false, not_false_eq_true, tChain, tRz1, tRz2, rIsX, tFx, tMethE, tCallS, tCallZ, tMeth, tMake, tFld, sFld, HO.ins.injEq, HO.lst.injEq, HO.dK.injEq, HO.tup.injEq, dcAt, rDInM, rDGetM, rDSetM, rDLenM, keyOf_int, keyOf_str, rIsBM, plainV_b, plainV_i, plainV_n, plainV_s, rInM, rListM, rSortM, rSumM, rIsD, tBMM, tBM0M, tSl, rSlM, rAppend, rPop, rClear, wAs, reduceCtorEq, false_implies, true_implies, implies_true, forall_const, cxH_K, clsV_ref, clsV_ty, HO.xd.injEq, Value.ref.injEq, lkc, lkn, pfn, pfc, List.map_nil, rExtend, rCat, rRep, tMethE0, rSortD, rPush, rPopH, tDGetM, gAll, iRev, tCB, sDDel, exf_NoRoom T, exf_NoNumber T, sne_Store_room_entries, sne_Store_room_words, sne_Store_entries_words, sne_Store_room__places, sne_Store_entries__places, sne_Store_words__places, sne_Store_room__free, sne_Store_entries__free, sne_Store_words__free, sne_Store__places__free, sne_Store_room__fresh, sne_Store_entries__fresh, sne_Store_words__fresh, sne_Store__places__fresh, sne_Store__free__fresh, T.no_NoRoom_need, T.ex_NoRoom_NoNumber, T.ex_NoRoom_SaggarError, T.kit_NoRoom_NoNumber, T.kit_NoRoom_NoRoom, T.no_NoNumber_limit, T.ex_NoNumber_NoNumber, T.ex_NoNumber_SaggarError, T.kit_NoNumber_NoNumber, T.kit_NoNumber_NoRoom, rIsL]
          exact h _ (by rw [hb]; rfl)
        · have e := hy.map
          rw [refs_len, range_pick] at e
          have e2 : ys = refs (bs.filter (·.o.al)) := e
          clear e hy
          subst e2
          have L2 := L1.same (same_new (o := HO.lst (refs (bs.filter (·.o.al)))) hD)
          have gD : upd H1 D (HO.lst (refs (bs.filter (·.o.al)))) D = some (.lst (refs (bs.filter (·.o.al)))) := upd_same
          have Dr : D ≠ rl := Ne.symm (ne_of_none L1.lst hD)
          have fl := List.length_filter_le (fun b : RB => b.o.al) bs
          show (match upd H1 D (HO.lst (refs (bs.filter (·.o.al)))) rl with | some (HO.lst xs) => _ | _ => False)
          generalize upd H1 D (HO.lst (refs (bs.filter (·.o.al)))) = H2 at L2 gD ⊢
          rw [L2.lst]
          refine ⟨⟨_, rfl⟩, D, rfl, _, by rw [upd_ne Dr]; exact gD, by rw [refs_len]; omega, bs.filter (·.o.al), ts, G1, G, ⟨L2.sub List.filter_sublist, Z.tl, Z.s1, Z.g1, Z.tok, Z.sg, by omega, fun b hb => Z.sl b (List.mem_filter.mp hb).1, Nat.le_succ_of_le Z.tm⟩⟩
      · refine ⟨dx, _, ho, stF_msnap, ?_⟩
        have Z0 := Z
        obtain ⟨F, S, R⟩ := Z.lx
        refine ⟨s, rm, en, obs bs, F, rfl, S, fun H1 T' D sm f sn => ?_⟩
        have Z1 := Z.uni sm f
        have sn1 : Sn (uni D G1) T' en (obs bs) := sn.same uni_l
        refine ⟨rl, bs, rfl, Z1.lx.lst, Z1.lx.view, by omega, fun b hb => by have := Z.sl b hb; omega, fun q cs H2 D2 sm2 f2 oe r => ?_⟩
        have Z2 := Z1.uni sm2 f2
        have sn2 := sn1.same (Z1.ug f2).2
        refine ⟨by decide, fun p hp => ?_⟩
        have f3 := Fresh.one (H1 := upd H2 p (HO.tup [V.ref T', V.ref q])) (u := HO.tup [V.ref T', V.ref q]) hp upd_same
        have Z3 := Z2.uni (same_new hp) f3
        have u3 := (Z2.ug f3).2
        have ce : cs.length = bs.length := by
          have := congrArg List.length oe
          unfold obs at this
          rw [List.length_map, List.length_map] at this
          exact this
        have tok : TOk (uni (upd (fun _ => none) p (HO.tup [V.ref T', V.ref q])) (uni D2 (uni D G1))) en N ⟨p, T', q, cs⟩ :=
          ⟨uni_l _ _ upd_same, by rw [oe]; exact sn2.same u3, u3 _ _ (uni_l _ _ r.lst), (r.one.same uni_l).same u3, by show cs.length ≤ N; omega, fun b hb => by
            have hm : b.o ∈ obs bs := by rw [← oe]; exact List.mem_map_of_mem hb
            obtain ⟨b', hb', e⟩ := List.mem_map.mp hm
            rw [← e]
            exact Z.sl b' hb'⟩
        have tm := Z.tm
        refine ⟨_, Z3.lx.get Z3.tl, by unfold trefs; rw [List.length_map]; omega, _, _, _, _, Z3.take tok⟩
      · have el : (trefs ts).isEmpty = decide (ts.length = 0) := by
          unfold trefs
          cases ts <;> simp
        have tr : TruV K (V.ref tk) H (!(trefs ts).isEmpty) := .inl ⟨_, .inl (.inl htk), rfl⟩
        rw [el] at tr
        refine ⟨_, tr, ?_⟩
        by_cases c2 : ts.length = 0
        · rw [decide_eq_true c2]
          exact ⟨bs, ts, G1, G, Z.up (Nat.le_refl _) (Nat.le_succ _)⟩
        · rw [decide_eq_false c2]
          obtain ⟨t, tm, at1⟩ := pick_ts (ts := ts) (by omega) (x / 16)
          have tok := Z.tok t tm
          have el2 : (trefs ts).length = ts.length := by unfold trefs; rw [List.length_map]
          refine ⟨by rw [el2]; omega, _, at1, dx, _, ho, stF_mrest, t.T, rfl, _, .inl (.inl (Z.lx.get (Z.s1 _ _ tok.pair))), .ref t.S, rfl, ?_⟩
          have Z0 := Z
          obtain ⟨F, S, R⟩ := Z.lx
          refine ⟨s, rm, en, obs bs, obs t.bs, F, t.S, rfl, S, tok.sn.same fun b o e => (R.fr b o (Z.s1 _ _ e)).1, fun H1 S1 => ?_⟩
          have L1 : Lx A H1 s rl rm en (obs t.bs) bs G := ⟨F, S1, R⟩
          have L2 := L1.sub (List.nil_sublist bs)
          rw [show refs [] = [] from rfl] at L2
          have g2 : upd H1 rl (HO.lst []) rl = some (.lst []) := upd_same
          show (match H1 rl with | some (HO.lst xs) => _ | _ => False)
          rw [L1.lst]
          refine ⟨⟨_, rfl⟩, t.T, rfl, _, .inl (.inl (L2.get (Z.s1 _ _ tok.pair))), .ref t.R, rfl, ?_⟩
          have tl := tok.len
          refine ⟨t.R, t.bs, rfl, L2.get (Z.s1 _ _ tok.lst), fun b hb => ⟨L2.get (Z.s1 _ _ (tok.vw b hb).1), L2.get (Z.s1 _ _ (tok.vw b hb).2)⟩, by omega, fun b hb => by have := tok.sl b hb; omega, fun q cs H2 D sm f oe r => ?_⟩
          have L3 := L2.adopt sm f r
          rw [← oe] at L3
          have ce : cs.length = t.bs.length := by
            have := congrArg List.length oe
            unfold obs at this
            rw [List.length_map, List.length_map] at this
            exact this
          refine ⟨q, rfl, _, sm _ _ g2, _, (f _ _ r.lst).2, by rw [refs_len]; show 0 + cs.length ≤ _; omega, cs, ts, G1, G, (Z.up (Nat.le_refl _) (Nat.le_succ _)).re L3 (by omega) fun b hb => ?_⟩
          have hm : b.o ∈ obs t.bs := by rw [← oe]; exact List.mem_map_of_mem hb
          obtain ⟨b', hb', e⟩ := List.mem_map.mp hm
          rw [← e]
          exact tok.sl b' hb'
    · rintro σ2 H2 ⟨n7, n8, bs2, ts2, G12, G2, rfl, Z2⟩
      have zlen := Z2.len
      simp (config := { maxSteps := 4000000 }) only [tSeq, tNext, tDrop, tRet, tRetN, tIfS, tAsg, tTest, tAnd, tOr, tNot, tAndV, tOrV, tNotV, tIf, tOp, tUn, tVar, tC, tCB, tCons, tNil, tCall, tPart, tNoPart, tM0, tM1, tTup, tLst, tB, tIsN, tNotN, rI0, rI, rU, rEq, rNe, rAdd, gName, gTup, gCons, gNil, gSub, rSetL, rIxL, rIxT, rIxS, L2.start,
      List.map_cons, List.map_nil, List.cons_append, List.nil_append, List.append_nil, List.length_cons, List.length_nil, List.replicate, List.getElem?_cons_zero, List.getElem?_cons_succ, List.set_cons_zero, List.set_cons_succ, Nat.reduceAdd, Nat.reduceSub, Nat.sub_self, Nat.zero_add,
      Option.some.injEq, V.int.injEq, V.str.injEq, V.bl.injEq, V.ref.injEq, V.ty.injEq, List.cons.injEq, and_true, true_and, exists_eq_left, exists_eq_left', exists_eq_right, exists_and_left, exists_and_right, exists_const, decide_eq_true_eq, decide_eq_false_iff_not, if_true, if_false, reduceIte, Bool.false_eq_true, Bool.not_eq_true', sc_ii, sc_ss, sc_bb, str1, cx_K, lstAt, rIxM, rSetM, rLenM, atI_0, atI_1, atI_2, atI_3, setI_0, setI_1, setI_2, setI_3, upd_same, upd_upd, ite_true, ite_false, exists_eq', eq_self, and_assoc, rIsS, isTy_bb, isTy_bi, isTy_ib, isTy_ii, isTy_ss, isTy_nb, isTy_ni, Bool.not_true, Bool.not_false, not_true_eq_false, not_false_eq_true, tChain, tRz1, tRz2, rIsX, tFx, tMethE, tCallS, tCallZ, tMeth, tMake, tFld, sFld, HO.ins.injEq, HO.lst.injEq, HO.dK.injEq, HO.tup.injEq, dcAt, rDInM, rDGetM, rDSetM, rDLenM, keyOf_int, keyOf_str, rIsBM, plainV_b, plainV_i, plainV_n, plainV_s, rInM, rListM, rSortM, rSumM, rIsD, tBMM, tBM0M, tSl, rSlM, rAppend, rPop, rClear, wAs, reduceCtorEq, false_implies, true_implies, implies_true, forall_const, cxH_K, clsV_ref, clsV_ty, HO.xd.injEq, Value.ref.injEq, lkc, lkn, pfn, pfc, List.map_nil, rExtend, rCat, rRep, tMethE0, rSortD, rPush, rPopH, tDGetM, gAll, iRev, tCB, sDDel, exf_NoRoom T, exf_NoNumber T, sne_Store_room_entries, sne_Store_room_words, sne_Store_entries_words, sne_Store_room__places, sne_Store_entries__places, sne_Store_words__places, sne_Store_room__free, sne_Store_entries__free, sne_Store_words__free, sne_Store__places__free, sne_Store_room__fresh, sne_Store_entries__fresh, sne_Store_words__fresh, sne_Store__places__fresh, sne_Store__free__fresh, T.no_NoRoom_need, T.ex_NoRoom_NoNumber, T.ex_NoRoom_SaggarError, T.kit_NoRoom_NoNumber, T.kit_NoRoom_NoRoom, T.no_NoNumber_limit, T.ex_NoNumber_NoNumber, T.ex_NoNumber_SaggarError, T.kit_NoNumber_NoNumber, T.kit_NoNumber_NoRoom, rIsL]
      refine ⟨rl, bs2, rfl, Z2.lx.lst, Z2.lx.view, by omega, fun p hp => ?_⟩
      have Z3 := Z2.same (same_new (o := HO.lst ((livI bs2).map V.int)) hp)
      have g3 : upd H2 p (HO.lst ((livI bs2).map V.int)) p = some (.lst ((livI bs2).map V.int)) := upd_same
      generalize upd H2 p (HO.lst ((livI bs2).map V.int)) = H3 at Z3 g3 ⊢
      refine ite2 (fun c => k _ _ _ _ _ Z3) (fun c => ?_)
      have el : ((livI bs2).map V.int).isEmpty = decide ((livI bs2).length = 0) := by
        cases livI bs2 <;> simp
      have tr : TruV K (V.ref p) H3 (!((livI bs2).map V.int).isEmpty) := .inl ⟨_, .inl (.inl g3), rfl⟩
      rw [el] at tr
      refine ⟨_, tr, ?_⟩
      by_cases c2 : (livI bs2).length = 0
      · rw [decide_eq_true c2]
        exact k _ _ _ _ _ Z3
      · rw [decide_eq_false c2]
        obtain ⟨j, b, at1, hj, hal⟩ := pick_liv (bs := bs2) (by omega) (x / 16)
        obtain ⟨i, q, at2, hi, hql⟩ := pick_liv (bs := bs2) (by omega) (x / 16 / 16)
        have r1 := refs_at hj
        have r2 := refs_at hi
        have lst := Z3.lx.lst
        have v1 := (Z3.lx.view b (List.mem_of_getElem? hj)).1
        have v1c := (Z3.lx.view b (List.mem_of_getElem? hj)).2
        have v2 := (Z3.lx.view q (List.mem_of_getElem? hi)).1
        unfold rbL at v1 v2
        rw [hal] at v1
        rw [hql] at v2
        obtain ⟨dx, w, d, f, fs, ho⟩ := Z3.lx.ho
        have nd := Z3.lx.nodup
        have oj := obs_at hj
        have oi := obs_at hi
        simp (config := { maxSteps := 4000000 }) only [tSeq, tNext, tDrop, tRet, tRetN, tIfS, tAsg, tTest, tAnd, tOr, tNot, tAndV, tOrV, tNotV, tIf, tOp, tUn, tVar, tC, tCB, tCons, tNil, tCall, tPart, tNoPart, tM0, tM1, tTup, tLst, tB, tIsN, tNotN, rI0, rI, rU, rEq, rNe, rAdd, gName, gTup, gCons, gNil, gSub, rSetL, rIxL, rIxT, rIxS, L2.start,
      List.map_cons, List.map_nil, List.cons_append, List.nil_append, List.append_nil, List.length_cons, List.length_nil, List.replicate, List.getElem?_cons_zero, List.getElem?_cons_succ, List.set_cons_zero, List.set_cons_succ, Nat.reduceAdd, Nat.reduceSub, Nat.sub_self, Nat.zero_add,
      Option.some.injEq, V.int.injEq, V.str.injEq, V.bl.injEq, V.ref.injEq, V.ty.injEq, List.cons.injEq, and_true, true_and, exists_eq_left, exists_eq_left', exists_eq_right, exists_and_left, exists_and_right, exists_const, decide_eq_true_eq, decide_eq_false_iff_not, if_true, if_false, reduceIte, Bool.false_eq_true, Bool.not_eq_true', sc_ii, sc_ss, sc_bb, str1, cx_K, lstAt, rIxM, rSetM, rLenM, atI_0, atI_1, atI_2, atI_3, setI_0, setI_1, setI_2, setI_3, upd_same, upd_upd, ite_true, ite_false, exists_eq', eq_self, and_assoc, rIsS, isTy_bb, isTy_bi, isTy_ib, isTy_ii, isTy_ss, isTy_nb, isTy_ni, Bool.not_true, Bool.not_false, not_true_eq_false, not_false_eq_true, tChain, tRz1, tRz2, rIsX, tFx, tMethE, tCallS, tCallZ, tMeth, tMake, tFld, sFld, HO.ins.injEq, HO.lst.injEq, HO.dK.injEq, HO.tup.injEq, dcAt, rDInM, rDGetM, rDSetM, rDLenM, keyOf_int, keyOf_str, rIsBM, plainV_b, plainV_i, plainV_n, plainV_s, rInM, rListM, rSortM, rSumM, rIsD, tBMM, tBM0M, tSl, rSlM, rAppend, rPop, rClear, wAs, reduceCtorEq, false_implies, true_implies, implies_true, forall_const, cxH_K, clsV_ref, clsV_ty, HO.xd.injEq, Value.ref.injEq, lkc, lkn, pfn, pfc, List.map_nil, rExtend, rCat, rRep, tMethE0, rSortD, rPush, rPopH, tDGetM, gAll, iRev, tCB, sDDel, exf_NoRoom T, exf_NoNumber T, sne_Store_room_entries, sne_Store_room_words, sne_Store_entries_words, sne_Store_room__places, sne_Store_entries__places, sne_Store_words__places, sne_Store_room__free, sne_Store_entries__free, sne_Store_words__free, sne_Store__places__free, sne_Store_room__fresh, sne_Store_entries__fresh, sne_Store_words__fresh, sne_Store__places__fresh, sne_Store__free__fresh, T.no_NoRoom_need, T.ex_NoRoom_NoNumber, T.ex_NoRoom_SaggarError, T.kit_NoRoom_NoNumber, T.kit_NoRoom_NoRoom, T.no_NoNumber_limit, T.ex_NoNumber_NoNumber, T.ex_NoNumber_SaggarError, T.kit_NoNumber_NoNumber, T.kit_NoNumber_NoRoom, g3, lst, at1, at2, r1, r2, v1, v1c, v2, ho, atI_0, atI_1, atI_2, List.length_map, T.cl_Store, T.no_Store_room, T.no_Store_entries, T.no_Store_words, T.no_Store__places, T.no_Store__free, T.no_Store__fresh, stF_room, stF_entries, stF_words, stF_places, stF_free, stF_fresh, stF_mused, stF_mexists, stF_mnumbers, stF_mfree, stF_malloc, stF_msize, stF_mkind, stF_mskind, stF_mget, stF_mput, stF_mslots, stF_mdrop, stF_mclose, stF_msnap, stF_mrest, stF_mexch, stF_len, stF_pf, stF_pd, stF_pl]
        have jb : j < bs2.length := (List.getElem?_eq_some_iff.mp hj).1
        refine ⟨by omega, ⟨by decide, by decide⟩, by omega, ?_⟩
        refine ite2 (fun c => ?_) (fun c => ite2 (fun c => ?_) (fun c => ite2 (fun c => ?_) (fun c => ?_)))
        · have el3 : (b.o.sl.map V.int).isEmpty = decide (b.o.sl.length = 0) := by
            cases b.o.sl <;> simp
          have tr3 : TruV K (V.ref b.c) H3 (!(b.o.sl.map V.int).isEmpty) := .inl ⟨_, .inl (.inl v1c), rfl⟩
          rw [el3] at tr3
          refine ⟨_, tr3, ?_⟩
          by_cases c3 : b.o.sl.length = 0
          · rw [decide_eq_true c3]
            exact k _ _ _ _ _ Z3
          · rw [decide_eq_false c3]
            refine ⟨⟨by decide, by decide⟩, by omega, ⟨by decide, by decide⟩, _, rfl, fun z => ?_⟩
            obtain ⟨a, ha⟩ := Int.eq_ofNat_of_zero_le (Int.emod_nonneg (x / 16 / 256) (show ((b.o.sl.length : Nat) : Int) ≠ 0 by omega))
            have alt := Int.emod_lt_of_pos (x / 16 / 256) (show (0 : Int) < (b.o.sl.length : Int) by omega)
            rw [ha] at alt ⊢
            have st : setI (b.o.sl.map V.int) (a : Int) (.int z) = some ((b.o.sl.set a z).map V.int) := by
              rw [setI_nat (by rw [List.length_map]; omega), List.map_set]
            simp (config := { maxSteps := 4000000 }) only [tSeq, tNext, tDrop, tRet, tRetN, tIfS, tAsg, tTest, tAnd, tOr, tNot, tAndV, tOrV, tNotV, tIf, tOp, tUn, tVar, tC, tCB, tCons, tNil, tCall, tPart, tNoPart, tM0, tM1, tTup, tLst, tB, tIsN, tNotN, rI0, rI, rU, rEq, rNe, rAdd, gName, gTup, gCons, gNil, gSub, rSetL, rIxL, rIxT, rIxS, L2.start,
      List.map_cons, List.map_nil, List.cons_append, List.nil_append, List.append_nil, List.length_cons, List.length_nil, List.replicate, List.getElem?_cons_zero, List.getElem?_cons_succ, List.set_cons_zero, List.set_cons_succ, Nat.reduceAdd, Nat.reduceSub, Nat.sub_self, Nat.zero_add,
      Option.some.injEq, V.int.injEq, V.str.injEq, V.bl.injEq, V.ref.injEq, V.ty.injEq, List.cons.injEq, and_true, true_and, exists_eq_left, exists_eq_left', exists_eq_right, exists_and_left, exists_and_right, exists_const, decide_eq_true_eq, decide_eq_false_iff_not, if_true, if_false, reduceIte, Bool.false_eq_true, Bool.not_eq_true', sc_ii, sc_ss, sc_bb, str1, cx_K, lstAt, rIxM, rSetM, rLenM, atI_0, atI_1, atI_2, atI_3, setI_0, setI_1, setI_2, setI_3, upd_same, upd_upd, ite_true, ite_false, exists_eq', eq_self, and_assoc, rIsS, isTy_bb, isTy_bi, isTy_ib, isTy_ii, isTy_ss, isTy_nb, isTy_ni, Bool.not_true, Bool.not_false, not_true_eq_false, not_false_eq_true, tChain, tRz1, tRz2, rIsX, tFx, tMethE, tCallS, tCallZ, tMeth, tMake, tFld, sFld, HO.ins.injEq, HO.lst.injEq, HO.dK.injEq, HO.tup.injEq, dcAt, rDInM, rDGetM, rDSetM, rDLenM, keyOf_int, keyOf_str, rIsBM, plainV_b, plainV_i, plainV_n, plainV_s, rInM, rListM, rSortM, rSumM, rIsD, tBMM, tBM0M, tSl, rSlM, rAppend, rPop, rClear, wAs, reduceCtorEq, false_implies, true_implies, implies_true, forall_const, cxH_K, clsV_ref, clsV_ty, HO.xd.injEq, Value.ref.injEq, lkc, lkn, pfn, pfc, List.map_nil, rExtend, rCat, rRep, tMethE0, rSortD, rPush, rPopH, tDGetM, gAll, iRev, tCB, sDDel, exf_NoRoom T, exf_NoNumber T, sne_Store_room_entries, sne_Store_room_words, sne_Store_entries_words, sne_Store_room__places, sne_Store_entries__places, sne_Store_words__places, sne_Store_room__free, sne_Store_entries__free, sne_Store_words__free, sne_Store__places__free, sne_Store_room__fresh, sne_Store_entries__fresh, sne_Store_words__fresh, sne_Store__places__fresh, sne_Store__free__fresh, T.no_NoRoom_need, T.ex_NoRoom_NoNumber, T.ex_NoRoom_SaggarError, T.kit_NoRoom_NoNumber, T.kit_NoRoom_NoRoom, T.no_NoNumber_limit, T.ex_NoNumber_NoNumber, T.ex_NoNumber_SaggarError, T.kit_NoNumber_NoNumber, T.kit_NoNumber_NoRoom, v1, v1c, st, atI_2]
            have Ld := Z3.lx.setc hj (b.o.sl.set a z)
            have hb4 : (bs2.set j ⟨b.r, b.c, { b.o with sl := b.o.sl.set a z }⟩)[j]? = some ⟨b.r, b.c, { b.o with sl := b.o.sl.set a z }⟩ := List.getElem?_set_self jb
            have x2 := (Ld.view _ (List.mem_of_getElem? hb4)).1
            have x3 := (Ld.view _ (List.mem_of_getElem? hb4)).2
            unfold rbL at x2
            have at4 : atI ((b.o.sl.set a z).map V.int) (a : Int) = some (.int z) := atI_nat (by rw [List.getElem?_map, List.getElem?_set_self (by omega)]; rfl)
            obtain ⟨dx, w, d, f, fs, ho⟩ := Ld.ho
            simp (config := { maxSteps := 4000000 }) only [tSeq, tNext, tDrop, tRet, tRetN, tIfS, tAsg, tTest, tAnd, tOr, tNot, tAndV, tOrV, tNotV, tIf, tOp, tUn, tVar, tC, tCB, tCons, tNil, tCall, tPart, tNoPart, tM0, tM1, tTup, tLst, tB, tIsN, tNotN, rI0, rI, rU, rEq, rNe, rAdd, gName, gTup, gCons, gNil, gSub, rSetL, rIxL, rIxT, rIxS, L2.start,
      List.map_cons, List.map_nil, List.cons_append, List.nil_append, List.append_nil, List.length_cons, List.length_nil, List.replicate, List.getElem?_cons_zero, List.getElem?_cons_succ, List.set_cons_zero, List.set_cons_succ, Nat.reduceAdd, Nat.reduceSub, Nat.sub_self, Nat.zero_add,
      Option.some.injEq, V.int.injEq, V.str.injEq, V.bl.injEq, V.ref.injEq, V.ty.injEq, List.cons.injEq, and_true, true_and, exists_eq_left, exists_eq_left', exists_eq_right, exists_and_left, exists_and_right, exists_const, decide_eq_true_eq, decide_eq_false_iff_not, if_true, if_false, reduceIte, Bool.false_eq_true, Bool.not_eq_true', sc_ii, sc_ss, sc_bb, str1, cx_K, lstAt, rIxM, rSetM, rLenM, atI_0, atI_1, atI_2, atI_3, setI_0, setI_1, setI_2, setI_3, upd_same, upd_upd, ite_true, ite_false, exists_eq', eq_self, and_assoc, rIsS, isTy_bb, isTy_bi, isTy_ib, isTy_ii, isTy_ss, isTy_nb, isTy_ni, Bool.not_true, Bool.not_false, not_true_eq_false, not_false_eq_true, tChain, tRz1, tRz2, rIsX, tFx, tMethE, tCallS, tCallZ, tMeth, tMake, tFld, sFld, HO.ins.injEq, HO.lst.injEq, HO.dK.injEq, HO.tup.injEq, dcAt, rDInM, rDGetM, rDSetM, rDLenM, keyOf_int, keyOf_str, rIsBM, plainV_b, plainV_i, plainV_n, plainV_s, rInM, rListM, rSortM, rSumM, rIsD, tBMM, tBM0M, tSl, rSlM, rAppend, rPop, rClear, wAs, reduceCtorEq, false_implies, true_implies, implies_true, forall_const, cxH_K, clsV_ref, clsV_ty, HO.xd.injEq, Value.ref.injEq, lkc, lkn, pfn, pfc, List.map_nil, rExtend, rCat, rRep, tMethE0, rSortD, rPush, rPopH, tDGetM, gAll, iRev, tCB, sDDel, exf_NoRoom T, exf_NoNumber T, sne_Store_room_entries, sne_Store_room_words, sne_Store_entries_words, sne_Store_room__places, sne_Store_entries__places, sne_Store_words__places, sne_Store_room__free, sne_Store_entries__free, sne_Store_words__free, sne_Store__places__free, sne_Store_room__fresh, sne_Store_entries__fresh, sne_Store_words__fresh, sne_Store__places__fresh, sne_Store__free__fresh, T.no_NoRoom_need, T.ex_NoRoom_NoNumber, T.ex_NoRoom_SaggarError, T.kit_NoRoom_NoNumber, T.kit_NoRoom_NoRoom, T.no_NoNumber_limit, T.ex_NoNumber_NoNumber, T.ex_NoNumber_SaggarError, T.kit_NoNumber_NoNumber, T.kit_NoNumber_NoRoom, x2, x3, ho, atI_0, atI_2, at4, T.cl_Store, T.no_Store_room, T.no_Store_entries, T.no_Store_words, T.no_Store__places, T.no_Store__free, T.no_Store__fresh, stF_room, stF_entries, stF_words, stF_places, stF_free, stF_fresh, stF_mused, stF_mexists, stF_mnumbers, stF_mfree, stF_malloc, stF_msize, stF_mkind, stF_mskind, stF_mget, stF_mput, stF_mslots, stF_mdrop, stF_mclose, stF_msnap, stF_mrest, stF_mexch, stF_len, stF_pf, stF_pd, stF_pl]
            obtain ⟨F, S, R⟩ := Ld
            refine ⟨s, rm, en, _, F, b.o.num, b.o, a, z, rfl, S, getO_at nd oj hal, by omega, fun H4 S4 => ?_⟩
            rw [put_set nd oj hal] at S4
            refine k _ _ _ _ _ (Z3.re (bs' := bs2.set j ⟨b.r, b.c, { b.o with sl := b.o.sl.set a z }⟩) ⟨F, ?_, R⟩ (by rw [List.length_set]; exact Z3.len) (sl_set Z3.sl hj (by simp)))
            rw [obs_set]
            exact S4
        · refine ⟨⟨by decide, by decide⟩, _, rfl, fun z => ?_⟩
          simp (config := { maxSteps := 4000000 }) only [tSeq, tNext, tDrop, tRet, tRetN, tIfS, tAsg, tTest, tAnd, tOr, tNot, tAndV, tOrV, tNotV, tIf, tOp, tUn, tVar, tC, tCB, tCons, tNil, tCall, tPart, tNoPart, tM0, tM1, tTup, tLst, tB, tIsN, tNotN, rI0, rI, rU, rEq, rNe, rAdd, gName, gTup, gCons, gNil, gSub, rSetL, rIxL, rIxT, rIxS, L2.start,
      List.map_cons, List.map_nil, List.cons_append, List.nil_append, List.append_nil, List.length_cons, List.length_nil, List.replicate, List.getElem?_cons_zero, List.getElem?_cons_succ, List.set_cons_zero, List.set_cons_succ, Nat.reduceAdd, Nat.reduceSub, Nat.sub_self, Nat.zero_add,
      Option.some.injEq, V.int.injEq, V.str.injEq, V.bl.injEq, V.ref.injEq, V.ty.injEq, List.cons.injEq, and_true, true_and, exists_eq_left, exists_eq_left', exists_eq_right, exists_and_left, exists_and_right, exists_const, decide_eq_true_eq, decide_eq_false_iff_not, if_true, if_false, reduceIte, Bool.false_eq_true, Bool.not_eq_true', sc_ii, sc_ss, sc_bb, str1, cx_K, lstAt, rIxM, rSetM, rLenM, atI_0, atI_1, atI_2, atI_3, setI_0, setI_1, setI_2, setI_3, upd_same, upd_upd, ite_true, ite_false, exists_eq', eq_self, and_assoc, rIsS, isTy_bb, isTy_bi, isTy_ib, isTy_ii, isTy_ss, isTy_nb, isTy_ni, Bool.not_true, Bool.not_false, not_true_eq_false, not_false_eq_true, tChain, tRz1, tRz2, rIsX, tFx, tMethE, tCallS, tCallZ, tMeth, tMake, tFld, sFld, HO.ins.injEq, HO.lst.injEq, HO.dK.injEq, HO.tup.injEq, dcAt, rDInM, rDGetM, rDSetM, rDLenM, keyOf_int, keyOf_str, rIsBM, plainV_b, plainV_i, plainV_n, plainV_s, rInM, rListM, rSortM, rSumM, rIsD, tBMM, tBM0M, tSl, rSlM, rAppend, rPop, rClear, wAs, reduceCtorEq, false_implies, true_implies, implies_true, forall_const, cxH_K, clsV_ref, clsV_ty, HO.xd.injEq, Value.ref.injEq, lkc, lkn, pfn, pfc, List.map_nil, rExtend, rCat, rRep, tMethE0, rSortD, rPush, rPopH, tDGetM, gAll, iRev, tCB, sDDel, exf_NoRoom T, exf_NoNumber T, sne_Store_room_entries, sne_Store_room_words, sne_Store_entries_words, sne_Store_room__places, sne_Store_entries__places, sne_Store_words__places, sne_Store_room__free, sne_Store_entries__free, sne_Store_words__free, sne_Store__places__free, sne_Store_room__fresh, sne_Store_entries__fresh, sne_Store_words__fresh, sne_Store__places__fresh, sne_Store__free__fresh, T.no_NoRoom_need, T.ex_NoRoom_NoNumber, T.ex_NoRoom_SaggarError, T.kit_NoRoom_NoNumber, T.kit_NoRoom_NoRoom, T.no_NoNumber_limit, T.ex_NoNumber_NoNumber, T.ex_NoNumber_SaggarError, T.kit_NoNumber_NoNumber, T.kit_NoNumber_NoRoom, v1, setI_1]
          have Lb := Z3.lx.setr hj b.o.num z true
          have hb2 : (bs2.set j ⟨b.r, b.c, ⟨b.o.num, z, b.o.sl, true⟩⟩)[j]? = some ⟨b.r, b.c, ⟨b.o.num, z, b.o.sl, true⟩⟩ := List.getElem?_set_self jb
          obtain ⟨dx, w, d, f, fs, ho⟩ := Lb.ho
          simp (config := { maxSteps := 4000000 }) only [tSeq, tNext, tDrop, tRet, tRetN, tIfS, tAsg, tTest, tAnd, tOr, tNot, tAndV, tOrV, tNotV, tIf, tOp, tUn, tVar, tC, tCB, tCons, tNil, tCall, tPart, tNoPart, tM0, tM1, tTup, tLst, tB, tIsN, tNotN, rI0, rI, rU, rEq, rNe, rAdd, gName, gTup, gCons, gNil, gSub, rSetL, rIxL, rIxT, rIxS, L2.start,
      List.map_cons, List.map_nil, List.cons_append, List.nil_append, List.append_nil, List.length_cons, List.length_nil, List.replicate, List.getElem?_cons_zero, List.getElem?_cons_succ, List.set_cons_zero, List.set_cons_succ, Nat.reduceAdd, Nat.reduceSub, Nat.sub_self, Nat.zero_add,
      Option.some.injEq, V.int.injEq, V.str.injEq, V.bl.injEq, V.ref.injEq, V.ty.injEq, List.cons.injEq, and_true, true_and, exists_eq_left, exists_eq_left', exists_eq_right, exists_and_left, exists_and_right, exists_const, decide_eq_true_eq, decide_eq_false_iff_not, if_true, if_false, reduceIte, Bool.false_eq_true, Bool.not_eq_true', sc_ii, sc_ss, sc_bb, str1, cx_K, lstAt, rIxM, rSetM, rLenM, atI_0, atI_1, atI_2, atI_3, setI_0, setI_1, setI_2, setI_3, upd_same, upd_upd, ite_true, ite_false, exists_eq', eq_self, and_assoc, rIsS, isTy_bb, isTy_bi, isTy_ib, isTy_ii, isTy_ss, isTy_nb, isTy_ni, Bool.not_true, Bool.not_false, not_true_eq_false, not_false_eq_true, tChain, tRz1, tRz2, rIsX, tFx, tMethE, tCallS, tCallZ, tMeth, tMake, tFld, sFld, HO.ins.injEq, HO.lst.injEq, HO.dK.injEq, HO.tup.injEq, dcAt, rDInM, rDGetM, rDSetM, rDLenM, keyOf_int, keyOf_str, rIsBM, plainV_b, plainV_i, plainV_n, plainV_s, rInM, rListM, rSortM, rSumM, rIsD, tBMM, tBM0M, tSl, rSlM, rAppend, rPop, rClear, wAs, reduceCtorEq, false_implies, true_implies, implies_true, forall_const, cxH_K, clsV_ref, clsV_ty, HO.xd.injEq, Value.ref.injEq, lkc, lkn, pfn, pfc, List.map_nil, rExtend, rCat, rRep, tMethE0, rSortD, rPush, rPopH, tDGetM, gAll, iRev, tCB, sDDel, exf_NoRoom T, exf_NoNumber T, sne_Store_room_entries, sne_Store_room_words, sne_Store_entries_words, sne_Store_room__places, sne_Store_entries__places, sne_Store_words__places, sne_Store_room__free, sne_Store_entries__free, sne_Store_words__free, sne_Store__places__free, sne_Store_room__fresh, sne_Store_entries__fresh, sne_Store_words__fresh, sne_Store__places__fresh, sne_Store__free__fresh, T.no_NoRoom_need, T.ex_NoRoom_NoNumber, T.ex_NoRoom_SaggarError, T.kit_NoRoom_NoNumber, T.kit_NoRoom_NoRoom, T.no_NoNumber_limit, T.ex_NoNumber_NoNumber, T.ex_NoNumber_SaggarError, T.kit_NoNumber_NoNumber, T.kit_NoNumber_NoRoom, ho, atI_0, atI_1, T.cl_Store, T.no_Store_room, T.no_Store_entries, T.no_Store_words, T.no_Store__places, T.no_Store__free, T.no_Store__fresh, stF_room, stF_entries, stF_words, stF_places, stF_free, stF_fresh, stF_mused, stF_mexists, stF_mnumbers, stF_mfree, stF_malloc, stF_msize, stF_mkind, stF_mskind, stF_mget, stF_mput, stF_mslots, stF_mdrop, stF_mclose, stF_msnap, stF_mrest, stF_mexch, stF_len, stF_pf, stF_pd, stF_pl]
          obtain ⟨F, S, R⟩ := Lb
          refine ⟨s, rm, en, _, F, b.o.num, b.o, z, rfl, S, getO_at nd oj hal, fun H4 S4 => ?_⟩
          rw [kind_set nd oj hal] at S4
          refine k _ _ _ _ _ (Z3.re (bs' := bs2.set j ⟨b.r, b.c, ⟨b.o.num, z, b.o.sl, true⟩⟩) ⟨F, ?_, R⟩ (by rw [List.length_set]; exact Z3.len) (sl_set Z3.sl hj rfl))
          rw [obs_set, ← hal]
          exact S4
        · have La := Z3.lx.setr hj b.o.num b.o.kind false
          obtain ⟨dx, w, d, f, fs, ho⟩ := La.ho
          simp (config := { maxSteps := 4000000 }) only [tSeq, tNext, tDrop, tRet, tRetN, tIfS, tAsg, tTest, tAnd, tOr, tNot, tAndV, tOrV, tNotV, tIf, tOp, tUn, tVar, tC, tCB, tCons, tNil, tCall, tPart, tNoPart, tM0, tM1, tTup, tLst, tB, tIsN, tNotN, rI0, rI, rU, rEq, rNe, rAdd, gName, gTup, gCons, gNil, gSub, rSetL, rIxL, rIxT, rIxS, L2.start,
      List.map_cons, List.map_nil, List.cons_append, List.nil_append, List.append_nil, List.length_cons, List.length_nil, List.replicate, List.getElem?_cons_zero, List.getElem?_cons_succ, List.set_cons_zero, List.set_cons_succ, Nat.reduceAdd, Nat.reduceSub, Nat.sub_self, Nat.zero_add,
      Option.some.injEq, V.int.injEq, V.str.injEq, V.bl.injEq, V.ref.injEq, V.ty.injEq, List.cons.injEq, and_true, true_and, exists_eq_left, exists_eq_left', exists_eq_right, exists_and_left, exists_and_right, exists_const, decide_eq_true_eq, decide_eq_false_iff_not, if_true, if_false, reduceIte, Bool.false_eq_true, Bool.not_eq_true', sc_ii, sc_ss, sc_bb, str1, cx_K, lstAt, rIxM, rSetM, rLenM, atI_0, atI_1, atI_2, atI_3, setI_0, setI_1, setI_2, setI_3, upd_same, upd_upd, ite_true, ite_false, exists_eq', eq_self, and_assoc, rIsS, isTy_bb, isTy_bi, isTy_ib, isTy_ii, isTy_ss, isTy_nb, isTy_ni, Bool.not_true, Bool.not_false, not_true_eq_false, not_false_eq_true, tChain, tRz1, tRz2, rIsX, tFx, tMethE, tCallS, tCallZ, tMeth, tMake, tFld, sFld, HO.ins.injEq, HO.lst.injEq, HO.dK.injEq, HO.tup.injEq, dcAt, rDInM, rDGetM, rDSetM, rDLenM, keyOf_int, keyOf_str, rIsBM, plainV_b, plainV_i, plainV_n, plainV_s, rInM, rListM, rSortM, rSumM, rIsD, tBMM, tBM0M, tSl, rSlM, rAppend, rPop, rClear, wAs, reduceCtorEq, false_implies, true_implies, implies_true, forall_const, cxH_K, clsV_ref, clsV_ty, HO.xd.injEq, Value.ref.injEq, lkc, lkn, pfn, pfc, List.map_nil, rExtend, rCat, rRep, tMethE0, rSortD, rPush, rPopH, tDGetM, gAll, iRev, tCB, sDDel, exf_NoRoom T, exf_NoNumber T, sne_Store_room_entries, sne_Store_room_words, sne_Store_entries_words, sne_Store_room__places, sne_Store_entries__places, sne_Store_words__places, sne_Store_room__free, sne_Store_entries__free, sne_Store_words__free, sne_Store__places__free, sne_Store_room__fresh, sne_Store_entries__fresh, sne_Store_words__fresh, sne_Store__places__fresh, sne_Store__free__fresh, T.no_NoRoom_need, T.ex_NoRoom_NoNumber, T.ex_NoRoom_SaggarError, T.kit_NoRoom_NoNumber, T.kit_NoRoom_NoRoom, T.no_NoNumber_limit, T.ex_NoNumber_NoNumber, T.ex_NoNumber_SaggarError, T.kit_NoNumber_NoNumber, T.kit_NoNumber_NoRoom, ho, atI_0, atI_1, T.cl_Store, T.no_Store_room, T.no_Store_entries, T.no_Store_words, T.no_Store__places, T.no_Store__free, T.no_Store__fresh, stF_room, stF_entries, stF_words, stF_places, stF_free, stF_fresh, stF_mused, stF_mexists, stF_mnumbers, stF_mfree, stF_malloc, stF_msize, stF_mkind, stF_mskind, stF_mget, stF_mput, stF_mslots, stF_mdrop, stF_mclose, stF_msnap, stF_mrest, stF_mexch, stF_len, stF_pf, stF_pd, stF_pl]
          obtain ⟨F, S, R⟩ := La
          refine ⟨s, rm, en, _, F, b.o.num, rfl, S, mem_nums.mpr ⟨b.o, List.mem_of_getElem? oj, hasN_iff.mpr ⟨hal, rfl⟩⟩, fun H4 S4 => ?_⟩
          rw [drop_set nd oj hal] at S4
          refine k _ _ _ _ _ (Z3.re (bs' := bs2.set j ⟨b.r, b.c, ⟨b.o.num, b.o.kind, b.o.sl, false⟩⟩) ⟨F, ?_, R⟩ (by rw [List.length_set]; exact Z3.len) (sl_set Z3.sl hj rfl))
          rw [obs_set]
          exact S4
        · obtain ⟨F, S, R⟩ := Z3.lx
          refine ⟨s, rm, en, _, F, b.o.num, q.o.num, rfl, S, mem_nums.mpr ⟨b.o, List.mem_of_getElem? oj, hasN_iff.mpr ⟨hal, rfl⟩⟩, mem_nums.mpr ⟨q.o, List.mem_of_getElem? oi, hasN_iff.mpr ⟨hql, rfl⟩⟩, fun H4 S4 => ?_⟩
          have Lc : Lx A H4 s rl rm en (exch (obs bs2) b.o.num q.o.num) bs2 G2 := ⟨F, S4, R⟩
          have w1 := (Lc.view b (List.mem_of_getElem? hj)).1
          have w2 := (Lc.view q (List.mem_of_getElem? hi)).1
          unfold rbL at w1 w2
          rw [hal] at w1
          rw [hql] at w2
          simp (config := { maxSteps := 4000000 }) only [tSeq, tNext, tDrop, tRet, tRetN, tIfS, tAsg, tTest, tAnd, tOr, tNot, tAndV, tOrV, tNotV, tIf, tOp, tUn, tVar, tC, tCB, tCons, tNil, tCall, tPart, tNoPart, tM0, tM1, tTup, tLst, tB, tIsN, tNotN, rI0, rI, rU, rEq, rNe, rAdd, gName, gTup, gCons, gNil, gSub, rSetL, rIxL, rIxT, rIxS, L2.start,
      List.map_cons, List.map_nil, List.cons_append, List.nil_append, List.append_nil, List.length_cons, List.length_nil, List.replicate, List.getElem?_cons_zero, List.getElem?_cons_succ, List.set_cons_zero, List.set_cons_succ, Nat.reduceAdd, Nat.reduceSub, Nat.sub_self, Nat.zero_add,
      Option.some.injEq, V.int.injEq, V.str.injEq, V.bl.injEq, V.ref.injEq, V.ty.injEq, List.cons.injEq, and_true, true_and, exists_eq_left, exists_eq_left', exists_eq_right, exists_and_left, exists_and_right, exists_const, decide_eq_true_eq, decide_eq_false_iff_not, if_true, if_false, reduceIte, Bool.false_eq_true, Bool.not_eq_true', sc_ii, sc_ss, sc_bb, str1, cx_K, lstAt, rIxM, rSetM, rLenM, atI_0, atI_1, atI_2, atI_3, setI_0, setI_1, setI_2, setI_3, upd_same, upd_upd, ite_true, ite_false, exists_eq', eq_self, and_assoc, rIsS, isTy_bb, isTy_bi, isTy_ib, isTy_ii, isTy_ss, isTy_nb, isTy_ni, Bool.not_true, Bool.not_false, not_true_eq_false, not_false_eq_true, tChain, tRz1, tRz2, rIsX, tFx, tMethE, tCallS, tCallZ, tMeth, tMake, tFld, sFld, HO.ins.injEq, HO.lst.injEq, HO.dK.injEq, HO.tup.injEq, dcAt, rDInM, rDGetM, rDSetM, rDLenM, keyOf_int, keyOf_str, rIsBM, plainV_b, plainV_i, plainV_n, plainV_s, rInM, rListM, rSortM, rSumM, rIsD, tBMM, tBM0M, tSl, rSlM, rAppend, rPop, rClear, wAs, reduceCtorEq, false_implies, true_implies, implies_true, forall_const, cxH_K, clsV_ref, clsV_ty, HO.xd.injEq, Value.ref.injEq, lkc, lkn, pfn, pfc, List.map_nil, rExtend, rCat, rRep, tMethE0, rSortD, rPush, rPopH, tDGetM, gAll, iRev, tCB, sDDel, exf_NoRoom T, exf_NoNumber T, sne_Store_room_entries, sne_Store_room_words, sne_Store_entries_words, sne_Store_room__places, sne_Store_entries__places, sne_Store_words__places, sne_Store_room__free, sne_Store_entries__free, sne_Store_words__free, sne_Store__places__free, sne_Store_room__fresh, sne_Store_entries__fresh, sne_Store_words__fresh, sne_Store__places__fresh, sne_Store__free__fresh, T.no_NoRoom_need, T.ex_NoRoom_NoNumber, T.ex_NoRoom_SaggarError, T.kit_NoRoom_NoNumber, T.kit_NoRoom_NoRoom, T.no_NoNumber_limit, T.ex_NoNumber_NoNumber, T.ex_NoNumber_SaggarError, T.kit_NoNumber_NoNumber, T.kit_NoNumber_NoRoom, w1, w2, atI_0, setI_0]
          have Ld := Lc.setr hj q.o.num b.o.kind true
          have hq1 : (bs2.set j ⟨b.r, b.c, ⟨q.o.num, b.o.kind, b.o.sl, true⟩⟩)[i]? = some ⟨q.r, q.c, ⟨q.o.num, q.o.kind, q.o.sl, true⟩⟩ := by
            by_cases e : j = i
            · subst e
              rw [hj] at hi
              have e2 := Option.some.inj hi
              subst e2
              rw [List.getElem?_set_self jb]
            · rw [List.getElem?_set_ne e, hi, ← hql]
          have w3 := (Ld.view _ (List.mem_of_getElem? hq1)).1
          unfold rbL at w3
          have Le := Ld.setr hq1 b.o.num q.o.kind true
          simp (config := { maxSteps := 4000000 }) only [tSeq, tNext, tDrop, tRet, tRetN, tIfS, tAsg, tTest, tAnd, tOr, tNot, tAndV, tOrV, tNotV, tIf, tOp, tUn, tVar, tC, tCB, tCons, tNil, tCall, tPart, tNoPart, tM0, tM1, tTup, tLst, tB, tIsN, tNotN, rI0, rI, rU, rEq, rNe, rAdd, gName, gTup, gCons, gNil, gSub, rSetL, rIxL, rIxT, rIxS, L2.start,
      List.map_cons, List.map_nil, List.cons_append, List.nil_append, List.append_nil, List.length_cons, List.length_nil, List.replicate, List.getElem?_cons_zero, List.getElem?_cons_succ, List.set_cons_zero, List.set_cons_succ, Nat.reduceAdd, Nat.reduceSub, Nat.sub_self, Nat.zero_add,
      Option.some.injEq, V.int.injEq, V.str.injEq, V.bl.injEq, V.ref.injEq, V.ty.injEq, List.cons.injEq, and_true, true_and, exists_eq_left, exists_eq_left', exists_eq_right, exists_and_left, exists_and_right, exists_const, decide_eq_true_eq, decide_eq_false_iff_not, if_true, if_false, reduceIte, Bool.false_eq_true, Bool.not_eq_true', sc_ii, sc_ss, sc_bb, str1, cx_K, lstAt, rIxM, rSetM, rLenM, atI_0, atI_1, atI_2, atI_3, setI_0, setI_1, setI_2, setI_3, upd_same, upd_upd, ite_true, ite_false, exists_eq', eq_self, and_assoc, rIsS, isTy_bb, isTy_bi, isTy_ib, isTy_ii, isTy_ss, isTy_nb, isTy_ni, Bool.not_true, Bool.not_false, not_true_eq_false, not_false_eq_true, tChain, tRz1, tRz2, rIsX, tFx, tMethE, tCallS, tCallZ, tMeth, tMake, tFld, sFld, HO.ins.injEq, HO.lst.injEq, HO.dK.injEq, HO.tup.injEq, dcAt, rDInM, rDGetM, rDSetM, rDLenM, keyOf_int, keyOf_str, rIsBM, plainV_b, plainV_i, plainV_n, plainV_s, rInM, rListM, rSortM, rSumM, rIsD, tBMM, tBM0M, tSl, rSlM, rAppend, rPop, rClear, wAs, reduceCtorEq, false_implies, true_implies, implies_true, forall_const, cxH_K, clsV_ref, clsV_ty, HO.xd.injEq, Value.ref.injEq, lkc, lkn, pfn, pfc, List.map_nil, rExtend, rCat, rRep, tMethE0, rSortD, rPush, rPopH, tDGetM, gAll, iRev, tCB, sDDel, exf_NoRoom T, exf_NoNumber T, sne_Store_room_entries, sne_Store_room_words, sne_Store_entries_words, sne_Store_room__places, sne_Store_entries__places, sne_Store_words__places, sne_Store_room__free, sne_Store_entries__free, sne_Store_words__free, sne_Store__places__free, sne_Store_room__fresh, sne_Store_entries__fresh, sne_Store_words__fresh, sne_Store__places__fresh, sne_Store__free__fresh, T.no_NoRoom_need, T.ex_NoRoom_NoNumber, T.ex_NoRoom_SaggarError, T.kit_NoRoom_NoNumber, T.kit_NoRoom_NoRoom, T.no_NoNumber_limit, T.ex_NoNumber_NoNumber, T.ex_NoNumber_SaggarError, T.kit_NoNumber_NoNumber, T.kit_NoNumber_NoRoom, w3, setI_0]
          refine k _ _ _ _ _ (Z3.re (Le.row ?_) (by rw [List.length_set, List.length_set]; exact Z3.len) (sl_set (sl_set Z3.sl hj rfl) hq1 rfl))
          rw [obs_set, obs_set, exch_set nd oj oi hal hql, hal, hql]
end

section
variable {P : Program} {w : World} {K : PySem.W.Frag} {mg : Str → Option Value} {base : Heap} {A : Ad}
theorem hot__law_is (T : Txt K mg A) : L2H.FnH P w K mg base CX0 1 A.f__law_is A.d__law_is ["actual", "due"] sp_lis := by
  refine okH T.F__law_is sc__law_is (fun vs H Q E h => sp_lis_len h) (fun cdv Ar outer s H vs Q E p hot hr h => ?_)
  · refine ⟨_, (pss_one (ps_ret (pe_and (pe_callB call_isS (by rfl) T.z_isinstance (by decide +kernel) (pa_cons (pv 0) (pa_cons (pe_bltn (v := .ty "int") (by rfl) T.z_int (by decide +kernel) rfl) pa_nil))) (pe_and (pe_not (pe_callB call_isS (by rfl) T.z_isinstance (by decide +kernel) (pa_cons (pv 0) (pa_cons (pe_bltn (v := .ty "bool") (by rfl) T.z_bool (by decide +kernel) rfl) pa_nil)))) (pe_one (pe_cmpR op_eq (pv 0) (pv 1) (nomark _))))))), ?_⟩
    obtain ⟨a, b, rfl, k⟩ := h
    simp (config := { maxSteps := 4000000 }) only [tSeq, tNext, tDrop, tRet, tRetN, tIfS, tAsg, tTest, tAnd, tOr, tNot, tAndV, tOrV, tNotV, tIf, tOp, tUn, tVar, tC, tCB, tCons, tNil, tCall, tPart, tNoPart, tM0, tM1, tTup, tLst, tB, tIsN, tNotN, rI0, rI, rU, rEq, rNe, rAdd, gName, gTup, gCons, gNil, gSub, rSetL, rIxL, rIxT, rIxS, L2.start,
      List.map_cons, List.map_nil, List.cons_append, List.nil_append, List.append_nil, List.length_cons, List.length_nil, List.replicate, List.getElem?_cons_zero, List.getElem?_cons_succ, List.set_cons_zero, List.set_cons_succ, Nat.reduceAdd, Nat.reduceSub, Nat.sub_self, Nat.zero_add,
      Option.some.injEq, V.int.injEq, V.str.injEq, V.bl.injEq, V.ref.injEq, V.ty.injEq, List.cons.injEq, and_true, true_and, exists_eq_left, exists_eq_left', exists_eq_right, exists_and_left, exists_and_right, exists_const, decide_eq_true_eq, decide_eq_false_iff_not, if_true, if_false, reduceIte, Bool.false_eq_true, Bool.not_eq_true', sc_ii, sc_ss, sc_bb, str1, cx_K, lstAt, rIxM, rSetM, rLenM, atI_0, atI_1, atI_2, atI_3, setI_0, setI_1, setI_2, setI_3, upd_same, upd_upd, ite_true, ite_false, exists_eq', eq_self, and_assoc, rIsS, isTy_bb, isTy_bi, isTy_ib, isTy_ii, isTy_ss, isTy_nb, isTy_ni, Bool.not_true, Bool.not_false, not_true_eq_false, not_false_eq_true, tChain, tRz1, tRz2, rIsX, tFx, tMethE, tCallS, tCallZ, tMeth, tMake, tFld, sFld, HO.ins.injEq, HO.lst.injEq, HO.dK.injEq, HO.tup.injEq, dcAt, rDInM, rDGetM, rDSetM, rDLenM, keyOf_int, keyOf_str, rIsBM, plainV_b, plainV_i, plainV_n, plainV_s, rInM, rListM, rSortM, rSumM, rIsD, tBMM, tBM0M, tSl, rSlM, rAppend, rPop, rClear, wAs, reduceCtorEq, false_implies, true_implies, implies_true, forall_const, cxH_K, clsV_ref, clsV_ty, HO.xd.injEq, Value.ref.injEq, lkc, lkn, pfn, pfc, List.map_nil, rExtend, rCat, rRep, tMethE0, rSortD, rPush, rPopH, tDGetM, gAll, iRev, tCB, sDDel, exf_NoRoom T, exf_NoNumber T, sne_Store_room_entries, sne_Store_room_words, sne_Store_entries_words, sne_Store_room__places, sne_Store_entries__places, sne_Store_words__places, sne_Store_room__free, sne_Store_entries__free, sne_Store_words__free, sne_Store__places__free, sne_Store_room__fresh, sne_Store_entries__fresh, sne_Store_words__fresh, sne_Store__places__fresh, sne_Store__free__fresh, T.no_NoRoom_need, T.ex_NoRoom_NoNumber, T.ex_NoRoom_SaggarError, T.kit_NoRoom_NoNumber, T.kit_NoRoom_NoRoom, T.no_NoNumber_limit, T.ex_NoNumber_NoNumber, T.ex_NoNumber_SaggarError, T.kit_NoNumber_NoNumber, T.kit_NoNumber_NoRoom, rIsL]
    exact k
end

def sp_agrees (A : Ad) : Sp := fun vs H Q _ => ∃ (s rl : Addr) (rm en x : Int) (bs : List RB) (G : Hp), vs = [.ref s, .ref rl, .int en, .int x] ∧ Lx A H s rl rm en (obs bs) bs G ∧ bs.length ≤ 200 ∧ (∀ b ∈ bs, b.o.sl.length ≤ 79) ∧ ∀ H', Same H H' → Q (.bl true) H'
theorem sp_agrees_len {A vs H Q E} (h : sp_agrees A vs H Q E) : vs.length = (["store", "row", "entries", "x"] : List Str).length := by
  obtain ⟨_, _, _, _, _, _, _, rfl, _⟩ := h
  rfl
section
variable {P : Program} {w : World} {K : PySem.W.Frag} {mg : Str → Option Value} {base : Heap} {A : Ad}
theorem ok__law_agrees (T : Txt K mg A) : FnOk P w K mg base CX0 4 A.f__law_agrees A.d__law_agrees ["store", "row", "entries", "x"] (sp_agrees A) := by
  refine Fun.ok T.F__law_agrees sc__law_agrees (fun vs H Q E h => ?_) (fun cdv Ar outer s H vs Q E hr h => ?_)
  · exact sp_agrees_len h
  · have hu := hu_of hr
    refine ⟨_, (pss_cons (ps_asg (pe_call (ok__law_flat T) (hr.mono (by decide)) (by rfl) T.g__law_flat T.k__law_flat T.b__law_flat .nil pass0 (pa_cons (pv 1) pa_nil)) (pg_name (i := 4) sc__law_agrees.nd rfl (Or.inl rfl)))
    (pss_cons (ps_asg (pe_call (ok__law_living T) (hr.mono (by decide)) (by rfl) T.g__law_living T.k__law_living T.b__law_living .nil pass0 (pa_cons (pv 1) pa_nil)) (pg_name (i := 5) sc__law_agrees.nd rfl (Or.inl rfl)))
    (pss_cons (ps_if (PW.pt (pw_or (pt_not (pt_val (pe_call (ok__law_same T) (hr.mono (by decide)) (by rfl) T.g__law_same T.k__law_same T.b__law_same .nil pass0 (pa_cons (pe_fld (pv 0) rfl) (pa_cons (pv 4) pa_nil))))) (pw_or1 (pt_not (pt_val (pe_call (ok__law_is T) (hr.mono (by decide)) (by rfl) T.g__law_is T.k__law_is T.b__law_is .nil pass0 (pa_cons (pe_meth0 (pv 0) T.cl_Store T.me_Store_used (ok_Store_used T) (hr.mono (by decide)) T.b_Store_used .nil pass0) (pa_cons (pe_callB call_lenM (by rfl) T.z_len PySem.boot_len (pa_cons (pv 4) pa_nil)) pa_nil)))))))) (pss_one (ps_ret pe_bl)) pss_nil)
    (pss_cons (ps_if (pt_not (pt_val (pe_call (ok__law_same T) (hr.mono (by decide)) (by rfl) T.g__law_same T.k__law_same T.b__law_same .nil pass0 (pa_cons (pe_meth0 (pv 0) T.cl_Store T.me_Store_numbers (ok_Store_numbers T) (hr.mono (by decide)) T.b_Store_numbers .nil pass0) (pa_cons (pe_callB cr_sortM (by rfl) T.z_sorted (by decide +kernel) (pa_cons (pe_lc (own := [("k", 12)]) (g := gName 12) rfl sc__law_agrees.nd (pi_list (pv 5)) (blkOk_by (own := [("k", 12)]) (N := ["store", "row", "entries", "x", "flat", "living", "free", "e", "one", "number", "contents", "at", "k"]) (sc := defScope s__law_agrees) (by decide +kernel)) (fun _ _ _ _ _ => pg_name (i := 12) sc__law_agrees.nd rfl (Or.inl rfl)) (fun _ _ _ _ _ => pts_nil) (fun _ _ _ _ _ => (pe_ix ix_lstM (pe_ix ix_lstM (pv 1) (pv 12) (fun _ _ => rfl)) pe_int (fun _ _ => rfl)))) pa_nil)) pa_nil))))) (pss_one (ps_ret pe_bl)) pss_nil)
    (pss_cons (ps_asg (pe_call (ok__law_free T) (hr.mono (by decide)) (by rfl) T.g__law_free T.k__law_free T.b__law_free .nil pass0 (pa_cons (pv 1) pa_nil)) (pg_name (i := 6) sc__law_agrees.nd rfl (Or.inl rfl)))
    (pss_cons (ps_if (pt_cmpR op_isnot_bl (pe_meth (pv 0) T.cl_Store T.me_Store_exists (ok_Store_exists T) (hr.mono (by decide)) T.b_Store_exists .nil pass0 (pa_cons (pv 6) pa_nil)) pe_bl (nomark _)) (pss_one (ps_ret pe_bl)) pss_nil)
    (Evl.pss_cut (L2N.ps_try_as (i := 7) rfl rfl sc__law_agrees.nd rfl rfl ⟨rfl, by decide, Or.inl T.m_NoNumber⟩ takesN (fun W pn xe tk _ => (pss_one (ps_if (PW.pt (pw_or (pt_not (pt_val (pe_call (ok__law_is T) (hr.mono (by decide)) (by rfl) T.g__law_is T.k__law_is T.b__law_is .nil pass0 (pa_cons (pe_methE0 (pv 0) T.cl_Store T.me_Store_free_number (ok_Store_free_number T) (hr.mono (by decide)) T.b_Store_free_number (fun σ => L2N.passAt tk σ)) (pa_cons (pv 6) pa_nil))))) (pw_or1 (pt_cmpR op_ge (pv 6) (pv 2) (nomark _))))) (pss_one (ps_ret pe_bl)) pss_nil)))
      (fun a oe cls d pn hz hf => (pss_one (ps_if (PW.pt (pw_or (pt_not (pt_val (L2H.pe_callH (hot__law_is T) (roomH_suite (hr.mono (by decide))) (hotC_suite hz hf) (by rfl) T.g__law_is T.k__law_is T.b__law_is (fun σ => passAt0) (pa_cons (pe_fxs hz hf (pv 7)) (pa_cons (pv 2) pa_nil))))) (pw_or1 (pt_cmpR op_lt (pv 6) (pv 2) (nomark _))))) (pss_one (ps_ret pe_bl)) pss_nil))))
    (pss_cons (ps_if (pt_not (pt_truth (pv 5) (by intro _; rfl))) (pss_one (ps_ret pe_bl)) pss_nil)
    (pss_cons (ps_asg (pe_ix ix_lstM (pv 1) (pe_ix ix_lstM (pv 5) (pe_op op_mod (pe_callTy call_intI (by rfl) T.z_int (by decide +kernel) (pa_cons (pv 3) pa_nil)) (pe_callB call_lenM (by rfl) T.z_len PySem.boot_len (pa_cons (pv 5) pa_nil))) (fun _ _ => rfl)) (fun _ _ => rfl)) (pg_name (i := 8) sc__law_agrees.nd rfl (Or.inl rfl)))
    (pss_cons (ps_asg (pe_ix ix_lstM (pv 8) pe_int (fun _ _ => rfl)) (pg_name (i := 9) sc__law_agrees.nd rfl (Or.inr rfl)))
    (pss_cons (ps_if (PW.pt (pw_or (pt_cmpR op_isnot_bl (pe_meth (pv 0) T.cl_Store T.me_Store_exists (ok_Store_exists T) (hr.mono (by decide)) T.b_Store_exists .nil pass0 (pa_cons (pv 9) pa_nil)) pe_bl (nomark _)) (pw_or1 (pt_not (pt_val (pe_call (ok__law_is T) (hr.mono (by decide)) (by rfl) T.g__law_is T.k__law_is T.b__law_is .nil pass0 (pa_cons (pe_meth (pv 0) T.cl_Store T.me_Store_kind (ok_Store_kind T) (hr.mono (by decide)) T.b_Store_kind .nil pass0 (pa_cons (pv 9) pa_nil)) (pa_cons (pe_ix ix_lstM (pv 8) pe_int (fun _ _ => rfl)) pa_nil)))))))) (pss_one (ps_ret pe_bl)) pss_nil)
    (pss_cons (ps_setLc (i := 10) (own := [("at", 11)]) (g := gName 11) rfl sc__law_agrees.nd rfl rfl (sw_true rfl rfl rfl (by decide +kernel)) (pi_range1 (by rfl) T.z_range (pa_cons (pe_callB call_lenM (by rfl) T.z_len PySem.boot_len (pa_cons (pe_ix ix_lstM (pv 8) pe_int (fun _ _ => rfl)) pa_nil)) pa_nil)) (blkOk_by (own := [("at", 11)]) (N := ["store", "row", "entries", "x", "flat", "living", "free", "e", "one", "number", "contents", "at", "k"]) (sc := defScope s__law_agrees) (by decide +kernel)) (fun _ _ _ _ _ => pg_name (i := 11) sc__law_agrees.nd rfl (Or.inl rfl)) (fun _ _ _ _ _ => pts_nil) (fun _ _ _ _ _ => (pe_meth (pv 0) T.cl_Store T.me_Store_get (ok_Store_get T) (hr.mono (by decide)) T.b_Store_get .nil pass0 (pa_cons (pv 9) (pa_cons (pv 11) pa_nil)))))
    (pss_one (ps_ret (pe_and (pe_call (ok__law_same T) (hr.mono (by decide)) (by rfl) T.g__law_same T.k__law_same T.b__law_same .nil pass0 (pa_cons (pv 10) (pa_cons (pe_ix ix_lstM (pv 8) pe_int (fun _ _ => rfl)) pa_nil))) (pe_and (pe_call (ok__law_same T) (hr.mono (by decide)) (by rfl) T.g__law_same T.k__law_same T.b__law_same .nil pass0 (pa_cons (pe_meth (pv 0) T.cl_Store T.me_Store_slots (ok_Store_slots T) (hr.mono (by decide)) T.b_Store_slots .nil pass0 (pa_cons (pv 9) pa_nil)) (pa_cons (pe_ix ix_lstM (pv 8) pe_int (fun _ _ => rfl)) pa_nil))) (pe_one (pe_call (ok__law_is T) (hr.mono (by decide)) (by rfl) T.g__law_is T.k__law_is T.b__law_is .nil pass0 (pa_cons (pe_meth (pv 0) T.cl_Store T.me_Store_size (ok_Store_size T) (hr.mono (by decide)) T.b_Store_size .nil pass0 (pa_cons (pv 9) pa_nil)) (pa_cons (pe_callB call_lenM (by rfl) T.z_len PySem.boot_len (pa_cons (pe_ix ix_lstM (pv 8) pe_int (fun _ _ => rfl)) pa_nil)) pa_nil)))))))))))))))))))), ?_⟩
    obtain ⟨s, rl, rm, en, x, bs, G, rfl, L, hn, hsl, k⟩ := h
    have sz : (300000 : Nat) ≤ sizeLine := by decide
    have fl := obs_flat79 hsl
    simp (config := { maxSteps := 4000000 }) only [tSeq, tNext, tDrop, tRet, tRetN, tIfS, tAsg, tTest, tAnd, tOr, tNot, tAndV, tOrV, tNotV, tIf, tOp, tUn, tVar, tC, tCB, tCons, tNil, tCall, tPart, tNoPart, tM0, tM1, tTup, tLst, tB, tIsN, tNotN, rI0, rI, rU, rEq, rNe, rAdd, gName, gTup, gCons, gNil, gSub, rSetL, rIxL, rIxT, rIxS, L2.start,
      List.map_cons, List.map_nil, List.cons_append, List.nil_append, List.append_nil, List.length_cons, List.length_nil, List.replicate, List.getElem?_cons_zero, List.getElem?_cons_succ, List.set_cons_zero, List.set_cons_succ, Nat.reduceAdd, Nat.reduceSub, Nat.sub_self, Nat.zero_add,
      Option.some.injEq, V.int.injEq, V.str.injEq, V.bl.injEq, V.ref.injEq, V.ty.injEq, List.cons.injEq, and_true, true_and, exists_eq_left, exists_eq_left', exists_eq_right, exists_and_left, exists_and_right, exists_const, decide_eq_true_eq, decide_eq_false_iff_not, if_true, if_false, reduceIte, Bool.false_eq_true, Bool.not_eq_true', sc_ii, sc_ss, sc_bb, str1, cx_K, lstAt, rIxM, rSetM, rLenM, atI_0, atI_1, atI_2, atI_3, setI_0, setI_1, setI_2, setI_3, upd_same, upd_upd, ite_true, ite_false, exists_eq', eq_self, and_assoc, rIsS, isTy_bb, isTy_bi, isTy_ib, isTy_ii, isTy_ss, isTy_nb, isTy_ni, Bool.not_true, Bool.not_false, not_true_eq_false, not_false_eq_true, tChain, tRz1, tRz2, rIsX, tFx, tMethE, tCallS, tCallZ, tMeth, tMake, tFld, sFld, HO.ins.injEq, HO.lst.injEq, HO.dK.injEq, HO.tup.injEq, dcAt, rDInM, rDGetM, rDSetM, rDLenM, keyOf_int, keyOf_str, rIsBM, plainV_b, plainV_i, plainV_n, plainV_s, rInM, rListM, rSortM, rSumM, rIsD, tBMM, tBM0M, tSl, rSlM, rAppend, rPop, rClear, wAs, reduceCtorEq, false_implies, true_implies, implies_true, forall_const, cxH_K, clsV_ref, clsV_ty, HO.xd.injEq, Value.ref.injEq, lkc, lkn, pfn, pfc, List.map_nil, rExtend, rCat, rRep, tMethE0, rSortD, rPush, rPopH, tDGetM, gAll, iRev, tCB, sDDel, exf_NoRoom T, exf_NoNumber T, sne_Store_room_entries, sne_Store_room_words, sne_Store_entries_words, sne_Store_room__places, sne_Store_entries__places, sne_Store_words__places, sne_Store_room__free, sne_Store_entries__free, sne_Store_words__free, sne_Store__places__free, sne_Store_room__fresh, sne_Store_entries__fresh, sne_Store_words__fresh, sne_Store__places__fresh, sne_Store__free__fresh, T.no_NoRoom_need, T.ex_NoRoom_NoNumber, T.ex_NoRoom_SaggarError, T.kit_NoRoom_NoNumber, T.kit_NoRoom_NoRoom, T.no_NoNumber_limit, T.ex_NoNumber_NoNumber, T.ex_NoNumber_SaggarError, T.kit_NoNumber_NoNumber, T.kit_NoNumber_NoRoom, rIsL]
    refine ⟨rl, bs, rfl, L.lst, L.view, by omega, fun fa H1 sm1 hfa gfa => ?_⟩
    have L1 := L.same sm1
    refine ⟨rl, bs, rfl, L1.lst, L1.view, by omega, fun lv hlv => ?_⟩
    have Lb := L1.same (same_new (o := HO.lst ((livI bs).map V.int)) hlv)
    have smb := same_trans sm1 (same_new (o := HO.lst ((livI bs).map V.int)) hlv)
    have gl : upd H1 lv (HO.lst ((livI bs).map V.int)) lv = some (.lst ((livI bs).map V.int)) := upd_same
    have gf := same_new (o := HO.lst ((livI bs).map V.int)) hlv _ _ gfa
    generalize upd H1 lv (HO.lst ((livI bs).map V.int)) = H2 at Lb smb gl gf ⊢
    clear L1 sm1 hlv gfa hfa
    obtain ⟨dx, w, d, f, fs, ho, hw, hz⟩ := Lb.words
    have ll := livI_len (bs := bs)
    simp (config := { maxSteps := 4000000 }) only [tSeq, tNext, tDrop, tRet, tRetN, tIfS, tAsg, tTest, tAnd, tOr, tNot, tAndV, tOrV, tNotV, tIf, tOp, tUn, tVar, tC, tCB, tCons, tNil, tCall, tPart, tNoPart, tM0, tM1, tTup, tLst, tB, tIsN, tNotN, rI0, rI, rU, rEq, rNe, rAdd, gName, gTup, gCons, gNil, gSub, rSetL, rIxL, rIxT, rIxS, L2.start,
      List.map_cons, List.map_nil, List.cons_append, List.nil_append, List.append_nil, List.length_cons, List.length_nil, List.replicate, List.getElem?_cons_zero, List.getElem?_cons_succ, List.set_cons_zero, List.set_cons_succ, Nat.reduceAdd, Nat.reduceSub, Nat.sub_self, Nat.zero_add,
      Option.some.injEq, V.int.injEq, V.str.injEq, V.bl.injEq, V.ref.injEq, V.ty.injEq, List.cons.injEq, and_true, true_and, exists_eq_left, exists_eq_left', exists_eq_right, exists_and_left, exists_and_right, exists_const, decide_eq_true_eq, decide_eq_false_iff_not, if_true, if_false, reduceIte, Bool.false_eq_true, Bool.not_eq_true', sc_ii, sc_ss, sc_bb, str1, cx_K, lstAt, rIxM, rSetM, rLenM, atI_0, atI_1, atI_2, atI_3, setI_0, setI_1, setI_2, setI_3, upd_same, upd_upd, ite_true, ite_false, exists_eq', eq_self, and_assoc, rIsS, isTy_bb, isTy_bi, isTy_ib, isTy_ii, isTy_ss, isTy_nb, isTy_ni, Bool.not_true, Bool.not_false, not_true_eq_false, not_false_eq_true, tChain, tRz1, tRz2, rIsX, tFx, tMethE, tCallS, tCallZ, tMeth, tMake, tFld, sFld, HO.ins.injEq, HO.lst.injEq, HO.dK.injEq, HO.tup.injEq, dcAt, rDInM, rDGetM, rDSetM, rDLenM, keyOf_int, keyOf_str, rIsBM, plainV_b, plainV_i, plainV_n, plainV_s, rInM, rListM, rSortM, rSumM, rIsD, tBMM, tBM0M, tSl, rSlM, rAppend, rPop, rClear, wAs, reduceCtorEq, false_implies, true_implies, implies_true, forall_const, cxH_K, clsV_ref, clsV_ty, HO.xd.injEq, Value.ref.injEq, lkc, lkn, pfn, pfc, List.map_nil, rExtend, rCat, rRep, tMethE0, rSortD, rPush, rPopH, tDGetM, gAll, iRev, tCB, sDDel, exf_NoRoom T, exf_NoNumber T, sne_Store_room_entries, sne_Store_room_words, sne_Store_entries_words, sne_Store_room__places, sne_Store_entries__places, sne_Store_words__places, sne_Store_room__free, sne_Store_entries__free, sne_Store_words__free, sne_Store__places__free, sne_Store_room__fresh, sne_Store_entries__fresh, sne_Store_words__fresh, sne_Store__places__fresh, sne_Store__free__fresh, T.no_NoRoom_need, T.ex_NoRoom_NoNumber, T.ex_NoRoom_SaggarError, T.kit_NoRoom_NoNumber, T.kit_NoRoom_NoRoom, T.no_NoNumber_limit, T.ex_NoNumber_NoNumber, T.ex_NoNumber_SaggarError, T.kit_NoNumber_NoNumber, T.kit_NoNumber_NoRoom, ho, T.cl_Store, T.no_Store_room, T.no_Store_entries, T.no_Store_words, T.no_Store__places, T.no_Store__free, T.no_Store__fresh, stF_room, stF_entries, stF_words, stF_places, stF_free, stF_fresh, stF_mused, stF_mexists, stF_mnumbers, stF_mfree, stF_malloc, stF_msize, stF_mkind, stF_mskind, stF_mget, stF_mput, stF_mslots, stF_mdrop, stF_mclose, stF_msnap, stF_mrest, stF_mexch, stF_len, stF_pf, stF_pd, stF_pl]
    refine ⟨w, fa, flat (obs bs), rfl, hw, gf, hz, true, rfl, ?_⟩
    rw [if_neg (by decide)]
    simp (config := { maxSteps := 4000000 }) only [tSeq, tNext, tDrop, tRet, tRetN, tIfS, tAsg, tTest, tAnd, tOr, tNot, tAndV, tOrV, tNotV, tIf, tOp, tUn, tVar, tC, tCB, tCons, tNil, tCall, tPart, tNoPart, tM0, tM1, tTup, tLst, tB, tIsN, tNotN, rI0, rI, rU, rEq, rNe, rAdd, gName, gTup, gCons, gNil, gSub, rSetL, rIxL, rIxT, rIxS, L2.start,
      List.map_cons, List.map_nil, List.cons_append, List.nil_append, List.append_nil, List.length_cons, List.length_nil, List.replicate, List.getElem?_cons_zero, List.getElem?_cons_succ, List.set_cons_zero, List.set_cons_succ, Nat.reduceAdd, Nat.reduceSub, Nat.sub_self, Nat.zero_add,
      Option.some.injEq, V.int.injEq, V.str.injEq, V.bl.injEq, V.ref.injEq, V.ty.injEq, List.cons.injEq, and_true, true_and, exists_eq_left, exists_eq_left', exists_eq_right, exists_and_left, exists_and_right, exists_const, decide_eq_true_eq, decide_eq_false_iff_not, if_true, if_false, reduceIte, Bool.false_eq_true, Bool.not_eq_true', sc_ii, sc_ss, sc_bb, str1, cx_K, lstAt, rIxM, rSetM, rLenM, atI_0, atI_1, atI_2, atI_3, setI_0, setI_1, setI_2, setI_3, upd_same, upd_upd, ite_true, ite_false, exists_eq', eq_self, and_assoc, rIsS, isTy_bb, isTy_bi, isTy_ib, isTy_ii, isTy_ss, isTy_nb, isTy_ni, Bool.not_true, Bool.not_false, not_true_eq_false, not_false_eq_true, tChain, tRz1, tRz2, rIsX, tFx, tMethE, tCallS, tCallZ, tMeth, tMake, tFld, sFld, HO.ins.injEq, HO.lst.injEq, HO.dK.injEq, HO.tup.injEq, dcAt, rDInM, rDGetM, rDSetM, rDLenM, keyOf_int, keyOf_str, rIsBM, plainV_b, plainV_i, plainV_n, plainV_s, rInM, rListM, rSortM, rSumM, rIsD, tBMM, tBM0M, tSl, rSlM, rAppend, rPop, rClear, wAs, reduceCtorEq, false_implies, true_implies, implies_true, forall_const, cxH_K, clsV_ref, clsV_ty, HO.xd.injEq, Value.ref.injEq, lkc, lkn, pfn, pfc, List.map_nil, rExtend, rCat, rRep, tMethE0, rSortD, rPush, rPopH, tDGetM, gAll, iRev, tCB, sDDel, exf_NoRoom T, exf_NoNumber T, sne_Store_room_entries, sne_Store_room_words, sne_Store_entries_words, sne_Store_room__places, sne_Store_entries__places, sne_Store_words__places, sne_Store_room__free, sne_Store_entries__free, sne_Store_words__free, sne_Store__places__free, sne_Store_room__fresh, sne_Store_entries__fresh, sne_Store_words__fresh, sne_Store__places__fresh, sne_Store__free__fresh, T.no_NoRoom_need, T.ex_NoRoom_NoNumber, T.ex_NoRoom_SaggarError, T.kit_NoRoom_NoNumber, T.kit_NoRoom_NoRoom, T.no_NoNumber_limit, T.ex_NoNumber_NoNumber, T.ex_NoNumber_SaggarError, T.kit_NoNumber_NoNumber, T.kit_NoNumber_NoRoom, ho, T.cl_Store, T.no_Store_room, T.no_Store_entries, T.no_Store_words, T.no_Store__places, T.no_Store__free, T.no_Store__fresh, stF_room, stF_entries, stF_words, stF_places, stF_free, stF_fresh, stF_mused, stF_mexists, stF_mnumbers, stF_mfree, stF_malloc, stF_msize, stF_mkind, stF_mskind, stF_mget, stF_mput, stF_mslots, stF_mdrop, stF_mclose, stF_msnap, stF_mrest, stF_mexch, stF_len, stF_pf, stF_pd, stF_pl]
    obtain ⟨F, S, R⟩ := Lb
    have Lb : Lx A H2 s rl rm en (obs bs) bs G := ⟨F, S, R⟩
    refine used_of S ?_
    simp (config := { maxSteps := 4000000 }) only [tSeq, tNext, tDrop, tRet, tRetN, tIfS, tAsg, tTest, tAnd, tOr, tNot, tAndV, tOrV, tNotV, tIf, tOp, tUn, tVar, tC, tCB, tCons, tNil, tCall, tPart, tNoPart, tM0, tM1, tTup, tLst, tB, tIsN, tNotN, rI0, rI, rU, rEq, rNe, rAdd, gName, gTup, gCons, gNil, gSub, rSetL, rIxL, rIxT, rIxS, L2.start,
      List.map_cons, List.map_nil, List.cons_append, List.nil_append, List.append_nil, List.length_cons, List.length_nil, List.replicate, List.getElem?_cons_zero, List.getElem?_cons_succ, List.set_cons_zero, List.set_cons_succ, Nat.reduceAdd, Nat.reduceSub, Nat.sub_self, Nat.zero_add,
      Option.some.injEq, V.int.injEq, V.str.injEq, V.bl.injEq, V.ref.injEq, V.ty.injEq, List.cons.injEq, and_true, true_and, exists_eq_left, exists_eq_left', exists_eq_right, exists_and_left, exists_and_right, exists_const, decide_eq_true_eq, decide_eq_false_iff_not, if_true, if_false, reduceIte, Bool.false_eq_true, Bool.not_eq_true', sc_ii, sc_ss, sc_bb, str1, cx_K, lstAt, rIxM, rSetM, rLenM, atI_0, atI_1, atI_2, atI_3, setI_0, setI_1, setI_2, setI_3, upd_same, upd_upd, ite_true, ite_false, exists_eq', eq_self, and_assoc, rIsS, isTy_bb, isTy_bi, isTy_ib, isTy_ii, isTy_ss, isTy_nb, isTy_ni, Bool.not_true, Bool.not_false, not_true_eq_false, not_false_eq_true, tChain, tRz1, tRz2, rIsX, tFx, tMethE, tCallS, tCallZ, tMeth, tMake, tFld, sFld, HO.ins.injEq, HO.lst.injEq, HO.dK.injEq, HO.tup.injEq, dcAt, rDInM, rDGetM, rDSetM, rDLenM, keyOf_int, keyOf_str, rIsBM, plainV_b, plainV_i, plainV_n, plainV_s, rInM, rListM, rSortM, rSumM, rIsD, tBMM, tBM0M, tSl, rSlM, rAppend, rPop, rClear, wAs, reduceCtorEq, false_implies, true_implies, implies_true, forall_const, cxH_K, clsV_ref, clsV_ty, HO.xd.injEq, Value.ref.injEq, lkc, lkn, pfn, pfc, List.map_nil, rExtend, rCat, rRep, tMethE0, rSortD, rPush, rPopH, tDGetM, gAll, iRev, tCB, sDDel, exf_NoRoom T, exf_NoNumber T, sne_Store_room_entries, sne_Store_room_words, sne_Store_entries_words, sne_Store_room__places, sne_Store_entries__places, sne_Store_words__places, sne_Store_room__free, sne_Store_entries__free, sne_Store_words__free, sne_Store__places__free, sne_Store_room__fresh, sne_Store_entries__fresh, sne_Store_words__fresh, sne_Store__places__fresh, sne_Store__free__fresh, T.no_NoRoom_need, T.ex_NoRoom_NoNumber, T.ex_NoRoom_SaggarError, T.kit_NoRoom_NoNumber, T.kit_NoRoom_NoRoom, T.no_NoNumber_limit, T.ex_NoNumber_NoNumber, T.ex_NoNumber_SaggarError, T.kit_NoNumber_NoNumber, T.kit_NoNumber_NoRoom, gf, List.length_map]
    refine ⟨_, _, rfl, ?_⟩
    rw [decide_eq_true rfl]
    refine ⟨true, rfl, ?_⟩
    rw [if_neg (by decide)]
    simp (config := { maxSteps := 4000000 }) only [tSeq, tNext, tDrop, tRet, tRetN, tIfS, tAsg, tTest, tAnd, tOr, tNot, tAndV, tOrV, tNotV, tIf, tOp, tUn, tVar, tC, tCB, tCons, tNil, tCall, tPart, tNoPart, tM0, tM1, tTup, tLst, tB, tIsN, tNotN, rI0, rI, rU, rEq, rNe, rAdd, gName, gTup, gCons, gNil, gSub, rSetL, rIxL, rIxT, rIxS, L2.start,
      List.map_cons, List.map_nil, List.cons_append, List.nil_append, List.append_nil, List.length_cons, List.length_nil, List.replicate, List.getElem?_cons_zero, List.getElem?_cons_succ, List.set_cons_zero, List.set_cons_succ, Nat.reduceAdd, Nat.reduceSub, Nat.sub_self, Nat.zero_add,
      Option.some.injEq, V.int.injEq, V.str.injEq, V.bl.injEq, V.ref.injEq, V.ty.injEq, List.cons.injEq, and_true, true_and, exists_eq_left, exists_eq_left', exists_eq_right, exists_and_left, exists_and_right, exists_const, decide_eq_true_eq, decide_eq_false_iff_not, if_true, if_false, reduceIte, Bool.false_eq_true, Bool.not_eq_true', sc_ii, sc_ss, sc_bb, str1, cx_K, lstAt, rIxM, rSetM, rLenM, atI_0, atI_1, atI_2, atI_3, setI_0, setI_1, setI_2, setI_3, upd_same, upd_upd, ite_true, ite_false, exists_eq', eq_self, and_assoc, rIsS, isTy_bb, isTy_bi, isTy_ib, isTy_ii, isTy_ss, isTy_nb, isTy_ni, Bool.not_true, Bool.not_false, not_true_eq_false, not_false_eq_true, tChain, tRz1, tRz2, rIsX, tFx, tMethE, tCallS, tCallZ, tMeth, tMake, tFld, sFld, HO.ins.injEq, HO.lst.injEq, HO.dK.injEq, HO.tup.injEq, dcAt, rDInM, rDGetM, rDSetM, rDLenM, keyOf_int, keyOf_str, rIsBM, plainV_b, plainV_i, plainV_n, plainV_s, rInM, rListM, rSortM, rSumM, rIsD, tBMM, tBM0M, tSl, rSlM, rAppend, rPop, rClear, wAs, reduceCtorEq, false_implies, true_implies, implies_true, forall_const, cxH_K, clsV_ref, clsV_ty, HO.xd.injEq, Value.ref.injEq, lkc, lkn, pfn, pfc, List.map_nil, rExtend, rCat, rRep, tMethE0, rSortD, rPush, rPopH, tDGetM, gAll, iRev, tCB, sDDel, exf_NoRoom T, exf_NoNumber T, sne_Store_room_entries, sne_Store_room_words, sne_Store_entries_words, sne_Store_room__places, sne_Store_entries__places, sne_Store_words__places, sne_Store_room__free, sne_Store_entries__free, sne_Store_words__free, sne_Store__places__free, sne_Store_room__fresh, sne_Store_entries__fresh, sne_Store_words__fresh, sne_Store__places__fresh, sne_Store__free__fresh, T.no_NoRoom_need, T.ex_NoRoom_NoNumber, T.ex_NoRoom_SaggarError, T.kit_NoRoom_NoNumber, T.kit_NoRoom_NoRoom, T.no_NoNumber_limit, T.ex_NoNumber_NoNumber, T.ex_NoNumber_SaggarError, T.kit_NoNumber_NoNumber, T.kit_NoNumber_NoRoom, ho, T.cl_Store, T.no_Store_room, T.no_Store_entries, T.no_Store_words, T.no_Store__places, T.no_Store__free, T.no_Store__fresh, stF_room, stF_entries, stF_words, stF_places, stF_free, stF_fresh, stF_mused, stF_mexists, stF_mnumbers, stF_mfree, stF_malloc, stF_msize, stF_mkind, stF_mskind, stF_mget, stF_mput, stF_mslots, stF_mdrop, stF_mclose, stF_msnap, stF_mrest, stF_mexch, stF_len, stF_pf, stF_pd, stF_pl]
    refine ⟨s, rm, en, obs bs, F, rfl, S, fun zs q hz1 hz2 hq => ?_⟩
    have smc : Same H2 (upd H2 q (HO.lst (zs.map V.int))) := same_new hq
    have gq : upd H2 q (HO.lst (zs.map V.int)) q = some (.lst (zs.map V.int)) := upd_same
    generalize upd H2 q (HO.lst (zs.map V.int)) = H3 at smc gq ⊢
    have Lc := Lb.same smc
    have vw := Lc.view
    have lst := Lc.lst
    have nln : (nums (obs bs)).length ≤ bs.length := by
      have := nums_len (row := obs bs)
      unfold obs at this
      rw [List.length_map] at this
      exact this
    refine lc_lstI (K := K) ((livI bs).map V.int) (fun _ => true) (fun i y => y = ((livI bs)[i]?.map fun z => (bs[z.toNat]?.map fun b => V.int b.o.num).getD .non).getD .non) (fun R h => ⟨_, rfl, h⟩) (.inl (.inl (smc _ _ gl))) (by rw [List.length_map]; omega) (fun i x H' R hx sm h => h) (fun i x H' R hx _ sm h => ?_) (fun D ys hD hy => ?_)
    · rw [List.getElem?_map] at hx
      obtain ⟨z, hz, e⟩ := Option.map_eq_some_iff.mp hx
      subst e
      obtain ⟨j, b, rfl, hb, hal⟩ := liv_at hz
      have lst2 := sm _ _ lst
      have v := sm _ _ (vw b (List.mem_of_getElem? hb)).1
      have r1 := refs_at hb
      unfold rbL at v
      simp (config := { maxSteps := 4000000 }) only [tSeq, tNext, tDrop, tRet, tRetN, tIfS, tAsg, tTest, tAnd, tOr, tNot, tAndV, tOrV, tNotV, tIf, tOp, tUn, tVar, tC, tCB, tCons, tNil, tCall, tPart, tNoPart, tM0, tM1, tTup, tLst, tB, tIsN, tNotN, rI0, rI, rU, rEq, rNe, rAdd, gName, gTup, gCons, gNil, gSub, rSetL, rIxL, rIxT, rIxS, L2.start,
      List.map_cons, List.map_nil, List.cons_append, List.nil_append, List.append_nil, List.length_cons, List.length_nil, List.replicate, List.getElem?_cons_zero, List.getElem?_cons_succ, List.set_cons_zero, List.set_cons_succ, Nat.reduceAdd, Nat.reduceSub, Nat.sub_self, Nat.zero_add,
      Option.some.injEq, V.int.injEq, V.str.injEq, V.bl.injEq, V.ref.injEq, V.ty.injEq, List.cons.injEq, and_true, true_and, exists_eq_left, exists_eq_left', exists_eq_right, exists_and_left, exists_and_right, exists_const, decide_eq_true_eq, decide_eq_false_iff_not, if_true, if_false, reduceIte, Bool.false_eq_true, Bool.not_eq_true', sc_ii, sc_ss, sc_bb, str1, cx_K, lstAt, rIxM, rSetM, rLenM, atI_0, atI_1, atI_2, atI_3, setI_0, setI_1, setI_2, setI_3, upd_same, upd_upd, ite_true, ite_false, exists_eq', eq_self, and_assoc, rIsS, isTy_bb, isTy_bi, isTy_ib, isTy_ii, isTy_ss, isTy_nb, isTy_ni, Bool.not_true, Bool.not_false, not_true_eq_false, not_false_eq_true, tChain, tRz1, tRz2, rIsX, tFx, tMethE, tCallS, tCallZ, tMeth, tMake, tFld, sFld, HO.ins.injEq, HO.lst.injEq, HO.dK.injEq, HO.tup.injEq, dcAt, rDInM, rDGetM, rDSetM, rDLenM, keyOf_int, keyOf_str, rIsBM, plainV_b, plainV_i, plainV_n, plainV_s, rInM, rListM, rSortM, rSumM, rIsD, tBMM, tBM0M, tSl, rSlM, rAppend, rPop, rClear, wAs, reduceCtorEq, false_implies, true_implies, implies_true, forall_const, cxH_K, clsV_ref, clsV_ty, HO.xd.injEq, Value.ref.injEq, lkc, lkn, pfn, pfc, List.map_nil, rExtend, rCat, rRep, tMethE0, rSortD, rPush, rPopH, tDGetM, gAll, iRev, tCB, sDDel, exf_NoRoom T, exf_NoNumber T, sne_Store_room_entries, sne_Store_room_words, sne_Store_entries_words, sne_Store_room__places, sne_Store_entries__places, sne_Store_words__places, sne_Store_room__free, sne_Store_entries__free, sne_Store_words__free, sne_Store__places__free, sne_Store_room__fresh, sne_Store_entries__fresh, sne_Store_words__fresh, sne_Store__places__fresh, sne_Store__free__fresh, T.no_NoRoom_need, T.ex_NoRoom_NoNumber, T.ex_NoRoom_SaggarError, T.kit_NoRoom_NoNumber, T.kit_NoRoom_NoRoom, T.no_NoNumber_limit, T.ex_NoNumber_NoNumber, T.ex_NoNumber_SaggarError, T.kit_NoNumber_NoNumber, T.kit_NoNumber_NoRoom, lst2, r1, v, atI_0]
      exact h _ (by rw [hz]; show V.int b.o.num = (bs[((j : Int)).toNat]?.map _).getD .non; rw [Int.toNat_natCast, hb]; rfl)
    · have e := hy.allF
      rw [List.length_map, range_all (fun z : Int => (bs[z.toNat]?.map fun b => V.int b.o.num).getD .non) (livI bs), livI_nums] at e
      subst e
      have smd : Same H3 (upd H3 D (HO.lst ((nums (obs bs)).map V.int))) := same_new hD
      have gD : upd H3 D (HO.lst ((nums (obs bs)).map V.int)) D = some (.lst ((nums (obs bs)).map V.int)) := upd_same
      have gq2 := smd _ _ gq
      have Ld := Lc.same smd
      generalize upd H3 D (HO.lst ((nums (obs bs)).map V.int)) = H4 at smd gD gq2 Ld ⊢
      refine ⟨D, rfl, ?_⟩
      simp (config := { maxSteps := 4000000 }) only [tSeq, tNext, tDrop, tRet, tRetN, tIfS, tAsg, tTest, tAnd, tOr, tNot, tAndV, tOrV, tNotV, tIf, tOp, tUn, tVar, tC, tCB, tCons, tNil, tCall, tPart, tNoPart, tM0, tM1, tTup, tLst, tB, tIsN, tNotN, rI0, rI, rU, rEq, rNe, rAdd, gName, gTup, gCons, gNil, gSub, rSetL, rIxL, rIxT, rIxS, L2.start,
      List.map_cons, List.map_nil, List.cons_append, List.nil_append, List.append_nil, List.length_cons, List.length_nil, List.replicate, List.getElem?_cons_zero, List.getElem?_cons_succ, List.set_cons_zero, List.set_cons_succ, Nat.reduceAdd, Nat.reduceSub, Nat.sub_self, Nat.zero_add,
      Option.some.injEq, V.int.injEq, V.str.injEq, V.bl.injEq, V.ref.injEq, V.ty.injEq, List.cons.injEq, and_true, true_and, exists_eq_left, exists_eq_left', exists_eq_right, exists_and_left, exists_and_right, exists_const, decide_eq_true_eq, decide_eq_false_iff_not, if_true, if_false, reduceIte, Bool.false_eq_true, Bool.not_eq_true', sc_ii, sc_ss, sc_bb, str1, cx_K, lstAt, rIxM, rSetM, rLenM, atI_0, atI_1, atI_2, atI_3, setI_0, setI_1, setI_2, setI_3, upd_same, upd_upd, ite_true, ite_false, exists_eq', eq_self, and_assoc, rIsS, isTy_bb, isTy_bi, isTy_ib, isTy_ii, isTy_ss, isTy_nb, isTy_ni, Bool.not_true, Bool.not_false, not_true_eq_false, not_false_eq_true, tChain, tRz1, tRz2, rIsX, tFx, tMethE, tCallS, tCallZ, tMeth, tMake, tFld, sFld, HO.ins.injEq, HO.lst.injEq, HO.dK.injEq, HO.tup.injEq, dcAt, rDInM, rDGetM, rDSetM, rDLenM, keyOf_int, keyOf_str, rIsBM, plainV_b, plainV_i, plainV_n, plainV_s, rInM, rListM, rSortM, rSumM, rIsD, tBMM, tBM0M, tSl, rSlM, rAppend, rPop, rClear, wAs, reduceCtorEq, false_implies, true_implies, implies_true, forall_const, cxH_K, clsV_ref, clsV_ty, HO.xd.injEq, Value.ref.injEq, lkc, lkn, pfn, pfc, List.map_nil, rExtend, rCat, rRep, tMethE0, rSortD, rPush, rPopH, tDGetM, gAll, iRev, tCB, sDDel, exf_NoRoom T, exf_NoNumber T, sne_Store_room_entries, sne_Store_room_words, sne_Store_entries_words, sne_Store_room__places, sne_Store_entries__places, sne_Store_words__places, sne_Store_room__free, sne_Store_entries__free, sne_Store_words__free, sne_Store__places__free, sne_Store_room__fresh, sne_Store_entries__fresh, sne_Store_words__fresh, sne_Store__places__fresh, sne_Store__free__fresh, T.no_NoRoom_need, T.ex_NoRoom_NoNumber, T.ex_NoRoom_SaggarError, T.kit_NoRoom_NoNumber, T.kit_NoRoom_NoRoom, T.no_NoNumber_limit, T.ex_NoNumber_NoNumber, T.ex_NoNumber_SaggarError, T.kit_NoNumber_NoNumber, T.kit_NoNumber_NoRoom, gD]
      refine ⟨_, rfl, fun ys2 t hp2 hs2 ht => ?_⟩
      have eq : zs = ys2 := sorted_eq (hz1.trans hp2.symm) hz2 hs2
      subst eq
      have Le := Ld.same (same_new (o := HO.lst (zs.map V.int)) ht)
      have gt : upd H4 t (HO.lst (zs.map V.int)) t = some (.lst (zs.map V.int)) := upd_same
      have gq3 := same_new (o := HO.lst (zs.map V.int)) ht _ _ gq2
      have zl : zs.length ≤ 200 := by rw [hz1.length_eq]; omega
      have smH := same_trans smb (same_trans smc (same_trans smd (same_new (o := HO.lst (zs.map V.int)) ht)))
      have gl5 := same_new (o := HO.lst (zs.map V.int)) ht _ _ (smd _ _ (smc _ _ gl))
      generalize upd H4 t (HO.lst (zs.map V.int)) = H5 at Le gt gq3 smH gl5 ⊢
      refine ⟨q, t, zs, rfl, gq3, gt, by omega, true, rfl, ?_⟩
      rw [if_neg (by decide)]
      obtain ⟨n, hfr⟩ := Le.free
      refine ⟨rl, bs, rfl, Le.lst, Le.view, by omega, n, hfr, fun H6 sm6 => ?_⟩
      have Lf := Le.same sm6
      have smI := same_trans smH sm6
      have gl6 := sm6 _ _ gl5
      clear Le Ld Lc Lb smb smc smd smH sm6 gq gl gf lst vw
      obtain ⟨dx, w, d, f, fs, ho⟩ := Lf.ho
      obtain ⟨F, S, R⟩ := Lf
      have Lf : Lx A H6 s rl rm en (obs bs) bs G := ⟨F, S, R⟩
      simp (config := { maxSteps := 4000000 }) only [tSeq, tNext, tDrop, tRet, tRetN, tIfS, tAsg, tTest, tAnd, tOr, tNot, tAndV, tOrV, tNotV, tIf, tOp, tUn, tVar, tC, tCB, tCons, tNil, tCall, tPart, tNoPart, tM0, tM1, tTup, tLst, tB, tIsN, tNotN, rI0, rI, rU, rEq, rNe, rAdd, gName, gTup, gCons, gNil, gSub, rSetL, rIxL, rIxT, rIxS, L2.start,
      List.map_cons, List.map_nil, List.cons_append, List.nil_append, List.append_nil, List.length_cons, List.length_nil, List.replicate, List.getElem?_cons_zero, List.getElem?_cons_succ, List.set_cons_zero, List.set_cons_succ, Nat.reduceAdd, Nat.reduceSub, Nat.sub_self, Nat.zero_add,
      Option.some.injEq, V.int.injEq, V.str.injEq, V.bl.injEq, V.ref.injEq, V.ty.injEq, List.cons.injEq, and_true, true_and, exists_eq_left, exists_eq_left', exists_eq_right, exists_and_left, exists_and_right, exists_const, decide_eq_true_eq, decide_eq_false_iff_not, if_true, if_false, reduceIte, Bool.false_eq_true, Bool.not_eq_true', sc_ii, sc_ss, sc_bb, str1, cx_K, lstAt, rIxM, rSetM, rLenM, atI_0, atI_1, atI_2, atI_3, setI_0, setI_1, setI_2, setI_3, upd_same, upd_upd, ite_true, ite_false, exists_eq', eq_self, and_assoc, rIsS, isTy_bb, isTy_bi, isTy_ib, isTy_ii, isTy_ss, isTy_nb, isTy_ni, Bool.not_true, Bool.not_false, not_true_eq_false, not_false_eq_true, tChain, tRz1, tRz2, rIsX, tFx, tMethE, tCallS, tCallZ, tMeth, tMake, tFld, sFld, HO.ins.injEq, HO.lst.injEq, HO.dK.injEq, HO.tup.injEq, dcAt, rDInM, rDGetM, rDSetM, rDLenM, keyOf_int, keyOf_str, rIsBM, plainV_b, plainV_i, plainV_n, plainV_s, rInM, rListM, rSortM, rSumM, rIsD, tBMM, tBM0M, tSl, rSlM, rAppend, rPop, rClear, wAs, reduceCtorEq, false_implies, true_implies, implies_true, forall_const, cxH_K, clsV_ref, clsV_ty, HO.xd.injEq, Value.ref.injEq, lkc, lkn, pfn, pfc, List.map_nil, rExtend, rCat, rRep, tMethE0, rSortD, rPush, rPopH, tDGetM, gAll, iRev, tCB, sDDel, exf_NoRoom T, exf_NoNumber T, sne_Store_room_entries, sne_Store_room_words, sne_Store_entries_words, sne_Store_room__places, sne_Store_entries__places, sne_Store_words__places, sne_Store_room__free, sne_Store_entries__free, sne_Store_words__free, sne_Store__places__free, sne_Store_room__fresh, sne_Store_entries__fresh, sne_Store_words__fresh, sne_Store__places__fresh, sne_Store__free__fresh, T.no_NoRoom_need, T.ex_NoRoom_NoNumber, T.ex_NoRoom_SaggarError, T.kit_NoRoom_NoNumber, T.kit_NoRoom_NoRoom, T.no_NoNumber_limit, T.ex_NoNumber_NoNumber, T.ex_NoNumber_SaggarError, T.kit_NoNumber_NoNumber, T.kit_NoNumber_NoRoom, ho, T.cl_Store, T.no_Store_room, T.no_Store_entries, T.no_Store_words, T.no_Store__places, T.no_Store__free, T.no_Store__fresh, stF_room, stF_entries, stF_words, stF_places, stF_free, stF_fresh, stF_mused, stF_mexists, stF_mnumbers, stF_mfree, stF_malloc, stF_msize, stF_mkind, stF_mskind, stF_mget, stF_mput, stF_mslots, stF_mdrop, stF_mclose, stF_msnap, stF_mrest, stF_mexch, stF_len, stF_pf, stF_pd, stF_pl]
      refine ⟨s, rm, en, obs bs, F, n, rfl, S, ?_⟩
      rw [decide_eq_false hfr.2.1]
      refine ⟨_, rfl, ?_⟩
      rw [if_neg (by simp)]
      refine ⟨fun σ2 H' => ∃ n7 : Option V, σ2 = [some (V.ref s), some (V.ref rl), some (V.int en), some (V.int x), some (V.ref fa), some (V.ref lv), some (V.int n), n7, none, none, none, none, none] ∧ Same H H' ∧ Lx A H' s rl rm en (obs bs) bs G ∧ H' lv = some (.lst ((livI bs).map V.int)), ?_, ?_⟩
      · simp (config := { maxSteps := 4000000 }) only [tSeq, tNext, tDrop, tRet, tRetN, tIfS, tAsg, tTest, tAnd, tOr, tNot, tAndV, tOrV, tNotV, tIf, tOp, tUn, tVar, tC, tCB, tCons, tNil, tCall, tPart, tNoPart, tM0, tM1, tTup, tLst, tB, tIsN, tNotN, rI0, rI, rU, rEq, rNe, rAdd, gName, gTup, gCons, gNil, gSub, rSetL, rIxL, rIxT, rIxS, L2.start,
      List.map_cons, List.map_nil, List.cons_append, List.nil_append, List.append_nil, List.length_cons, List.length_nil, List.replicate, List.getElem?_cons_zero, List.getElem?_cons_succ, List.set_cons_zero, List.set_cons_succ, Nat.reduceAdd, Nat.reduceSub, Nat.sub_self, Nat.zero_add,
      Option.some.injEq, V.int.injEq, V.str.injEq, V.bl.injEq, V.ref.injEq, V.ty.injEq, List.cons.injEq, and_true, true_and, exists_eq_left, exists_eq_left', exists_eq_right, exists_and_left, exists_and_right, exists_const, decide_eq_true_eq, decide_eq_false_iff_not, if_true, if_false, reduceIte, Bool.false_eq_true, Bool.not_eq_true', sc_ii, sc_ss, sc_bb, str1, cx_K, lstAt, rIxM, rSetM, rLenM, atI_0, atI_1, atI_2, atI_3, setI_0, setI_1, setI_2, setI_3, upd_same, upd_upd, ite_true, ite_false, exists_eq', eq_self, and_assoc, rIsS, isTy_bb, isTy_bi, isTy_ib, isTy_ii, isTy_ss, isTy_nb, isTy_ni, Bool.not_true, Bool.not_false, not_true_eq_false, not_false_eq_true, tChain, tRz1, tRz2, rIsX, tFx, tMethE, tCallS, tCallZ, tMeth, tMake, tFld, sFld, HO.ins.injEq, HO.lst.injEq, HO.dK.injEq, HO.tup.injEq, dcAt, rDInM, rDGetM, rDSetM, rDLenM, keyOf_int, keyOf_str, rIsBM, plainV_b, plainV_i, plainV_n, plainV_s, rInM, rListM, rSortM, rSumM, rIsD, tBMM, tBM0M, tSl, rSlM, rAppend, rPop, rClear, wAs, reduceCtorEq, false_implies, true_implies, implies_true, forall_const, cxH_K, clsV_ref, clsV_ty, HO.xd.injEq, Value.ref.injEq, lkc, lkn, pfn, pfc, List.map_nil, rExtend, rCat, rRep, tMethE0, rSortD, rPush, rPopH, tDGetM, gAll, iRev, tCB, sDDel, exf_NoRoom T, exf_NoNumber T, sne_Store_room_entries, sne_Store_room_words, sne_Store_entries_words, sne_Store_room__places, sne_Store_entries__places, sne_Store_words__places, sne_Store_room__free, sne_Store_entries__free, sne_Store_words__free, sne_Store__places__free, sne_Store_room__fresh, sne_Store_entries__fresh, sne_Store_words__fresh, sne_Store__places__fresh, sne_Store__free__fresh, T.no_NoRoom_need, T.ex_NoRoom_NoNumber, T.ex_NoRoom_SaggarError, T.kit_NoRoom_NoNumber, T.kit_NoRoom_NoRoom, T.no_NoNumber_limit, T.ex_NoNumber_NoNumber, T.ex_NoNumber_SaggarError, T.kit_NoNumber_NoNumber, T.kit_NoNumber_NoRoom, ho, T.cl_Store, T.no_Store_room, T.no_Store_entries, T.no_Store_words, T.no_Store__places, T.no_Store__free, T.no_Store__fresh, stF_room, stF_entries, stF_words, stF_places, stF_free, stF_fresh, stF_mused, stF_mexists, stF_mnumbers, stF_mfree, stF_malloc, stF_msize, stF_mkind, stF_mskind, stF_mget, stF_mput, stF_mslots, stF_mdrop, stF_mclose, stF_msnap, stF_mrest, stF_mexch, stF_len, stF_pf, stF_pd, stF_pl]
        refine ⟨s, rm, en, obs bs, F, rfl, S, fun n' hn' => ?_⟩
        have e := hn'.uniq hfr
        subst e
        refine ⟨fun c => ?_, fun c dd hdd => ?_⟩
        · refine ⟨n', n', rfl, ?_⟩
          rw [decide_eq_true rfl]
          refine ⟨true, rfl, ?_⟩
          rw [if_neg (by decide), if_neg (by omega)]
          exact ⟨smI, Lf, gl6⟩
        · simp (config := { maxSteps := 4000000 }) only [tSeq, tNext, tDrop, tRet, tRetN, tIfS, tAsg, tTest, tAnd, tOr, tNot, tAndV, tOrV, tNotV, tIf, tOp, tUn, tVar, tC, tCB, tCons, tNil, tCall, tPart, tNoPart, tM0, tM1, tTup, tLst, tB, tIsN, tNotN, rI0, rI, rU, rEq, rNe, rAdd, gName, gTup, gCons, gNil, gSub, rSetL, rIxL, rIxT, rIxS, L2.start,
      List.map_cons, List.map_nil, List.cons_append, List.nil_append, List.append_nil, List.length_cons, List.length_nil, List.replicate, List.getElem?_cons_zero, List.getElem?_cons_succ, List.set_cons_zero, List.set_cons_succ, Nat.reduceAdd, Nat.reduceSub, Nat.sub_self, Nat.zero_add,
      Option.some.injEq, V.int.injEq, V.str.injEq, V.bl.injEq, V.ref.injEq, V.ty.injEq, List.cons.injEq, and_true, true_and, exists_eq_left, exists_eq_left', exists_eq_right, exists_and_left, exists_and_right, exists_const, decide_eq_true_eq, decide_eq_false_iff_not, if_true, if_false, reduceIte, Bool.false_eq_true, Bool.not_eq_true', sc_ii, sc_ss, sc_bb, str1, cx_K, lstAt, rIxM, rSetM, rLenM, atI_0, atI_1, atI_2, atI_3, setI_0, setI_1, setI_2, setI_3, upd_same, upd_upd, ite_true, ite_false, exists_eq', eq_self, and_assoc, rIsS, isTy_bb, isTy_bi, isTy_ib, isTy_ii, isTy_ss, isTy_nb, isTy_ni, Bool.not_true, Bool.not_false, not_true_eq_false, not_false_eq_true, tChain, tRz1, tRz2, rIsX, tFx, tMethE, tCallS, tCallZ, tMeth, tMake, tFld, sFld, HO.ins.injEq, HO.lst.injEq, HO.dK.injEq, HO.tup.injEq, dcAt, rDInM, rDGetM, rDSetM, rDLenM, keyOf_int, keyOf_str, rIsBM, plainV_b, plainV_i, plainV_n, plainV_s, rInM, rListM, rSortM, rSumM, rIsD, tBMM, tBM0M, tSl, rSlM, rAppend, rPop, rClear, wAs, reduceCtorEq, false_implies, true_implies, implies_true, forall_const, cxH_K, clsV_ref, clsV_ty, HO.xd.injEq, Value.ref.injEq, lkc, lkn, pfn, pfc, List.map_nil, rExtend, rCat, rRep, tMethE0, rSortD, rPush, rPopH, tDGetM, gAll, iRev, tCB, sDDel, exf_NoRoom T, exf_NoNumber T, sne_Store_room_entries, sne_Store_room_words, sne_Store_entries_words, sne_Store_room__places, sne_Store_entries__places, sne_Store_words__places, sne_Store_room__free, sne_Store_entries__free, sne_Store_words__free, sne_Store__places__free, sne_Store_room__fresh, sne_Store_entries__fresh, sne_Store_words__fresh, sne_Store__places__fresh, sne_Store__free__fresh, T.no_NoRoom_need, T.ex_NoRoom_NoNumber, T.ex_NoRoom_SaggarError, T.kit_NoRoom_NoNumber, T.kit_NoRoom_NoRoom, T.no_NoNumber_limit, T.ex_NoNumber_NoNumber, T.ex_NoNumber_SaggarError, T.kit_NoNumber_NoNumber, T.kit_NoNumber_NoRoom, hdd]
          refine fun a ha => ⟨en, en, rfl, ?_⟩
          rw [decide_eq_true rfl]
          refine ⟨true, rfl, ?_⟩
          rw [if_neg (by decide), if_neg (by omega)]
          exact ⟨same_trans smI (same_new hdd), Lf.same (same_new hdd), same_new hdd _ _ gl6⟩
      · rintro σ2 H7 ⟨n7, rfl, smJ, Lg, gl7⟩
        clear ho S R Lf
        have el : ((livI bs).map V.int).isEmpty = decide ((livI bs).length = 0) := by
          cases livI bs <;> simp
        have tr : TruV K (V.ref lv) H7 (!((livI bs).map V.int).isEmpty) := .inl ⟨_, .inl (.inl gl7), rfl⟩
        rw [el] at tr
        obtain ⟨dx, w, d, f, fs, ho⟩ := Lg.ho
        simp (config := { maxSteps := 4000000 }) only [tSeq, tNext, tDrop, tRet, tRetN, tIfS, tAsg, tTest, tAnd, tOr, tNot, tAndV, tOrV, tNotV, tIf, tOp, tUn, tVar, tC, tCB, tCons, tNil, tCall, tPart, tNoPart, tM0, tM1, tTup, tLst, tB, tIsN, tNotN, rI0, rI, rU, rEq, rNe, rAdd, gName, gTup, gCons, gNil, gSub, rSetL, rIxL, rIxT, rIxS, L2.start,
      List.map_cons, List.map_nil, List.cons_append, List.nil_append, List.append_nil, List.length_cons, List.length_nil, List.replicate, List.getElem?_cons_zero, List.getElem?_cons_succ, List.set_cons_zero, List.set_cons_succ, Nat.reduceAdd, Nat.reduceSub, Nat.sub_self, Nat.zero_add,
      Option.some.injEq, V.int.injEq, V.str.injEq, V.bl.injEq, V.ref.injEq, V.ty.injEq, List.cons.injEq, and_true, true_and, exists_eq_left, exists_eq_left', exists_eq_right, exists_and_left, exists_and_right, exists_const, decide_eq_true_eq, decide_eq_false_iff_not, if_true, if_false, reduceIte, Bool.false_eq_true, Bool.not_eq_true', sc_ii, sc_ss, sc_bb, str1, cx_K, lstAt, rIxM, rSetM, rLenM, atI_0, atI_1, atI_2, atI_3, setI_0, setI_1, setI_2, setI_3, upd_same, upd_upd, ite_true, ite_false, exists_eq', eq_self, and_assoc, rIsS, isTy_bb, isTy_bi, isTy_ib, isTy_ii, isTy_ss, isTy_nb, isTy_ni, Bool.not_true, Bool.not_false, not_true_eq_false, not_false_eq_true, tChain, tRz1, tRz2, rIsX, tFx, tMethE, tCallS, tCallZ, tMeth, tMake, tFld, sFld, HO.ins.injEq, HO.lst.injEq, HO.dK.injEq, HO.tup.injEq, dcAt, rDInM, rDGetM, rDSetM, rDLenM, keyOf_int, keyOf_str, rIsBM, plainV_b, plainV_i, plainV_n, plainV_s, rInM, rListM, rSortM, rSumM, rIsD, tBMM, tBM0M, tSl, rSlM, rAppend, rPop, rClear, wAs, reduceCtorEq, false_implies, true_implies, implies_true, forall_const, cxH_K, clsV_ref, clsV_ty, HO.xd.injEq, Value.ref.injEq, lkc, lkn, pfn, pfc, List.map_nil, rExtend, rCat, rRep, tMethE0, rSortD, rPush, rPopH, tDGetM, gAll, iRev, tCB, sDDel, exf_NoRoom T, exf_NoNumber T, sne_Store_room_entries, sne_Store_room_words, sne_Store_entries_words, sne_Store_room__places, sne_Store_entries__places, sne_Store_words__places, sne_Store_room__free, sne_Store_entries__free, sne_Store_words__free, sne_Store__places__free, sne_Store_room__fresh, sne_Store_entries__fresh, sne_Store_words__fresh, sne_Store__places__fresh, sne_Store__free__fresh, T.no_NoRoom_need, T.ex_NoRoom_NoNumber, T.ex_NoRoom_SaggarError, T.kit_NoRoom_NoNumber, T.kit_NoRoom_NoRoom, T.no_NoNumber_limit, T.ex_NoNumber_NoNumber, T.ex_NoNumber_SaggarError, T.kit_NoNumber_NoNumber, T.kit_NoNumber_NoRoom, rIsL]
        refine ⟨_, tr, ?_⟩
        by_cases c2 : (livI bs).length = 0
        · rw [decide_eq_true c2]
          exact k _ smJ
        · rw [decide_eq_false c2]
          obtain ⟨j, b, at1, hj, hal⟩ := pick_liv (bs := bs) (by omega) x
          have r1 := refs_at hj
          have lst := Lg.lst
          have v1 := (Lg.view b (List.mem_of_getElem? hj)).1
          have v1c := (Lg.view b (List.mem_of_getElem? hj)).2
          unfold rbL at v1
          rw [hal] at v1
          have nd := Lg.nodup
          have oj := obs_at hj
          have go := getO_at nd oj hal
          have hbs := hsl b (List.mem_of_getElem? hj)
          simp (config := { maxSteps := 4000000 }) only [tSeq, tNext, tDrop, tRet, tRetN, tIfS, tAsg, tTest, tAnd, tOr, tNot, tAndV, tOrV, tNotV, tIf, tOp, tUn, tVar, tC, tCB, tCons, tNil, tCall, tPart, tNoPart, tM0, tM1, tTup, tLst, tB, tIsN, tNotN, rI0, rI, rU, rEq, rNe, rAdd, gName, gTup, gCons, gNil, gSub, rSetL, rIxL, rIxT, rIxS, L2.start,
      List.map_cons, List.map_nil, List.cons_append, List.nil_append, List.append_nil, List.length_cons, List.length_nil, List.replicate, List.getElem?_cons_zero, List.getElem?_cons_succ, List.set_cons_zero, List.set_cons_succ, Nat.reduceAdd, Nat.reduceSub, Nat.sub_self, Nat.zero_add,
      Option.some.injEq, V.int.injEq, V.str.injEq, V.bl.injEq, V.ref.injEq, V.ty.injEq, List.cons.injEq, and_true, true_and, exists_eq_left, exists_eq_left', exists_eq_right, exists_and_left, exists_and_right, exists_const, decide_eq_true_eq, decide_eq_false_iff_not, if_true, if_false, reduceIte, Bool.false_eq_true, Bool.not_eq_true', sc_ii, sc_ss, sc_bb, str1, cx_K, lstAt, rIxM, rSetM, rLenM, atI_0, atI_1, atI_2, atI_3, setI_0, setI_1, setI_2, setI_3, upd_same, upd_upd, ite_true, ite_false, exists_eq', eq_self, and_assoc, rIsS, isTy_bb, isTy_bi, isTy_ib, isTy_ii, isTy_ss, isTy_nb, isTy_ni, Bool.not_true, Bool.not_false, not_true_eq_false, not_false_eq_true, tChain, tRz1, tRz2, rIsX, tFx, tMethE, tCallS, tCallZ, tMeth, tMake, tFld, sFld, HO.ins.injEq, HO.lst.injEq, HO.dK.injEq, HO.tup.injEq, dcAt, rDInM, rDGetM, rDSetM, rDLenM, keyOf_int, keyOf_str, rIsBM, plainV_b, plainV_i, plainV_n, plainV_s, rInM, rListM, rSortM, rSumM, rIsD, tBMM, tBM0M, tSl, rSlM, rAppend, rPop, rClear, wAs, reduceCtorEq, false_implies, true_implies, implies_true, forall_const, cxH_K, clsV_ref, clsV_ty, HO.xd.injEq, Value.ref.injEq, lkc, lkn, pfn, pfc, List.map_nil, rExtend, rCat, rRep, tMethE0, rSortD, rPush, rPopH, tDGetM, gAll, iRev, tCB, sDDel, exf_NoRoom T, exf_NoNumber T, sne_Store_room_entries, sne_Store_room_words, sne_Store_entries_words, sne_Store_room__places, sne_Store_entries__places, sne_Store_words__places, sne_Store_room__free, sne_Store_entries__free, sne_Store_words__free, sne_Store__places__free, sne_Store_room__fresh, sne_Store_entries__fresh, sne_Store_words__fresh, sne_Store__places__fresh, sne_Store__free__fresh, T.no_NoRoom_need, T.ex_NoRoom_NoNumber, T.ex_NoRoom_SaggarError, T.kit_NoRoom_NoNumber, T.kit_NoRoom_NoRoom, T.no_NoNumber_limit, T.ex_NoNumber_NoNumber, T.ex_NoNumber_SaggarError, T.kit_NoNumber_NoNumber, T.kit_NoNumber_NoRoom, gl7, lst, at1, r1, v1, v1c, ho, atI_0, atI_1, atI_2, List.length_map, T.cl_Store, T.no_Store_room, T.no_Store_entries, T.no_Store_words, T.no_Store__places, T.no_Store__free, T.no_Store__fresh, stF_room, stF_entries, stF_words, stF_places, stF_free, stF_fresh, stF_mused, stF_mexists, stF_mnumbers, stF_mfree, stF_malloc, stF_msize, stF_mkind, stF_mskind, stF_mget, stF_mput, stF_mslots, stF_mdrop, stF_mclose, stF_msnap, stF_mrest, stF_mexch, stF_len, stF_pf, stF_pd, stF_pl]
          obtain ⟨F, S, R⟩ := Lg
          refine ⟨by omega, s, rm, en, obs bs, F, b.o.num, rfl, S, ?_⟩
          rw [decide_eq_true (getO_nums go)]
          refine ⟨true, rfl, ?_⟩
          rw [if_neg (by simp)]
          refine ⟨dx, _, ho, stF_mkind, s, rm, en, obs bs, F, b.o.num, b.o, rfl, S, go, ?_⟩
          simp (config := { maxSteps := 4000000 }) only [tSeq, tNext, tDrop, tRet, tRetN, tIfS, tAsg, tTest, tAnd, tOr, tNot, tAndV, tOrV, tNotV, tIf, tOp, tUn, tVar, tC, tCB, tCons, tNil, tCall, tPart, tNoPart, tM0, tM1, tTup, tLst, tB, tIsN, tNotN, rI0, rI, rU, rEq, rNe, rAdd, gName, gTup, gCons, gNil, gSub, rSetL, rIxL, rIxT, rIxS, L2.start,
      List.map_cons, List.map_nil, List.cons_append, List.nil_append, List.append_nil, List.length_cons, List.length_nil, List.replicate, List.getElem?_cons_zero, List.getElem?_cons_succ, List.set_cons_zero, List.set_cons_succ, Nat.reduceAdd, Nat.reduceSub, Nat.sub_self, Nat.zero_add,
      Option.some.injEq, V.int.injEq, V.str.injEq, V.bl.injEq, V.ref.injEq, V.ty.injEq, List.cons.injEq, and_true, true_and, exists_eq_left, exists_eq_left', exists_eq_right, exists_and_left, exists_and_right, exists_const, decide_eq_true_eq, decide_eq_false_iff_not, if_true, if_false, reduceIte, Bool.false_eq_true, Bool.not_eq_true', sc_ii, sc_ss, sc_bb, str1, cx_K, lstAt, rIxM, rSetM, rLenM, atI_0, atI_1, atI_2, atI_3, setI_0, setI_1, setI_2, setI_3, upd_same, upd_upd, ite_true, ite_false, exists_eq', eq_self, and_assoc, rIsS, isTy_bb, isTy_bi, isTy_ib, isTy_ii, isTy_ss, isTy_nb, isTy_ni, Bool.not_true, Bool.not_false, not_true_eq_false, not_false_eq_true, tChain, tRz1, tRz2, rIsX, tFx, tMethE, tCallS, tCallZ, tMeth, tMake, tFld, sFld, HO.ins.injEq, HO.lst.injEq, HO.dK.injEq, HO.tup.injEq, dcAt, rDInM, rDGetM, rDSetM, rDLenM, keyOf_int, keyOf_str, rIsBM, plainV_b, plainV_i, plainV_n, plainV_s, rInM, rListM, rSortM, rSumM, rIsD, tBMM, tBM0M, tSl, rSlM, rAppend, rPop, rClear, wAs, reduceCtorEq, false_implies, true_implies, implies_true, forall_const, cxH_K, clsV_ref, clsV_ty, HO.xd.injEq, Value.ref.injEq, lkc, lkn, pfn, pfc, List.map_nil, rExtend, rCat, rRep, tMethE0, rSortD, rPush, rPopH, tDGetM, gAll, iRev, tCB, sDDel, exf_NoRoom T, exf_NoNumber T, sne_Store_room_entries, sne_Store_room_words, sne_Store_entries_words, sne_Store_room__places, sne_Store_entries__places, sne_Store_words__places, sne_Store_room__free, sne_Store_entries__free, sne_Store_words__free, sne_Store__places__free, sne_Store_room__fresh, sne_Store_entries__fresh, sne_Store_words__fresh, sne_Store__places__fresh, sne_Store__free__fresh, T.no_NoRoom_need, T.ex_NoRoom_NoNumber, T.ex_NoRoom_SaggarError, T.kit_NoRoom_NoNumber, T.kit_NoRoom_NoRoom, T.no_NoNumber_limit, T.ex_NoNumber_NoNumber, T.ex_NoNumber_SaggarError, T.kit_NoNumber_NoNumber, T.kit_NoNumber_NoRoom, v1, atI_1]
          refine ⟨_, _, rfl, ?_⟩
          rw [decide_eq_true rfl]
          refine ⟨true, rfl, ?_⟩
          rw [if_neg (by decide)]
          refine lc_rngI b.o.sl.length (fun _ => true) (fun i y => y = (b.o.sl[i]?.map V.int).getD .non) (fun R h => ?_) (by omega) (fun i H' R hi sm h => h) (fun i H' R hi _ sm h => ?_) (fun D ys hD hy => ?_)
          · simp (config := { maxSteps := 4000000 }) only [tSeq, tNext, tDrop, tRet, tRetN, tIfS, tAsg, tTest, tAnd, tOr, tNot, tAndV, tOrV, tNotV, tIf, tOp, tUn, tVar, tC, tCB, tCons, tNil, tCall, tPart, tNoPart, tM0, tM1, tTup, tLst, tB, tIsN, tNotN, rI0, rI, rU, rEq, rNe, rAdd, gName, gTup, gCons, gNil, gSub, rSetL, rIxL, rIxT, rIxS, L2.start,
      List.map_cons, List.map_nil, List.cons_append, List.nil_append, List.append_nil, List.length_cons, List.length_nil, List.replicate, List.getElem?_cons_zero, List.getElem?_cons_succ, List.set_cons_zero, List.set_cons_succ, Nat.reduceAdd, Nat.reduceSub, Nat.sub_self, Nat.zero_add,
      Option.some.injEq, V.int.injEq, V.str.injEq, V.bl.injEq, V.ref.injEq, V.ty.injEq, List.cons.injEq, and_true, true_and, exists_eq_left, exists_eq_left', exists_eq_right, exists_and_left, exists_and_right, exists_const, decide_eq_true_eq, decide_eq_false_iff_not, if_true, if_false, reduceIte, Bool.false_eq_true, Bool.not_eq_true', sc_ii, sc_ss, sc_bb, str1, cx_K, lstAt, rIxM, rSetM, rLenM, atI_0, atI_1, atI_2, atI_3, setI_0, setI_1, setI_2, setI_3, upd_same, upd_upd, ite_true, ite_false, exists_eq', eq_self, and_assoc, rIsS, isTy_bb, isTy_bi, isTy_ib, isTy_ii, isTy_ss, isTy_nb, isTy_ni, Bool.not_true, Bool.not_false, not_true_eq_false, not_false_eq_true, tChain, tRz1, tRz2, rIsX, tFx, tMethE, tCallS, tCallZ, tMeth, tMake, tFld, sFld, HO.ins.injEq, HO.lst.injEq, HO.dK.injEq, HO.tup.injEq, dcAt, rDInM, rDGetM, rDSetM, rDLenM, keyOf_int, keyOf_str, rIsBM, plainV_b, plainV_i, plainV_n, plainV_s, rInM, rListM, rSortM, rSumM, rIsD, tBMM, tBM0M, tSl, rSlM, rAppend, rPop, rClear, wAs, reduceCtorEq, false_implies, true_implies, implies_true, forall_const, cxH_K, clsV_ref, clsV_ty, HO.xd.injEq, Value.ref.injEq, lkc, lkn, pfn, pfc, List.map_nil, rExtend, rCat, rRep, tMethE0, rSortD, rPush, rPopH, tDGetM, gAll, iRev, tCB, sDDel, exf_NoRoom T, exf_NoNumber T, sne_Store_room_entries, sne_Store_room_words, sne_Store_entries_words, sne_Store_room__places, sne_Store_entries__places, sne_Store_words__places, sne_Store_room__free, sne_Store_entries__free, sne_Store_words__free, sne_Store__places__free, sne_Store_room__fresh, sne_Store_entries__fresh, sne_Store_words__fresh, sne_Store__places__fresh, sne_Store__free__fresh, T.no_NoRoom_need, T.ex_NoRoom_NoNumber, T.ex_NoRoom_SaggarError, T.kit_NoRoom_NoNumber, T.kit_NoRoom_NoRoom, T.no_NoNumber_limit, T.ex_NoNumber_NoNumber, T.ex_NoNumber_SaggarError, T.kit_NoNumber_NoNumber, T.kit_NoNumber_NoRoom, v1, v1c, atI_2, List.length_map]
            exact h
          · have S2 := S.same sm
            have ho2 := sm _ _ ho
            simp (config := { maxSteps := 4000000 }) only [tSeq, tNext, tDrop, tRet, tRetN, tIfS, tAsg, tTest, tAnd, tOr, tNot, tAndV, tOrV, tNotV, tIf, tOp, tUn, tVar, tC, tCB, tCons, tNil, tCall, tPart, tNoPart, tM0, tM1, tTup, tLst, tB, tIsN, tNotN, rI0, rI, rU, rEq, rNe, rAdd, gName, gTup, gCons, gNil, gSub, rSetL, rIxL, rIxT, rIxS, L2.start,
      List.map_cons, List.map_nil, List.cons_append, List.nil_append, List.append_nil, List.length_cons, List.length_nil, List.replicate, List.getElem?_cons_zero, List.getElem?_cons_succ, List.set_cons_zero, List.set_cons_succ, Nat.reduceAdd, Nat.reduceSub, Nat.sub_self, Nat.zero_add,
      Option.some.injEq, V.int.injEq, V.str.injEq, V.bl.injEq, V.ref.injEq, V.ty.injEq, List.cons.injEq, and_true, true_and, exists_eq_left, exists_eq_left', exists_eq_right, exists_and_left, exists_and_right, exists_const, decide_eq_true_eq, decide_eq_false_iff_not, if_true, if_false, reduceIte, Bool.false_eq_true, Bool.not_eq_true', sc_ii, sc_ss, sc_bb, str1, cx_K, lstAt, rIxM, rSetM, rLenM, atI_0, atI_1, atI_2, atI_3, setI_0, setI_1, setI_2, setI_3, upd_same, upd_upd, ite_true, ite_false, exists_eq', eq_self, and_assoc, rIsS, isTy_bb, isTy_bi, isTy_ib, isTy_ii, isTy_ss, isTy_nb, isTy_ni, Bool.not_true, Bool.not_false, not_true_eq_false, not_false_eq_true, tChain, tRz1, tRz2, rIsX, tFx, tMethE, tCallS, tCallZ, tMeth, tMake, tFld, sFld, HO.ins.injEq, HO.lst.injEq, HO.dK.injEq, HO.tup.injEq, dcAt, rDInM, rDGetM, rDSetM, rDLenM, keyOf_int, keyOf_str, rIsBM, plainV_b, plainV_i, plainV_n, plainV_s, rInM, rListM, rSortM, rSumM, rIsD, tBMM, tBM0M, tSl, rSlM, rAppend, rPop, rClear, wAs, reduceCtorEq, false_implies, true_implies, implies_true, forall_const, cxH_K, clsV_ref, clsV_ty, HO.xd.injEq, Value.ref.injEq, lkc, lkn, pfn, pfc, List.map_nil, rExtend, rCat, rRep, tMethE0, rSortD, rPush, rPopH, tDGetM, gAll, iRev, tCB, sDDel, exf_NoRoom T, exf_NoNumber T, sne_Store_room_entries, sne_Store_room_words, sne_Store_entries_words, sne_Store_room__places, sne_Store_entries__places, sne_Store_words__places, sne_Store_room__free, sne_Store_entries__free, sne_Store_words__free, sne_Store__places__free, sne_Store_room__fresh, sne_Store_entries__fresh, sne_Store_words__fresh, sne_Store__places__fresh, sne_Store__free__fresh, T.no_NoRoom_need, T.ex_NoRoom_NoNumber, T.ex_NoRoom_SaggarError, T.kit_NoRoom_NoNumber, T.kit_NoRoom_NoRoom, T.no_NoNumber_limit, T.ex_NoNumber_NoNumber, T.ex_NoNumber_SaggarError, T.kit_NoNumber_NoNumber, T.kit_NoNumber_NoRoom, ho2, T.cl_Store, T.no_Store_room, T.no_Store_entries, T.no_Store_words, T.no_Store__places, T.no_Store__free, T.no_Store__fresh, stF_room, stF_entries, stF_words, stF_places, stF_free, stF_fresh, stF_mused, stF_mexists, stF_mnumbers, stF_mfree, stF_malloc, stF_msize, stF_mkind, stF_mskind, stF_mget, stF_mput, stF_mslots, stF_mdrop, stF_mclose, stF_msnap, stF_mrest, stF_mexch, stF_len, stF_pf, stF_pd, stF_pl]
            exact ⟨s, rm, en, obs bs, F, b.o.num, b.o, i, b.o.sl[i], rfl, S2, go, List.getElem?_eq_getElem hi, h _ (by rw [List.getElem?_eq_getElem hi]; rfl)⟩
          · have e := hy.allF
            rw [range_all V.int b.o.sl] at e
            subst e
            have sm8 : Same H7 (upd H7 D (HO.lst (b.o.sl.map V.int))) := same_new hD
            have g8 : upd H7 D (HO.lst (b.o.sl.map V.int)) D = some (.lst (b.o.sl.map V.int)) := upd_same
            generalize upd H7 D (HO.lst (b.o.sl.map V.int)) = H8 at sm8 g8 ⊢
            have w1 := sm8 _ _ v1
            have w1c := sm8 _ _ v1c
            have S8 := S.same sm8
            simp (config := { maxSteps := 4000000 }) only [tSeq, tNext, tDrop, tRet, tRetN, tIfS, tAsg, tTest, tAnd, tOr, tNot, tAndV, tOrV, tNotV, tIf, tOp, tUn, tVar, tC, tCB, tCons, tNil, tCall, tPart, tNoPart, tM0, tM1, tTup, tLst, tB, tIsN, tNotN, rI0, rI, rU, rEq, rNe, rAdd, gName, gTup, gCons, gNil, gSub, rSetL, rIxL, rIxT, rIxS, L2.start,
      List.map_cons, List.map_nil, List.cons_append, List.nil_append, List.append_nil, List.length_cons, List.length_nil, List.replicate, List.getElem?_cons_zero, List.getElem?_cons_succ, List.set_cons_zero, List.set_cons_succ, Nat.reduceAdd, Nat.reduceSub, Nat.sub_self, Nat.zero_add,
      Option.some.injEq, V.int.injEq, V.str.injEq, V.bl.injEq, V.ref.injEq, V.ty.injEq, List.cons.injEq, and_true, true_and, exists_eq_left, exists_eq_left', exists_eq_right, exists_and_left, exists_and_right, exists_const, decide_eq_true_eq, decide_eq_false_iff_not, if_true, if_false, reduceIte, Bool.false_eq_true, Bool.not_eq_true', sc_ii, sc_ss, sc_bb, str1, cx_K, lstAt, rIxM, rSetM, rLenM, atI_0, atI_1, atI_2, atI_3, setI_0, setI_1, setI_2, setI_3, upd_same, upd_upd, ite_true, ite_false, exists_eq', eq_self, and_assoc, rIsS, isTy_bb, isTy_bi, isTy_ib, isTy_ii, isTy_ss, isTy_nb, isTy_ni, Bool.not_true, Bool.not_false, not_true_eq_false, not_false_eq_true, tChain, tRz1, tRz2, rIsX, tFx, tMethE, tCallS, tCallZ, tMeth, tMake, tFld, sFld, HO.ins.injEq, HO.lst.injEq, HO.dK.injEq, HO.tup.injEq, dcAt, rDInM, rDGetM, rDSetM, rDLenM, keyOf_int, keyOf_str, rIsBM, plainV_b, plainV_i, plainV_n, plainV_s, rInM, rListM, rSortM, rSumM, rIsD, tBMM, tBM0M, tSl, rSlM, rAppend, rPop, rClear, wAs, reduceCtorEq, false_implies, true_implies, implies_true, forall_const, cxH_K, clsV_ref, clsV_ty, HO.xd.injEq, Value.ref.injEq, lkc, lkn, pfn, pfc, List.map_nil, rExtend, rCat, rRep, tMethE0, rSortD, rPush, rPopH, tDGetM, gAll, iRev, tCB, sDDel, exf_NoRoom T, exf_NoNumber T, sne_Store_room_entries, sne_Store_room_words, sne_Store_entries_words, sne_Store_room__places, sne_Store_entries__places, sne_Store_words__places, sne_Store_room__free, sne_Store_entries__free, sne_Store_words__free, sne_Store__places__free, sne_Store_room__fresh, sne_Store_entries__fresh, sne_Store_words__fresh, sne_Store__places__fresh, sne_Store__free__fresh, T.no_NoRoom_need, T.ex_NoRoom_NoNumber, T.ex_NoRoom_SaggarError, T.kit_NoRoom_NoNumber, T.kit_NoRoom_NoRoom, T.no_NoNumber_limit, T.ex_NoNumber_NoNumber, T.ex_NoNumber_SaggarError, T.kit_NoNumber_NoNumber, T.kit_NoNumber_NoRoom, w1, atI_2]
            refine ⟨D, b.c, b.o.sl, rfl, g8, w1c, by omega, true, rfl, ?_⟩
            rw [if_pos rfl]
            refine ⟨dx, _, sm8 _ _ ho, stF_mslots, s, rm, en, _, F, _, b.o, rfl, S8, go, fun p hp => ?_⟩
            have sm9 : Same H8 (upd H8 p (HO.lst (b.o.sl.map V.int))) := same_new hp
            have g9 : upd H8 p (HO.lst (b.o.sl.map V.int)) p = some (.lst (b.o.sl.map V.int)) := upd_same
            generalize upd H8 p (HO.lst (b.o.sl.map V.int)) = H9 at sm9 g9 ⊢
            have x1 := sm9 _ _ w1
            have x1c := sm9 _ _ w1c
            have S9 := S8.same sm9
            have ho9 := sm9 _ _ (sm8 _ _ ho)
            simp (config := { maxSteps := 4000000 }) only [tSeq, tNext, tDrop, tRet, tRetN, tIfS, tAsg, tTest, tAnd, tOr, tNot, tAndV, tOrV, tNotV, tIf, tOp, tUn, tVar, tC, tCB, tCons, tNil, tCall, tPart, tNoPart, tM0, tM1, tTup, tLst, tB, tIsN, tNotN, rI0, rI, rU, rEq, rNe, rAdd, gName, gTup, gCons, gNil, gSub, rSetL, rIxL, rIxT, rIxS, L2.start,
      List.map_cons, List.map_nil, List.cons_append, List.nil_append, List.append_nil, List.length_cons, List.length_nil, List.replicate, List.getElem?_cons_zero, List.getElem?_cons_succ, List.set_cons_zero, List.set_cons_succ, Nat.reduceAdd, Nat.reduceSub, Nat.sub_self, Nat.zero_add,
      Option.some.injEq, V.int.injEq, V.str.injEq, V.bl.injEq, V.ref.injEq, V.ty.injEq, List.cons.injEq, and_true, true_and, exists_eq_left, exists_eq_left', exists_eq_right, exists_and_left, exists_and_right, exists_const, decide_eq_true_eq, decide_eq_false_iff_not, if_true, if_false, reduceIte, Bool.false_eq_true, Bool.not_eq_true', sc_ii, sc_ss, sc_bb, str1, cx_K, lstAt, rIxM, rSetM, rLenM, atI_0, atI_1, atI_2, atI_3, setI_0, setI_1, setI_2, setI_3, upd_same, upd_upd, ite_true, ite_false, exists_eq', eq_self, and_assoc, rIsS, isTy_bb, isTy_bi, isTy_ib, isTy_ii, isTy_ss, isTy_nb, isTy_ni, Bool.not_true, Bool.not_false, not_true_eq_false, not_false_eq_true, tChain, tRz1, tRz2, rIsX, tFx, tMethE, tCallS, tCallZ, tMeth, tMake, tFld, sFld, HO.ins.injEq, HO.lst.injEq, HO.dK.injEq, HO.tup.injEq, dcAt, rDInM, rDGetM, rDSetM, rDLenM, keyOf_int, keyOf_str, rIsBM, plainV_b, plainV_i, plainV_n, plainV_s, rInM, rListM, rSortM, rSumM, rIsD, tBMM, tBM0M, tSl, rSlM, rAppend, rPop, rClear, wAs, reduceCtorEq, false_implies, true_implies, implies_true, forall_const, cxH_K, clsV_ref, clsV_ty, HO.xd.injEq, Value.ref.injEq, lkc, lkn, pfn, pfc, List.map_nil, rExtend, rCat, rRep, tMethE0, rSortD, rPush, rPopH, tDGetM, gAll, iRev, tCB, sDDel, exf_NoRoom T, exf_NoNumber T, sne_Store_room_entries, sne_Store_room_words, sne_Store_entries_words, sne_Store_room__places, sne_Store_entries__places, sne_Store_words__places, sne_Store_room__free, sne_Store_entries__free, sne_Store_words__free, sne_Store__places__free, sne_Store_room__fresh, sne_Store_entries__fresh, sne_Store_words__fresh, sne_Store__places__fresh, sne_Store__free__fresh, T.no_NoRoom_need, T.ex_NoRoom_NoNumber, T.ex_NoRoom_SaggarError, T.kit_NoRoom_NoNumber, T.kit_NoRoom_NoRoom, T.no_NoNumber_limit, T.ex_NoNumber_NoNumber, T.ex_NoNumber_SaggarError, T.kit_NoNumber_NoNumber, T.kit_NoNumber_NoRoom, x1, atI_2]
            refine ⟨p, b.c, b.o.sl, rfl, g9, x1c, by omega, true, rfl, ?_⟩
            rw [if_pos rfl]
            refine ⟨dx, _, ho9, stF_msize, s, rm, en, _, F, _, b.o, rfl, S9, go, ?_⟩
            simp (config := { maxSteps := 4000000 }) only [tSeq, tNext, tDrop, tRet, tRetN, tIfS, tAsg, tTest, tAnd, tOr, tNot, tAndV, tOrV, tNotV, tIf, tOp, tUn, tVar, tC, tCB, tCons, tNil, tCall, tPart, tNoPart, tM0, tM1, tTup, tLst, tB, tIsN, tNotN, rI0, rI, rU, rEq, rNe, rAdd, gName, gTup, gCons, gNil, gSub, rSetL, rIxL, rIxT, rIxS, L2.start,
      List.map_cons, List.map_nil, List.cons_append, List.nil_append, List.append_nil, List.length_cons, List.length_nil, List.replicate, List.getElem?_cons_zero, List.getElem?_cons_succ, List.set_cons_zero, List.set_cons_succ, Nat.reduceAdd, Nat.reduceSub, Nat.sub_self, Nat.zero_add,
      Option.some.injEq, V.int.injEq, V.str.injEq, V.bl.injEq, V.ref.injEq, V.ty.injEq, List.cons.injEq, and_true, true_and, exists_eq_left, exists_eq_left', exists_eq_right, exists_and_left, exists_and_right, exists_const, decide_eq_true_eq, decide_eq_false_iff_not, if_true, if_false, reduceIte, Bool.false_eq_true, Bool.not_eq_true', sc_ii, sc_ss, sc_bb, str1, cx_K, lstAt, rIxM, rSetM, rLenM, atI_0, atI_1, atI_2, atI_3, setI_0, setI_1, setI_2, setI_3, upd_same, upd_upd, ite_true, ite_false, exists_eq', eq_self, and_assoc, rIsS, isTy_bb, isTy_bi, isTy_ib, isTy_ii, isTy_ss, isTy_nb, isTy_ni, Bool.not_true, Bool.not_false, not_true_eq_false, not_false_eq_true, tChain, tRz1, tRz2, rIsX, tFx, tMethE, tCallS, tCallZ, tMeth, tMake, tFld, sFld, HO.ins.injEq, HO.lst.injEq, HO.dK.injEq, HO.tup.injEq, dcAt, rDInM, rDGetM, rDSetM, rDLenM, keyOf_int, keyOf_str, rIsBM, plainV_b, plainV_i, plainV_n, plainV_s, rInM, rListM, rSortM, rSumM, rIsD, tBMM, tBM0M, tSl, rSlM, rAppend, rPop, rClear, wAs, reduceCtorEq, false_implies, true_implies, implies_true, forall_const, cxH_K, clsV_ref, clsV_ty, HO.xd.injEq, Value.ref.injEq, lkc, lkn, pfn, pfc, List.map_nil, rExtend, rCat, rRep, tMethE0, rSortD, rPush, rPopH, tDGetM, gAll, iRev, tCB, sDDel, exf_NoRoom T, exf_NoNumber T, sne_Store_room_entries, sne_Store_room_words, sne_Store_entries_words, sne_Store_room__places, sne_Store_entries__places, sne_Store_words__places, sne_Store_room__free, sne_Store_entries__free, sne_Store_words__free, sne_Store__places__free, sne_Store_room__fresh, sne_Store_entries__fresh, sne_Store_words__fresh, sne_Store__places__fresh, sne_Store__free__fresh, T.no_NoRoom_need, T.ex_NoRoom_NoNumber, T.ex_NoRoom_SaggarError, T.kit_NoRoom_NoNumber, T.kit_NoRoom_NoRoom, T.no_NoNumber_limit, T.ex_NoNumber_NoNumber, T.ex_NoNumber_SaggarError, T.kit_NoNumber_NoNumber, T.kit_NoNumber_NoRoom, x1, x1c, atI_2, List.length_map]
            refine ⟨_, _, rfl, ?_⟩
            rw [decide_eq_true rfl]
            exact k _ (same_trans smJ (same_trans sm8 sm9))
end

def sp_deed (A : Ad) : Sp := fun vs H Q _ => ∃ (s rl tk lm : Addr) (rm en x : Int) (G0 : Hp) (N M : Nat) (bs : List RB) (ts : List TS) (G1 G : Hp), vs = [.ref s, .ref rl, .ref tk, .ref lm, .int x] ∧ KS A H s rl tk rm en G0 N M bs ts G1 G ∧ G0 lm = some (.tup [.int rm, .int en]) ∧ N < 200 ∧ M < 200 ∧
  ∀ H' bs' ts' G1' G', KS A H' s rl tk rm en G0 (N + 1) (M + 1) bs' ts' G1' G' → Q (.bl true) H'
theorem sp_deed_len {A vs H Q E} (h : sp_deed A vs H Q E) : vs.length = (["store", "row", "taken", "limits", "x"] : List Str).length := by
  obtain ⟨_, _, _, _, _, _, _, _, _, _, _, _, _, _, rfl, _⟩ := h
  rfl
section
variable {P : Program} {w : World} {K : PySem.W.Frag} {mg : Str → Option Value} {base : Heap} {A : Ad}
theorem ok__law_deed (T : Txt K mg A) : FnOk P w K mg base CX0 6 A.f__law_deed A.d__law_deed ["store", "row", "taken", "limits", "x"] (sp_deed A) := by
  refine Fun.ok T.F__law_deed sc__law_deed (fun vs H Q E h => ?_) (fun cdv Ar outer s H vs Q E hr h => ?_)
  · exact sp_deed_len h
  · have hu := hu_of hr
    refine ⟨_, (Evl.pss_cut (ps_if (pt_cmpR op_lt (pe_op op_mod (pe_callTy call_intI (by rfl) T.z_int (by decide +kernel) (pa_cons (pv 4) pa_nil)) pe_int) pe_int (nomark _)) (pss_cons (ps_asg (pe_op op_mod (pe_op op_fdiv (pv 4) pe_int) pe_int) (pg_name (i := 5) sc__law_deed.nd rfl (Or.inl rfl)))
    (Evl.pss_cut (ps_if (pt_cmpR op_eq (pe_op op_mod (pe_op op_fdiv (pv 4) pe_int) pe_int) pe_int (nomark _)) (pss_one (ps_asg (pe_op op_mod (pe_op op_fdiv (pv 4) pe_int) pe_int) (pg_name (i := 5) sc__law_deed.nd rfl (Or.inl rfl)))) pss_nil)
    (pss_one (ps_if (pt_not (pt_val (pe_call (ok__law_allocated T) (hr.mono (by decide)) (by rfl) T.g__law_allocated T.k__law_allocated T.b__law_allocated .nil pass0 (pa_cons (pv 0) (pa_cons (pv 1) (pa_cons (pv 3) (pa_cons (pe_call (ok__law_word T) (hr.mono (by decide)) (by rfl) T.g__law_word T.k__law_word T.b__law_word .nil pass0 (pa_cons (pe_op op_fdiv (pv 4) pe_int) pa_nil)) (pa_cons (pv 5) pa_nil)))))))) (pss_one (ps_ret pe_bl)) pss_nil)))) (pss_one (ps_expr (pe_call (ok__law_changed T) (hr.mono (by decide)) (by rfl) T.g__law_changed T.k__law_changed T.b__law_changed .nil pass0 (pa_cons (pv 0) (pa_cons (pv 1) (pa_cons (pv 2) (pa_cons (pe_op op_mod (pe_callTy call_intI (by rfl) T.z_int (by decide +kernel) (pa_cons (pv 4) pa_nil)) pe_int) (pa_cons (pv 4) pa_nil)))))))))
    (pss_one (ps_ret (pe_call (ok__law_agrees T) (hr.mono (by decide)) (by rfl) T.g__law_agrees T.k__law_agrees T.b__law_agrees .nil pass0 (pa_cons (pv 0) (pa_cons (pv 1) (pa_cons (pe_ix ix_tup (pv 3) pe_int (fun _ _ => rfl)) (pa_cons (pe_op op_fdiv (pv 4) pe_int) pa_nil)))))))), ?_⟩
    obtain ⟨s, rl, tk, lm, rm, en, x, G0, N, M, bs, ts, G1, G, rfl, Z, hlm, hN, hM, k⟩ := h
    have zl := Z.len
    simp (config := { maxSteps := 4000000 }) only [tSeq, tNext, tDrop, tRet, tRetN, tIfS, tAsg, tTest, tAnd, tOr, tNot, tAndV, tOrV, tNotV, tIf, tOp, tUn, tVar, tC, tCB, tCons, tNil, tCall, tPart, tNoPart, tM0, tM1, tTup, tLst, tB, tIsN, tNotN, rI0, rI, rU, rEq, rNe, rAdd, gName, gTup, gCons, gNil, gSub, rSetL, rIxL, rIxT, rIxS, L2.start,
      List.map_cons, List.map_nil, List.cons_append, List.nil_append, List.append_nil, List.length_cons, List.length_nil, List.replicate, List.getElem?_cons_zero, List.getElem?_cons_succ, List.set_cons_zero, List.set_cons_succ, Nat.reduceAdd, Nat.reduceSub, Nat.sub_self, Nat.zero_add,
      Option.some.injEq, V.int.injEq, V.str.injEq, V.bl.injEq, V.ref.injEq, V.ty.injEq, List.cons.injEq, and_true, true_and, exists_eq_left, exists_eq_left', exists_eq_right, exists_and_left, exists_and_right, exists_const, decide_eq_true_eq, decide_eq_false_iff_not, if_true, if_false, reduceIte, Bool.false_eq_true, Bool.not_eq_true', sc_ii, sc_ss, sc_bb, str1, cx_K, lstAt, rIxM, rSetM, rLenM, atI_0, atI_1, atI_2, atI_3, setI_0, setI_1, setI_2, setI_3, upd_same, upd_upd, ite_true, ite_false, exists_eq', eq_self, and_assoc, rIsS, isTy_bb, isTy_bi, isTy_ib, isTy_ii, isTy_ss, isTy_nb, isTy_ni, Bool.not_true, Bool.not_false, not_true_eq_false, not_false_eq_true, tChain, tRz1, tRz2, rIsX, tFx, tMethE, tCallS, tCallZ, tMeth, tMake, tFld, sFld, HO.ins.injEq, HO.lst.injEq, HO.dK.injEq, HO.tup.injEq, dcAt, rDInM, rDGetM, rDSetM, rDLenM, keyOf_int, keyOf_str, rIsBM, plainV_b, plainV_i, plainV_n, plainV_s, rInM, rListM, rSortM, rSumM, rIsD, tBMM, tBM0M, tSl, rSlM, rAppend, rPop, rClear, wAs, reduceCtorEq, false_implies, true_implies, implies_true, forall_const, cxH_K, clsV_ref, clsV_ty, HO.xd.injEq, Value.ref.injEq, lkc, lkn, pfn, pfc, List.map_nil, rExtend, rCat, rRep, tMethE0, rSortD, rPush, rPopH, tDGetM, gAll, iRev, tCB, sDDel, exf_NoRoom T, exf_NoNumber T, sne_Store_room_entries, sne_Store_room_words, sne_Store_entries_words, sne_Store_room__places, sne_Store_entries__places, sne_Store_words__places, sne_Store_room__free, sne_Store_entries__free, sne_Store_words__free, sne_Store__places__free, sne_Store_room__fresh, sne_Store_entries__fresh, sne_Store_words__fresh, sne_Store__places__fresh, sne_Store__free__fresh, T.no_NoRoom_need, T.ex_NoRoom_NoNumber, T.ex_NoRoom_SaggarError, T.kit_NoRoom_NoNumber, T.kit_NoRoom_NoRoom, T.no_NoNumber_limit, T.ex_NoNumber_NoNumber, T.ex_NoNumber_SaggarError, T.kit_NoNumber_NoNumber, T.kit_NoNumber_NoRoom, rIsL]
    refine ⟨fun σ2 H2 => ∃ (n5 : Option V) (bs2 : List RB) (ts2 : List TS) (G12 G2 : Hp), σ2 = [some (V.ref s), some (V.ref rl), some (V.ref tk), some (V.ref lm), some (V.int x), n5] ∧ KS A H2 s rl tk rm en G0 (N + 1) (M + 1) bs2 ts2 G12 G2, ?_, ?_⟩
    · simp (config := { maxSteps := 4000000 }) only [tSeq, tNext, tDrop, tRet, tRetN, tIfS, tAsg, tTest, tAnd, tOr, tNot, tAndV, tOrV, tNotV, tIf, tOp, tUn, tVar, tC, tCB, tCons, tNil, tCall, tPart, tNoPart, tM0, tM1, tTup, tLst, tB, tIsN, tNotN, rI0, rI, rU, rEq, rNe, rAdd, gName, gTup, gCons, gNil, gSub, rSetL, rIxL, rIxT, rIxS, L2.start,
      List.map_cons, List.map_nil, List.cons_append, List.nil_append, List.append_nil, List.length_cons, List.length_nil, List.replicate, List.getElem?_cons_zero, List.getElem?_cons_succ, List.set_cons_zero, List.set_cons_succ, Nat.reduceAdd, Nat.reduceSub, Nat.sub_self, Nat.zero_add,
      Option.some.injEq, V.int.injEq, V.str.injEq, V.bl.injEq, V.ref.injEq, V.ty.injEq, List.cons.injEq, and_true, true_and, exists_eq_left, exists_eq_left', exists_eq_right, exists_and_left, exists_and_right, exists_const, decide_eq_true_eq, decide_eq_false_iff_not, if_true, if_false, reduceIte, Bool.false_eq_true, Bool.not_eq_true', sc_ii, sc_ss, sc_bb, str1, cx_K, lstAt, rIxM, rSetM, rLenM, atI_0, atI_1, atI_2, atI_3, setI_0, setI_1, setI_2, setI_3, upd_same, upd_upd, ite_true, ite_false, exists_eq', eq_self, and_assoc, rIsS, isTy_bb, isTy_bi, isTy_ib, isTy_ii, isTy_ss, isTy_nb, isTy_ni, Bool.not_true, Bool.not_false, not_true_eq_false, not_false_eq_true, tChain, tRz1, tRz2, rIsX, tFx, tMethE, tCallS, tCallZ, tMeth, tMake, tFld, sFld, HO.ins.injEq, HO.lst.injEq, HO.dK.injEq, HO.tup.injEq, dcAt, rDInM, rDGetM, rDSetM, rDLenM, keyOf_int, keyOf_str, rIsBM, plainV_b, plainV_i, plainV_n, plainV_s, rInM, rListM, rSortM, rSumM, rIsD, tBMM, tBM0M, tSl, rSlM, rAppend, rPop, rClear, wAs, reduceCtorEq, false_implies, true_implies, implies_true, forall_const, cxH_K, clsV_ref, clsV_ty, HO.xd.injEq, Value.ref.injEq, lkc, lkn, pfn, pfc, List.map_nil, rExtend, rCat, rRep, tMethE0, rSortD, rPush, rPopH, tDGetM, gAll, iRev, tCB, sDDel, exf_NoRoom T, exf_NoNumber T, sne_Store_room_entries, sne_Store_room_words, sne_Store_entries_words, sne_Store_room__places, sne_Store_entries__places, sne_Store_words__places, sne_Store_room__free, sne_Store_entries__free, sne_Store_words__free, sne_Store__places__free, sne_Store_room__fresh, sne_Store_entries__fresh, sne_Store_words__fresh, sne_Store__places__fresh, sne_Store__free__fresh, T.no_NoRoom_need, T.ex_NoRoom_NoNumber, T.ex_NoRoom_SaggarError, T.kit_NoRoom_NoNumber, T.kit_NoRoom_NoRoom, T.no_NoNumber_limit, T.ex_NoNumber_NoNumber, T.ex_NoNumber_SaggarError, T.kit_NoNumber_NoNumber, T.kit_NoNumber_NoRoom, rIsL]
      refine ⟨by decide, ite2 (fun c => ⟨⟨by decide, by decide⟩, by decide, ?_⟩) (fun c => ⟨by decide, ?_⟩)⟩
      · have a0 := Int.emod_nonneg (x / 16) (show (5 : Int) ≠ 0 by decide)
        have a1 := Int.emod_lt_of_pos (x / 16) (show (0 : Int) < 5 by decide)
        have b0 := Int.emod_nonneg (x / 1280) (show (80 : Int) ≠ 0 by decide)
        have b1 := Int.emod_lt_of_pos (x / 1280) (show (0 : Int) < 80 by decide)
        refine ⟨fun σ3 H3 => ∃ m : Nat, σ3 = [some (V.ref s), some (V.ref rl), some (V.ref tk), some (V.ref lm), some (V.int x), some (V.int (m : Int))] ∧ m ≤ 79 ∧ H3 = H, ?_, ?_⟩
        · simp (config := { maxSteps := 4000000 }) only [tSeq, tNext, tDrop, tRet, tRetN, tIfS, tAsg, tTest, tAnd, tOr, tNot, tAndV, tOrV, tNotV, tIf, tOp, tUn, tVar, tC, tCB, tCons, tNil, tCall, tPart, tNoPart, tM0, tM1, tTup, tLst, tB, tIsN, tNotN, rI0, rI, rU, rEq, rNe, rAdd, gName, gTup, gCons, gNil, gSub, rSetL, rIxL, rIxT, rIxS, L2.start,
      List.map_cons, List.map_nil, List.cons_append, List.nil_append, List.append_nil, List.length_cons, List.length_nil, List.replicate, List.getElem?_cons_zero, List.getElem?_cons_succ, List.set_cons_zero, List.set_cons_succ, Nat.reduceAdd, Nat.reduceSub, Nat.sub_self, Nat.zero_add,
      Option.some.injEq, V.int.injEq, V.str.injEq, V.bl.injEq, V.ref.injEq, V.ty.injEq, List.cons.injEq, and_true, true_and, exists_eq_left, exists_eq_left', exists_eq_right, exists_and_left, exists_and_right, exists_const, decide_eq_true_eq, decide_eq_false_iff_not, if_true, if_false, reduceIte, Bool.false_eq_true, Bool.not_eq_true', sc_ii, sc_ss, sc_bb, str1, cx_K, lstAt, rIxM, rSetM, rLenM, atI_0, atI_1, atI_2, atI_3, setI_0, setI_1, setI_2, setI_3, upd_same, upd_upd, ite_true, ite_false, exists_eq', eq_self, and_assoc, rIsS, isTy_bb, isTy_bi, isTy_ib, isTy_ii, isTy_ss, isTy_nb, isTy_ni, Bool.not_true, Bool.not_false, not_true_eq_false, not_false_eq_true, tChain, tRz1, tRz2, rIsX, tFx, tMethE, tCallS, tCallZ, tMeth, tMake, tFld, sFld, HO.ins.injEq, HO.lst.injEq, HO.dK.injEq, HO.tup.injEq, dcAt, rDInM, rDGetM, rDSetM, rDLenM, keyOf_int, keyOf_str, rIsBM, plainV_b, plainV_i, plainV_n, plainV_s, rInM, rListM, rSortM, rSumM, rIsD, tBMM, tBM0M, tSl, rSlM, rAppend, rPop, rClear, wAs, reduceCtorEq, false_implies, true_implies, implies_true, forall_const, cxH_K, clsV_ref, clsV_ty, HO.xd.injEq, Value.ref.injEq, lkc, lkn, pfn, pfc, List.map_nil, rExtend, rCat, rRep, tMethE0, rSortD, rPush, rPopH, tDGetM, gAll, iRev, tCB, sDDel, exf_NoRoom T, exf_NoNumber T, sne_Store_room_entries, sne_Store_room_words, sne_Store_entries_words, sne_Store_room__places, sne_Store_entries__places, sne_Store_words__places, sne_Store_room__free, sne_Store_entries__free, sne_Store_words__free, sne_Store__places__free, sne_Store_room__fresh, sne_Store_entries__fresh, sne_Store_words__fresh, sne_Store__places__fresh, sne_Store__free__fresh, T.no_NoRoom_need, T.ex_NoRoom_NoNumber, T.ex_NoRoom_SaggarError, T.kit_NoRoom_NoNumber, T.kit_NoRoom_NoRoom, T.no_NoNumber_limit, T.ex_NoNumber_NoNumber, T.ex_NoNumber_SaggarError, T.kit_NoNumber_NoNumber, T.kit_NoNumber_NoRoom, rIsL]
          refine ⟨⟨by decide, by decide⟩, by decide, ite2 (fun _ => ⟨⟨by decide, by decide⟩, by decide, ?_⟩) (fun _ => ?_)⟩
          · exact ⟨(x / 1280 % 80).toNat, by omega, by omega⟩
          · exact ⟨(x / 16 % 5).toNat, by omega, by omega⟩
        · rintro σ3 H3 ⟨m, rfl, hm, rfl⟩
          simp (config := { maxSteps := 4000000 }) only [tSeq, tNext, tDrop, tRet, tRetN, tIfS, tAsg, tTest, tAnd, tOr, tNot, tAndV, tOrV, tNotV, tIf, tOp, tUn, tVar, tC, tCB, tCons, tNil, tCall, tPart, tNoPart, tM0, tM1, tTup, tLst, tB, tIsN, tNotN, rI0, rI, rU, rEq, rNe, rAdd, gName, gTup, gCons, gNil, gSub, rSetL, rIxL, rIxT, rIxS, L2.start,
      List.map_cons, List.map_nil, List.cons_append, List.nil_append, List.append_nil, List.length_cons, List.length_nil, List.replicate, List.getElem?_cons_zero, List.getElem?_cons_succ, List.set_cons_zero, List.set_cons_succ, Nat.reduceAdd, Nat.reduceSub, Nat.sub_self, Nat.zero_add,
      Option.some.injEq, V.int.injEq, V.str.injEq, V.bl.injEq, V.ref.injEq, V.ty.injEq, List.cons.injEq, and_true, true_and, exists_eq_left, exists_eq_left', exists_eq_right, exists_and_left, exists_and_right, exists_const, decide_eq_true_eq, decide_eq_false_iff_not, if_true, if_false, reduceIte, Bool.false_eq_true, Bool.not_eq_true', sc_ii, sc_ss, sc_bb, str1, cx_K, lstAt, rIxM, rSetM, rLenM, atI_0, atI_1, atI_2, atI_3, setI_0, setI_1, setI_2, setI_3, upd_same, upd_upd, ite_true, ite_false, exists_eq', eq_self, and_assoc, rIsS, isTy_bb, isTy_bi, isTy_ib, isTy_ii, isTy_ss, isTy_nb, isTy_ni, Bool.not_true, Bool.not_false, not_true_eq_false, not_false_eq_true, tChain, tRz1, tRz2, rIsX, tFx, tMethE, tCallS, tCallZ, tMeth, tMake, tFld, sFld, HO.ins.injEq, HO.lst.injEq, HO.dK.injEq, HO.tup.injEq, dcAt, rDInM, rDGetM, rDSetM, rDLenM, keyOf_int, keyOf_str, rIsBM, plainV_b, plainV_i, plainV_n, plainV_s, rInM, rListM, rSortM, rSumM, rIsD, tBMM, tBM0M, tSl, rSlM, rAppend, rPop, rClear, wAs, reduceCtorEq, false_implies, true_implies, implies_true, forall_const, cxH_K, clsV_ref, clsV_ty, HO.xd.injEq, Value.ref.injEq, lkc, lkn, pfn, pfc, List.map_nil, rExtend, rCat, rRep, tMethE0, rSortD, rPush, rPopH, tDGetM, gAll, iRev, tCB, sDDel, exf_NoRoom T, exf_NoNumber T, sne_Store_room_entries, sne_Store_room_words, sne_Store_entries_words, sne_Store_room__places, sne_Store_entries__places, sne_Store_words__places, sne_Store_room__free, sne_Store_entries__free, sne_Store_words__free, sne_Store__places__free, sne_Store_room__fresh, sne_Store_entries__fresh, sne_Store_words__fresh, sne_Store__places__fresh, sne_Store__free__fresh, T.no_NoRoom_need, T.ex_NoRoom_NoNumber, T.ex_NoRoom_SaggarError, T.kit_NoRoom_NoNumber, T.kit_NoRoom_NoRoom, T.no_NoNumber_limit, T.ex_NoNumber_NoNumber, T.ex_NoNumber_SaggarError, T.kit_NoNumber_NoNumber, T.kit_NoNumber_NoRoom, rIsL]
          refine ⟨⟨by decide, by decide⟩, _, rfl, fun z => ⟨s, rl, lm, rm, en, z, m, bs, G, rfl, Z.lx, Z.s1 _ _ (Z.sg _ _ hlm), by omega, Z.sl, hm, fun H' bs' L l sl => ⟨true, rfl, ?_⟩⟩⟩
          rw [if_neg (by decide)]
          exact ⟨bs', ts, G1, G, (Z.up (Nat.le_succ _) (Nat.le_succ _)).re L (by omega) sl⟩
      · exact ⟨s, rl, tk, rm, en, _, x, G0, N, M, bs, ts, G1, G, rfl, Z, by omega, by omega, fun H' bs' ts' G1' G' Z' => ⟨bs', ts', G1', G', Z'.up (Nat.le_succ _) (Nat.le_refl _)⟩⟩
    · rintro σ2 H2 ⟨n5, bs2, ts2, G12, G2, rfl, Z2⟩
      have zl2 := Z2.len
      have g2 := Z2.lx.get (Z2.s1 _ _ (Z2.sg _ _ hlm))
      simp (config := { maxSteps := 4000000 }) only [tSeq, tNext, tDrop, tRet, tRetN, tIfS, tAsg, tTest, tAnd, tOr, tNot, tAndV, tOrV, tNotV, tIf, tOp, tUn, tVar, tC, tCB, tCons, tNil, tCall, tPart, tNoPart, tM0, tM1, tTup, tLst, tB, tIsN, tNotN, rI0, rI, rU, rEq, rNe, rAdd, gName, gTup, gCons, gNil, gSub, rSetL, rIxL, rIxT, rIxS, L2.start,
      List.map_cons, List.map_nil, List.cons_append, List.nil_append, List.append_nil, List.length_cons, List.length_nil, List.replicate, List.getElem?_cons_zero, List.getElem?_cons_succ, List.set_cons_zero, List.set_cons_succ, Nat.reduceAdd, Nat.reduceSub, Nat.sub_self, Nat.zero_add,
      Option.some.injEq, V.int.injEq, V.str.injEq, V.bl.injEq, V.ref.injEq, V.ty.injEq, List.cons.injEq, and_true, true_and, exists_eq_left, exists_eq_left', exists_eq_right, exists_and_left, exists_and_right, exists_const, decide_eq_true_eq, decide_eq_false_iff_not, if_true, if_false, reduceIte, Bool.false_eq_true, Bool.not_eq_true', sc_ii, sc_ss, sc_bb, str1, cx_K, lstAt, rIxM, rSetM, rLenM, atI_0, atI_1, atI_2, atI_3, setI_0, setI_1, setI_2, setI_3, upd_same, upd_upd, ite_true, ite_false, exists_eq', eq_self, and_assoc, rIsS, isTy_bb, isTy_bi, isTy_ib, isTy_ii, isTy_ss, isTy_nb, isTy_ni, Bool.not_true, Bool.not_false, not_true_eq_false, not_false_eq_true, tChain, tRz1, tRz2, rIsX, tFx, tMethE, tCallS, tCallZ, tMeth, tMake, tFld, sFld, HO.ins.injEq, HO.lst.injEq, HO.dK.injEq, HO.tup.injEq, dcAt, rDInM, rDGetM, rDSetM, rDLenM, keyOf_int, keyOf_str, rIsBM, plainV_b, plainV_i, plainV_n, plainV_s, rInM, rListM, rSortM, rSumM, rIsD, tBMM, tBM0M, tSl, rSlM, rAppend, rPop, rClear, wAs, reduceCtorEq, false_implies, true_implies, implies_true, forall_const, cxH_K, clsV_ref, clsV_ty, HO.xd.injEq, Value.ref.injEq, lkc, lkn, pfn, pfc, List.map_nil, rExtend, rCat, rRep, tMethE0, rSortD, rPush, rPopH, tDGetM, gAll, iRev, tCB, sDDel, exf_NoRoom T, exf_NoNumber T, sne_Store_room_entries, sne_Store_room_words, sne_Store_entries_words, sne_Store_room__places, sne_Store_entries__places, sne_Store_words__places, sne_Store_room__free, sne_Store_entries__free, sne_Store_words__free, sne_Store__places__free, sne_Store_room__fresh, sne_Store_entries__fresh, sne_Store_words__fresh, sne_Store__places__fresh, sne_Store__free__fresh, T.no_NoRoom_need, T.ex_NoRoom_NoNumber, T.ex_NoRoom_SaggarError, T.kit_NoRoom_NoNumber, T.kit_NoRoom_NoRoom, T.no_NoNumber_limit, T.ex_NoNumber_NoNumber, T.ex_NoNumber_SaggarError, T.kit_NoNumber_NoNumber, T.kit_NoNumber_NoRoom, g2]
      exact ⟨_, .inl (.inl g2), _, rfl, ⟨by decide, by decide⟩, s, rl, rm, en, _, bs2, G2, rfl, Z2.lx, by omega, Z2.sl, fun H' sm => k _ _ _ _ _ (Z2.same sm)⟩
end

def sp_law (K : PySem.W.Frag) : Sp := fun vs H Q _ => ∃ (a : Addr) (ns : List Int), vs = [.ref a] ∧ SqL K H a (ns.map V.int) ∧ ns.length ≤ 63 ∧ ∀ H', Q (.bl true) H'
theorem sp_law_len {K vs H Q E} (h : sp_law K vs H Q E) : vs.length = (["script"] : List Str).length := by
  obtain ⟨_, _, rfl, _⟩ := h
  rfl
section
variable {P : Program} {w : World} {K : PySem.W.Frag} {mg : Str → Option Value} {base : Heap} {A : Ad}
theorem ok_law (T : Txt K mg A) : FnOk P w K mg base CX0 7 A.f_law A.d_law ["script"] (sp_law K) := by
  refine Fun.ok T.F_law sc_law (fun vs H Q E h => ?_) (fun cdv Ar outer s H vs Q E hr h => ?_)
  · exact sp_law_len h
  · have hu := hu_of hr
    refine ⟨_, (pss_cons (ps_setLc (i := 1) (own := [("cell", 9)]) (g := gName 9) rfl sc_law.nd rfl rfl (sw_true rfl rfl rfl (by decide +kernel)) (pi_list (pv 0)) (blkOk_by (own := [("cell", 9)]) (N := ["script", "cells", "room", "entries", "store", "row", "taken", "k", "x", "cell"]) (sc := defScope s_law) (by decide +kernel)) (fun _ _ _ _ _ => pg_name (i := 9) sc_law.nd rfl (Or.inl rfl)) (fun _ _ _ _ _ => pts_nil) (fun _ _ _ _ _ => (pe_callTy call_intI (by rfl) T.z_int (by decide +kernel) (pa_cons (pv 9) pa_nil))))
    (Evl.pss_cut (ps_if (pt_not (pt_truth (pv 1) (by intro _; rfl))) (pss_one (ps_asg (pe_lst (pa_cons pe_int pa_nil)) (pg_name (i := 1) sc_law.nd rfl (Or.inl rfl)))) pss_nil)
    (pss_cons (ps_asg (pe_op op_mod (pe_callTy call_intI (by rfl) T.z_int (by decide +kernel) (pa_cons (pe_ix ix_lstM (pv 1) pe_int (fun _ _ => rfl)) pa_nil)) pe_int) (pg_name (i := 2) sc_law.nd rfl (Or.inl rfl)))
    (Evl.pss_cut (ps_if (pt_cmpR op_eq (pe_op op_mod (pe_op op_fdiv (pe_ix ix_lstM (pv 1) pe_int (fun _ _ => rfl)) pe_int) pe_int) pe_int (nomark _)) (pss_one (ps_asg (pe_op op_add pe_int (pe_op op_mod (pe_op op_fdiv (pe_ix ix_lstM (pv 1) pe_int (fun _ _ => rfl)) pe_int) pe_int)) (pg_name (i := 2) sc_law.nd rfl (Or.inl rfl)))) pss_nil)
    (pss_cons (ps_asg pe_int (pg_name (i := 3) sc_law.nd rfl (Or.inl rfl)))
    (Evl.pss_cut (ps_if (pt_cmpR op_eq (pe_op op_mod (pe_op op_fdiv (pe_ix ix_lstM (pv 1) pe_int (fun _ _ => rfl)) pe_int) pe_int) pe_int (nomark _)) (pss_one (ps_asg (pe_op op_mod (pe_op op_fdiv (pe_ix ix_lstM (pv 1) pe_int (fun _ _ => rfl)) pe_int) pe_int) (pg_name (i := 3) sc_law.nd rfl (Or.inl rfl)))) pss_nil)
    (pss_cons (ps_asg (pe_make T.mk_Store (ok_Store___init__ T) (hr.mono (by decide)) (by rfl) T.m_Store T.b_Store___init__ .nil pass0 (pa_cons (pv 2) (pa_cons (pv 3) pa_nil))) (pg_name (i := 4) sc_law.nd rfl (Or.inl rfl)))
    (pss_cons (ps_if (PW.pt (pw_or (pt_not (pt_val (pe_call (ok__law_is T) (hr.mono (by decide)) (by rfl) T.g__law_is T.k__law_is T.b__law_is .nil pass0 (pa_cons (pe_glob (v := .int (3)) (by rfl) T.c_HEADER ⟨_, rfl⟩) (pa_cons pe_int pa_nil))))) (pw_or (pt_not (pt_val (pe_call (ok__law_is T) (hr.mono (by decide)) (by rfl) T.g__law_is T.k__law_is T.b__law_is .nil pass0 (pa_cons (pe_fld (pv 4) rfl) (pa_cons (pv 2) pa_nil))))) (pw_or1 (pt_not (pt_val (pe_call (ok__law_is T) (hr.mono (by decide)) (by rfl) T.g__law_is T.k__law_is T.b__law_is .nil pass0 (pa_cons (pe_fld (pv 4) rfl) (pa_cons (pv 3) pa_nil))))))))) (pss_one (ps_ret pe_bl)) pss_nil)
    (pss_cons (ps_asg (pe_lst pa_nil) (pg_name (i := 5) sc_law.nd rfl (Or.inl rfl)))
    (pss_cons (ps_asg (pe_lst pa_nil) (pg_name (i := 6) sc_law.nd rfl (Or.inl rfl)))
    (pss_cons (ps_for PassesOwn.never rfl (pi_range2 (by rfl) T.z_range (pa_cons pe_int (pa_cons (pe_callB call_lenM (by rfl) T.z_len PySem.boot_len (pa_cons (pv 1) pa_nil)) pa_nil))) (pg_name (i := 7) sc_law.nd rfl (Or.inl rfl))
      (pss_one (ps_for PassesOwn.never rfl (pi_list (pe_call (ok__law_deeds T) (hr.mono (by decide)) (by rfl) T.g__law_deeds T.k__law_deeds T.b__law_deeds .nil pass0 (pa_cons (pe_ix ix_lstM (pv 1) (pv 7) (fun _ _ => rfl)) (pa_cons (pv 7) pa_nil)))) (pg_name (i := 8) sc_law.nd rfl (Or.inl rfl))
      (pss_one (ps_if (pt_not (pt_val (pe_call (ok__law_deed T) (hr.mono (by decide)) (by rfl) T.g__law_deed T.k__law_deed T.b__law_deed .nil pass0 (pa_cons (pv 4) (pa_cons (pv 5) (pa_cons (pv 6) (pa_cons (pe_tup (pa_cons (pv 2) (pa_cons (pv 3) pa_nil))) (pa_cons (pv 8) pa_nil)))))))) (pss_one (ps_ret pe_bl)) pss_nil)))))
    (pss_one (ps_ret pe_bl))))))))))))), ?_⟩
    obtain ⟨a, ns, rfl, ha, hlen, k⟩ := h
    have sz : (300000 : Nat) ≤ sizeLine := by decide
    simp (config := { maxSteps := 4000000 }) only [tSeq, tNext, tDrop, tRet, tRetN, tIfS, tAsg, tTest, tAnd, tOr, tNot, tAndV, tOrV, tNotV, tIf, tOp, tUn, tVar, tC, tCB, tCons, tNil, tCall, tPart, tNoPart, tM0, tM1, tTup, tLst, tB, tIsN, tNotN, rI0, rI, rU, rEq, rNe, rAdd, gName, gTup, gCons, gNil, gSub, rSetL, rIxL, rIxT, rIxS, L2.start,
      List.map_cons, List.map_nil, List.cons_append, List.nil_append, List.append_nil, List.length_cons, List.length_nil, List.replicate, List.getElem?_cons_zero, List.getElem?_cons_succ, List.set_cons_zero, List.set_cons_succ, Nat.reduceAdd, Nat.reduceSub, Nat.sub_self, Nat.zero_add,
      Option.some.injEq, V.int.injEq, V.str.injEq, V.bl.injEq, V.ref.injEq, V.ty.injEq, List.cons.injEq, and_true, true_and, exists_eq_left, exists_eq_left', exists_eq_right, exists_and_left, exists_and_right, exists_const, decide_eq_true_eq, decide_eq_false_iff_not, if_true, if_false, reduceIte, Bool.false_eq_true, Bool.not_eq_true', sc_ii, sc_ss, sc_bb, str1, cx_K, lstAt, rIxM, rSetM, rLenM, atI_0, atI_1, atI_2, atI_3, setI_0, setI_1, setI_2, setI_3, upd_same, upd_upd, ite_true, ite_false, exists_eq', eq_self, and_assoc, rIsS, isTy_bb, isTy_bi, isTy_ib, isTy_ii, isTy_ss, isTy_nb, isTy_ni, Bool.not_true, Bool.not_false, not_true_eq_false, not_false_eq_true, tChain, tRz1, tRz2, rIsX, tFx, tMethE, tCallS, tCallZ, tMeth, tMake, tFld, sFld, HO.ins.injEq, HO.lst.injEq, HO.dK.injEq, HO.tup.injEq, dcAt, rDInM, rDGetM, rDSetM, rDLenM, keyOf_int, keyOf_str, rIsBM, plainV_b, plainV_i, plainV_n, plainV_s, rInM, rListM, rSortM, rSumM, rIsD, tBMM, tBM0M, tSl, rSlM, rAppend, rPop, rClear, wAs, reduceCtorEq, false_implies, true_implies, implies_true, forall_const, cxH_K, clsV_ref, clsV_ty, HO.xd.injEq, Value.ref.injEq, lkc, lkn, pfn, pfc, List.map_nil, rExtend, rCat, rRep, tMethE0, rSortD, rPush, rPopH, tDGetM, gAll, iRev, tCB, sDDel, exf_NoRoom T, exf_NoNumber T, sne_Store_room_entries, sne_Store_room_words, sne_Store_entries_words, sne_Store_room__places, sne_Store_entries__places, sne_Store_words__places, sne_Store_room__free, sne_Store_entries__free, sne_Store_words__free, sne_Store__places__free, sne_Store_room__fresh, sne_Store_entries__fresh, sne_Store_words__fresh, sne_Store__places__fresh, sne_Store__free__fresh, T.no_NoRoom_need, T.ex_NoRoom_NoNumber, T.ex_NoRoom_SaggarError, T.kit_NoRoom_NoNumber, T.kit_NoRoom_NoRoom, T.no_NoNumber_limit, T.ex_NoNumber_NoNumber, T.ex_NoNumber_SaggarError, T.kit_NoNumber_NoNumber, T.kit_NoNumber_NoRoom, rIsL]
    refine lc_ints (a := a) (ns := ns) (fun z => z) (fun R h => ⟨_, rfl, h⟩) ha (by show 9 < 10; decide) (by omega) (fun σ' H' z R h1 h2 => ⟨_, h1, z, rfl, h2⟩) (fun pc hpc => ?_)
    have h0 : upd H pc (HO.lst (List.map (fun z => V.int z) ns)) pc = some (.lst (ns.map V.int)) := upd_same
    generalize upd H pc (HO.lst (List.map (fun z => V.int z) ns)) = Ha at h0 ⊢
    clear ha hpc
    refine ⟨fun σ2 H2 => ∃ (p1 : Addr) (c : Int) (cs : List Int), σ2 = [some (V.ref a), some (V.ref p1), none, none, none, none, none, none, none, none] ∧ cs.length ≤ 62 ∧ H2 p1 = some (.lst ((c :: cs).map V.int)), ?_, ?_⟩
    · simp (config := { maxSteps := 4000000 }) only [tSeq, tNext, tDrop, tRet, tRetN, tIfS, tAsg, tTest, tAnd, tOr, tNot, tAndV, tOrV, tNotV, tIf, tOp, tUn, tVar, tC, tCB, tCons, tNil, tCall, tPart, tNoPart, tM0, tM1, tTup, tLst, tB, tIsN, tNotN, rI0, rI, rU, rEq, rNe, rAdd, gName, gTup, gCons, gNil, gSub, rSetL, rIxL, rIxT, rIxS, L2.start,
      List.map_cons, List.map_nil, List.cons_append, List.nil_append, List.append_nil, List.length_cons, List.length_nil, List.replicate, List.getElem?_cons_zero, List.getElem?_cons_succ, List.set_cons_zero, List.set_cons_succ, Nat.reduceAdd, Nat.reduceSub, Nat.sub_self, Nat.zero_add,
      Option.some.injEq, V.int.injEq, V.str.injEq, V.bl.injEq, V.ref.injEq, V.ty.injEq, List.cons.injEq, and_true, true_and, exists_eq_left, exists_eq_left', exists_eq_right, exists_and_left, exists_and_right, exists_const, decide_eq_true_eq, decide_eq_false_iff_not, if_true, if_false, reduceIte, Bool.false_eq_true, Bool.not_eq_true', sc_ii, sc_ss, sc_bb, str1, cx_K, lstAt, rIxM, rSetM, rLenM, atI_0, atI_1, atI_2, atI_3, setI_0, setI_1, setI_2, setI_3, upd_same, upd_upd, ite_true, ite_false, exists_eq', eq_self, and_assoc, rIsS, isTy_bb, isTy_bi, isTy_ib, isTy_ii, isTy_ss, isTy_nb, isTy_ni, Bool.not_true, Bool.not_false, not_true_eq_false, not_false_eq_true, tChain, tRz1, tRz2, rIsX, tFx, tMethE, tCallS, tCallZ, tMeth, tMake, tFld, sFld, HO.ins.injEq, HO.lst.injEq, HO.dK.injEq, HO.tup.injEq, dcAt, rDInM, rDGetM, rDSetM, rDLenM, keyOf_int, keyOf_str, rIsBM, plainV_b, plainV_i, plainV_n, plainV_s, rInM, rListM, rSortM, rSumM, rIsD, tBMM, tBM0M, tSl, rSlM, rAppend, rPop, rClear, wAs, reduceCtorEq, false_implies, true_implies, implies_true, forall_const, cxH_K, clsV_ref, clsV_ty, HO.xd.injEq, Value.ref.injEq, lkc, lkn, pfn, pfc, List.map_nil, rExtend, rCat, rRep, tMethE0, rSortD, rPush, rPopH, tDGetM, gAll, iRev, tCB, sDDel, exf_NoRoom T, exf_NoNumber T, sne_Store_room_entries, sne_Store_room_words, sne_Store_entries_words, sne_Store_room__places, sne_Store_entries__places, sne_Store_words__places, sne_Store_room__free, sne_Store_entries__free, sne_Store_words__free, sne_Store__places__free, sne_Store_room__fresh, sne_Store_entries__fresh, sne_Store_words__fresh, sne_Store__places__fresh, sne_Store__free__fresh, T.no_NoRoom_need, T.ex_NoRoom_NoNumber, T.ex_NoRoom_SaggarError, T.kit_NoRoom_NoNumber, T.kit_NoRoom_NoRoom, T.no_NoNumber_limit, T.ex_NoNumber_NoNumber, T.ex_NoNumber_SaggarError, T.kit_NoNumber_NoNumber, T.kit_NoNumber_NoRoom, rIsL]
      cases ns with
      | nil =>
        refine ⟨false, .inl ⟨_, .inl (.inl h0), rfl⟩, ?_⟩
        rw [if_pos rfl]
        exact ⟨by decide, fun p hp => ⟨7, [], by decide, rfl, rfl⟩⟩
      | cons c cs =>
        refine ⟨true, .inl ⟨_, .inl (.inl h0), rfl⟩, ?_⟩
        rw [if_neg (by decide)]
        exact ⟨c, cs, by rw [List.length_cons] at hlen; omega, h0⟩
    · rintro σ2 H2 ⟨p1, c, cs, rfl, hcs, h2⟩
      simp (config := { maxSteps := 4000000 }) only [tSeq, tNext, tDrop, tRet, tRetN, tIfS, tAsg, tTest, tAnd, tOr, tNot, tAndV, tOrV, tNotV, tIf, tOp, tUn, tVar, tC, tCB, tCons, tNil, tCall, tPart, tNoPart, tM0, tM1, tTup, tLst, tB, tIsN, tNotN, rI0, rI, rU, rEq, rNe, rAdd, gName, gTup, gCons, gNil, gSub, rSetL, rIxL, rIxT, rIxS, L2.start,
      List.map_cons, List.map_nil, List.cons_append, List.nil_append, List.append_nil, List.length_cons, List.length_nil, List.replicate, List.getElem?_cons_zero, List.getElem?_cons_succ, List.set_cons_zero, List.set_cons_succ, Nat.reduceAdd, Nat.reduceSub, Nat.sub_self, Nat.zero_add,
      Option.some.injEq, V.int.injEq, V.str.injEq, V.bl.injEq, V.ref.injEq, V.ty.injEq, List.cons.injEq, and_true, true_and, exists_eq_left, exists_eq_left', exists_eq_right, exists_and_left, exists_and_right, exists_const, decide_eq_true_eq, decide_eq_false_iff_not, if_true, if_false, reduceIte, Bool.false_eq_true, Bool.not_eq_true', sc_ii, sc_ss, sc_bb, str1, cx_K, lstAt, rIxM, rSetM, rLenM, atI_0, atI_1, atI_2, atI_3, setI_0, setI_1, setI_2, setI_3, upd_same, upd_upd, ite_true, ite_false, exists_eq', eq_self, and_assoc, rIsS, isTy_bb, isTy_bi, isTy_ib, isTy_ii, isTy_ss, isTy_nb, isTy_ni, Bool.not_true, Bool.not_false, not_true_eq_false, not_false_eq_true, tChain, tRz1, tRz2, rIsX, tFx, tMethE, tCallS, tCallZ, tMeth, tMake, tFld, sFld, HO.ins.injEq, HO.lst.injEq, HO.dK.injEq, HO.tup.injEq, dcAt, rDInM, rDGetM, rDSetM, rDLenM, keyOf_int, keyOf_str, rIsBM, plainV_b, plainV_i, plainV_n, plainV_s, rInM, rListM, rSortM, rSumM, rIsD, tBMM, tBM0M, tSl, rSlM, rAppend, rPop, rClear, wAs, reduceCtorEq, false_implies, true_implies, implies_true, forall_const, cxH_K, clsV_ref, clsV_ty, HO.xd.injEq, Value.ref.injEq, lkc, lkn, pfn, pfc, List.map_nil, rExtend, rCat, rRep, tMethE0, rSortD, rPush, rPopH, tDGetM, gAll, iRev, tCB, sDDel, exf_NoRoom T, exf_NoNumber T, sne_Store_room_entries, sne_Store_room_words, sne_Store_entries_words, sne_Store_room__places, sne_Store_entries__places, sne_Store_words__places, sne_Store_room__free, sne_Store_entries__free, sne_Store_words__free, sne_Store__places__free, sne_Store_room__fresh, sne_Store_entries__fresh, sne_Store_words__fresh, sne_Store__places__fresh, sne_Store__free__fresh, T.no_NoRoom_need, T.ex_NoRoom_NoNumber, T.ex_NoRoom_SaggarError, T.kit_NoRoom_NoNumber, T.kit_NoRoom_NoRoom, T.no_NoNumber_limit, T.ex_NoNumber_NoNumber, T.ex_NoNumber_SaggarError, T.kit_NoNumber_NoNumber, T.kit_NoNumber_NoRoom, h2, atI_0]
      refine ⟨by decide, fun σ3 H3 => ∃ rm : Int, σ3 = [some (V.ref a), some (V.ref p1), some (V.int rm), none, none, none, none, none, none, none] ∧ H3 = H2, ?_, ?_⟩
      · simp (config := { maxSteps := 4000000 }) only [tSeq, tNext, tDrop, tRet, tRetN, tIfS, tAsg, tTest, tAnd, tOr, tNot, tAndV, tOrV, tNotV, tIf, tOp, tUn, tVar, tC, tCB, tCons, tNil, tCall, tPart, tNoPart, tM0, tM1, tTup, tLst, tB, tIsN, tNotN, rI0, rI, rU, rEq, rNe, rAdd, gName, gTup, gCons, gNil, gSub, rSetL, rIxL, rIxT, rIxS, L2.start,
      List.map_cons, List.map_nil, List.cons_append, List.nil_append, List.append_nil, List.length_cons, List.length_nil, List.replicate, List.getElem?_cons_zero, List.getElem?_cons_succ, List.set_cons_zero, List.set_cons_succ, Nat.reduceAdd, Nat.reduceSub, Nat.sub_self, Nat.zero_add,
      Option.some.injEq, V.int.injEq, V.str.injEq, V.bl.injEq, V.ref.injEq, V.ty.injEq, List.cons.injEq, and_true, true_and, exists_eq_left, exists_eq_left', exists_eq_right, exists_and_left, exists_and_right, exists_const, decide_eq_true_eq, decide_eq_false_iff_not, if_true, if_false, reduceIte, Bool.false_eq_true, Bool.not_eq_true', sc_ii, sc_ss, sc_bb, str1, cx_K, lstAt, rIxM, rSetM, rLenM, atI_0, atI_1, atI_2, atI_3, setI_0, setI_1, setI_2, setI_3, upd_same, upd_upd, ite_true, ite_false, exists_eq', eq_self, and_assoc, rIsS, isTy_bb, isTy_bi, isTy_ib, isTy_ii, isTy_ss, isTy_nb, isTy_ni, Bool.not_true, Bool.not_false, not_true_eq_false, not_false_eq_true, tChain, tRz1, tRz2, rIsX, tFx, tMethE, tCallS, tCallZ, tMeth, tMake, tFld, sFld, HO.ins.injEq, HO.lst.injEq, HO.dK.injEq, HO.tup.injEq, dcAt, rDInM, rDGetM, rDSetM, rDLenM, keyOf_int, keyOf_str, rIsBM, plainV_b, plainV_i, plainV_n, plainV_s, rInM, rListM, rSortM, rSumM, rIsD, tBMM, tBM0M, tSl, rSlM, rAppend, rPop, rClear, wAs, reduceCtorEq, false_implies, true_implies, implies_true, forall_const, cxH_K, clsV_ref, clsV_ty, HO.xd.injEq, Value.ref.injEq, lkc, lkn, pfn, pfc, List.map_nil, rExtend, rCat, rRep, tMethE0, rSortD, rPush, rPopH, tDGetM, gAll, iRev, tCB, sDDel, exf_NoRoom T, exf_NoNumber T, sne_Store_room_entries, sne_Store_room_words, sne_Store_entries_words, sne_Store_room__places, sne_Store_entries__places, sne_Store_words__places, sne_Store_room__free, sne_Store_entries__free, sne_Store_words__free, sne_Store__places__free, sne_Store_room__fresh, sne_Store_entries__fresh, sne_Store_words__fresh, sne_Store__places__fresh, sne_Store__free__fresh, T.no_NoRoom_need, T.ex_NoRoom_NoNumber, T.ex_NoRoom_SaggarError, T.kit_NoRoom_NoNumber, T.kit_NoRoom_NoRoom, T.no_NoNumber_limit, T.ex_NoNumber_NoNumber, T.ex_NoNumber_SaggarError, T.kit_NoNumber_NoNumber, T.kit_NoNumber_NoRoom, h2, atI_0]
        exact ⟨⟨by decide, by decide⟩, by decide, ite2 (fun _ => ⟨⟨by decide, by decide⟩, by decide⟩) (fun _ => trivial)⟩
      · rintro σ3 H3 ⟨rm, rfl, rfl⟩
        simp (config := { maxSteps := 4000000 }) only [tSeq, tNext, tDrop, tRet, tRetN, tIfS, tAsg, tTest, tAnd, tOr, tNot, tAndV, tOrV, tNotV, tIf, tOp, tUn, tVar, tC, tCB, tCons, tNil, tCall, tPart, tNoPart, tM0, tM1, tTup, tLst, tB, tIsN, tNotN, rI0, rI, rU, rEq, rNe, rAdd, gName, gTup, gCons, gNil, gSub, rSetL, rIxL, rIxT, rIxS, L2.start,
      List.map_cons, List.map_nil, List.cons_append, List.nil_append, List.append_nil, List.length_cons, List.length_nil, List.replicate, List.getElem?_cons_zero, List.getElem?_cons_succ, List.set_cons_zero, List.set_cons_succ, Nat.reduceAdd, Nat.reduceSub, Nat.sub_self, Nat.zero_add,
      Option.some.injEq, V.int.injEq, V.str.injEq, V.bl.injEq, V.ref.injEq, V.ty.injEq, List.cons.injEq, and_true, true_and, exists_eq_left, exists_eq_left', exists_eq_right, exists_and_left, exists_and_right, exists_const, decide_eq_true_eq, decide_eq_false_iff_not, if_true, if_false, reduceIte, Bool.false_eq_true, Bool.not_eq_true', sc_ii, sc_ss, sc_bb, str1, cx_K, lstAt, rIxM, rSetM, rLenM, atI_0, atI_1, atI_2, atI_3, setI_0, setI_1, setI_2, setI_3, upd_same, upd_upd, ite_true, ite_false, exists_eq', eq_self, and_assoc, rIsS, isTy_bb, isTy_bi, isTy_ib, isTy_ii, isTy_ss, isTy_nb, isTy_ni, Bool.not_true, Bool.not_false, not_true_eq_false, not_false_eq_true, tChain, tRz1, tRz2, rIsX, tFx, tMethE, tCallS, tCallZ, tMeth, tMake, tFld, sFld, HO.ins.injEq, HO.lst.injEq, HO.dK.injEq, HO.tup.injEq, dcAt, rDInM, rDGetM, rDSetM, rDLenM, keyOf_int, keyOf_str, rIsBM, plainV_b, plainV_i, plainV_n, plainV_s, rInM, rListM, rSortM, rSumM, rIsD, tBMM, tBM0M, tSl, rSlM, rAppend, rPop, rClear, wAs, reduceCtorEq, false_implies, true_implies, implies_true, forall_const, cxH_K, clsV_ref, clsV_ty, HO.xd.injEq, Value.ref.injEq, lkc, lkn, pfn, pfc, List.map_nil, rExtend, rCat, rRep, tMethE0, rSortD, rPush, rPopH, tDGetM, gAll, iRev, tCB, sDDel, exf_NoRoom T, exf_NoNumber T, sne_Store_room_entries, sne_Store_room_words, sne_Store_entries_words, sne_Store_room__places, sne_Store_entries__places, sne_Store_words__places, sne_Store_room__free, sne_Store_entries__free, sne_Store_words__free, sne_Store__places__free, sne_Store_room__fresh, sne_Store_entries__fresh, sne_Store_words__fresh, sne_Store__places__fresh, sne_Store__free__fresh, T.no_NoRoom_need, T.ex_NoRoom_NoNumber, T.ex_NoRoom_SaggarError, T.kit_NoRoom_NoNumber, T.kit_NoRoom_NoRoom, T.no_NoNumber_limit, T.ex_NoNumber_NoNumber, T.ex_NoNumber_SaggarError, T.kit_NoNumber_NoNumber, T.kit_NoNumber_NoRoom, h2, atI_0]
        refine ⟨fun σ4 H4 => ∃ en : Int, σ4 = [some (V.ref a), some (V.ref p1), some (V.int rm), some (V.int en), none, none, none, none, none, none] ∧ H4 = H3 ∧ 0 ≤ en ∧ en ≤ 100000, ?_, ?_⟩
        · simp (config := { maxSteps := 4000000 }) only [tSeq, tNext, tDrop, tRet, tRetN, tIfS, tAsg, tTest, tAnd, tOr, tNot, tAndV, tOrV, tNotV, tIf, tOp, tUn, tVar, tC, tCB, tCons, tNil, tCall, tPart, tNoPart, tM0, tM1, tTup, tLst, tB, tIsN, tNotN, rI0, rI, rU, rEq, rNe, rAdd, gName, gTup, gCons, gNil, gSub, rSetL, rIxL, rIxT, rIxS, L2.start,
      List.map_cons, List.map_nil, List.cons_append, List.nil_append, List.append_nil, List.length_cons, List.length_nil, List.replicate, List.getElem?_cons_zero, List.getElem?_cons_succ, List.set_cons_zero, List.set_cons_succ, Nat.reduceAdd, Nat.reduceSub, Nat.sub_self, Nat.zero_add,
      Option.some.injEq, V.int.injEq, V.str.injEq, V.bl.injEq, V.ref.injEq, V.ty.injEq, List.cons.injEq, and_true, true_and, exists_eq_left, exists_eq_left', exists_eq_right, exists_and_left, exists_and_right, exists_const, decide_eq_true_eq, decide_eq_false_iff_not, if_true, if_false, reduceIte, Bool.false_eq_true, Bool.not_eq_true', sc_ii, sc_ss, sc_bb, str1, cx_K, lstAt, rIxM, rSetM, rLenM, atI_0, atI_1, atI_2, atI_3, setI_0, setI_1, setI_2, setI_3, upd_same, upd_upd, ite_true, ite_false, exists_eq', eq_self, and_assoc, rIsS, isTy_bb, isTy_bi, isTy_ib, isTy_ii, isTy_ss, isTy_nb, isTy_ni, Bool.not_true, Bool.not_false, not_true_eq_false, not_false_eq_true, tChain, tRz1, tRz2, rIsX, tFx, tMethE, tCallS, tCallZ, tMeth, tMake, tFld, sFld, HO.ins.injEq, HO.lst.injEq, HO.dK.injEq, HO.tup.injEq, dcAt, rDInM, rDGetM, rDSetM, rDLenM, keyOf_int, keyOf_str, rIsBM, plainV_b, plainV_i, plainV_n, plainV_s, rInM, rListM, rSortM, rSumM, rIsD, tBMM, tBM0M, tSl, rSlM, rAppend, rPop, rClear, wAs, reduceCtorEq, false_implies, true_implies, implies_true, forall_const, cxH_K, clsV_ref, clsV_ty, HO.xd.injEq, Value.ref.injEq, lkc, lkn, pfn, pfc, List.map_nil, rExtend, rCat, rRep, tMethE0, rSortD, rPush, rPopH, tDGetM, gAll, iRev, tCB, sDDel, exf_NoRoom T, exf_NoNumber T, sne_Store_room_entries, sne_Store_room_words, sne_Store_entries_words, sne_Store_room__places, sne_Store_entries__places, sne_Store_words__places, sne_Store_room__free, sne_Store_entries__free, sne_Store_words__free, sne_Store__places__free, sne_Store_room__fresh, sne_Store_entries__fresh, sne_Store_words__fresh, sne_Store__places__fresh, sne_Store__free__fresh, T.no_NoRoom_need, T.ex_NoRoom_NoNumber, T.ex_NoRoom_SaggarError, T.kit_NoRoom_NoNumber, T.kit_NoRoom_NoRoom, T.no_NoNumber_limit, T.ex_NoNumber_NoNumber, T.ex_NoNumber_SaggarError, T.kit_NoNumber_NoNumber, T.kit_NoNumber_NoRoom, h2, atI_0]
          have e0 := Int.emod_nonneg (c / 360) (show (8 : Int) ≠ 0 by decide)
          have e1 := Int.emod_lt_of_pos (c / 360) (show (0 : Int) < 8 by decide)
          exact ⟨⟨by decide, by decide⟩, by decide, ite2 (fun _ => ⟨⟨by decide, by decide⟩, by decide, e0, by omega⟩) (fun _ => by decide)⟩
        · rintro σ4 H4 ⟨en, rfl, rfl, e0, e1⟩
          simp (config := { maxSteps := 4000000 }) only [tSeq, tNext, tDrop, tRet, tRetN, tIfS, tAsg, tTest, tAnd, tOr, tNot, tAndV, tOrV, tNotV, tIf, tOp, tUn, tVar, tC, tCB, tCons, tNil, tCall, tPart, tNoPart, tM0, tM1, tTup, tLst, tB, tIsN, tNotN, rI0, rI, rU, rEq, rNe, rAdd, gName, gTup, gCons, gNil, gSub, rSetL, rIxL, rIxT, rIxS, L2.start,
      List.map_cons, List.map_nil, List.cons_append, List.nil_append, List.append_nil, List.length_cons, List.length_nil, List.replicate, List.getElem?_cons_zero, List.getElem?_cons_succ, List.set_cons_zero, List.set_cons_succ, Nat.reduceAdd, Nat.reduceSub, Nat.sub_self, Nat.zero_add,
      Option.some.injEq, V.int.injEq, V.str.injEq, V.bl.injEq, V.ref.injEq, V.ty.injEq, List.cons.injEq, and_true, true_and, exists_eq_left, exists_eq_left', exists_eq_right, exists_and_left, exists_and_right, exists_const, decide_eq_true_eq, decide_eq_false_iff_not, if_true, if_false, reduceIte, Bool.false_eq_true, Bool.not_eq_true', sc_ii, sc_ss, sc_bb, str1, cx_K, lstAt, rIxM, rSetM, rLenM, atI_0, atI_1, atI_2, atI_3, setI_0, setI_1, setI_2, setI_3, upd_same, upd_upd, ite_true, ite_false, exists_eq', eq_self, and_assoc, rIsS, isTy_bb, isTy_bi, isTy_ib, isTy_ii, isTy_ss, isTy_nb, isTy_ni, Bool.not_true, Bool.not_false, not_true_eq_false, not_false_eq_true, tChain, tRz1, tRz2, rIsX, tFx, tMethE, tCallS, tCallZ, tMeth, tMake, tFld, sFld, HO.ins.injEq, HO.lst.injEq, HO.dK.injEq, HO.tup.injEq, dcAt, rDInM, rDGetM, rDSetM, rDLenM, keyOf_int, keyOf_str, rIsBM, plainV_b, plainV_i, plainV_n, plainV_s, rInM, rListM, rSortM, rSumM, rIsD, tBMM, tBM0M, tSl, rSlM, rAppend, rPop, rClear, wAs, reduceCtorEq, false_implies, true_implies, implies_true, forall_const, cxH_K, clsV_ref, clsV_ty, HO.xd.injEq, Value.ref.injEq, lkc, lkn, pfn, pfc, List.map_nil, rExtend, rCat, rRep, tMethE0, rSortD, rPush, rPopH, tDGetM, gAll, iRev, tCB, sDDel, exf_NoRoom T, exf_NoNumber T, sne_Store_room_entries, sne_Store_room_words, sne_Store_entries_words, sne_Store_room__places, sne_Store_entries__places, sne_Store_words__places, sne_Store_room__free, sne_Store_entries__free, sne_Store_words__free, sne_Store__places__free, sne_Store_room__fresh, sne_Store_entries__fresh, sne_Store_words__fresh, sne_Store__places__fresh, sne_Store__free__fresh, T.no_NoRoom_need, T.ex_NoRoom_NoNumber, T.ex_NoRoom_SaggarError, T.kit_NoRoom_NoNumber, T.kit_NoRoom_NoRoom, T.no_NoNumber_limit, T.ex_NoNumber_NoNumber, T.ex_NoNumber_SaggarError, T.kit_NoNumber_NoNumber, T.kit_NoNumber_NoRoom, rIsL]
          refine store_new e0 e1 fun s H5 S0 => ?_
          obtain ⟨dx, w, d, f, fs, ho⟩ := S0.ho
          refine ⟨3, 3, rfl, ?_⟩
          rw [decide_eq_true rfl]
          refine ⟨true, rfl, ?_⟩
          rw [if_neg (by decide)]
          refine ⟨_, _, _, ho, T.cl_Store, T.no_Store_room, _, stF_room, rm, rm, rfl, ?_⟩
          rw [decide_eq_true rfl]
          refine ⟨true, rfl, ?_⟩
          rw [if_neg (by decide)]
          refine ⟨_, _, _, ho, T.cl_Store, T.no_Store_entries, _, stF_entries, en, en, rfl, ?_⟩
          rw [decide_eq_true rfl]
          refine ⟨true, rfl, ?_⟩
          rw [if_neg (by decide)]
          refine ⟨by decide, fun rl hrl => ⟨by decide, fun tk htk => ?_⟩⟩
          have Z0 := KS.init S0 h2 hrl htk
          generalize upd (upd H5 rl (HO.lst [])) tk (HO.lst []) = H6 at Z0 ⊢
          have g0 : upd noHp p1 (HO.lst ((c :: cs).map V.int)) p1 = some (.lst ((c :: cs).map V.int)) := upd_same
          generalize upd noHp p1 (HO.lst ((c :: cs).map V.int)) = G0 at Z0 g0
          have hc0 := Z0.get g0
          clear S0 ho hrl htk h2
          refine for_rng2 1 ((c :: cs).length : Int) (fun R h => ?_) (by decide) (by decide) (by omega) (by rw [List.length_cons]; omega) (fun i σ' H' => ∃ (n7 n8 n9 : Option V) (bs : List RB) (ts : List TS) (G1 G : Hp), σ' = [some (V.ref a), some (V.ref p1), some (V.int rm), some (V.int en), some (V.ref s), some (V.ref rl), some (V.ref tk), n7, n8, n9] ∧ KS A H' s rl tk rm en G0 (2 * i) (2 * i) bs ts G1 G) ⟨_, _, _, _, _, _, _, rfl, Z0⟩ ?_ ?_
          · simp (config := { maxSteps := 4000000 }) only [tSeq, tNext, tDrop, tRet, tRetN, tIfS, tAsg, tTest, tAnd, tOr, tNot, tAndV, tOrV, tNotV, tIf, tOp, tUn, tVar, tC, tCB, tCons, tNil, tCall, tPart, tNoPart, tM0, tM1, tTup, tLst, tB, tIsN, tNotN, rI0, rI, rU, rEq, rNe, rAdd, gName, gTup, gCons, gNil, gSub, rSetL, rIxL, rIxT, rIxS, L2.start,
      List.map_cons, List.map_nil, List.cons_append, List.nil_append, List.append_nil, List.length_cons, List.length_nil, List.replicate, List.getElem?_cons_zero, List.getElem?_cons_succ, List.set_cons_zero, List.set_cons_succ, Nat.reduceAdd, Nat.reduceSub, Nat.sub_self, Nat.zero_add,
      Option.some.injEq, V.int.injEq, V.str.injEq, V.bl.injEq, V.ref.injEq, V.ty.injEq, List.cons.injEq, and_true, true_and, exists_eq_left, exists_eq_left', exists_eq_right, exists_and_left, exists_and_right, exists_const, decide_eq_true_eq, decide_eq_false_iff_not, if_true, if_false, reduceIte, Bool.false_eq_true, Bool.not_eq_true', sc_ii, sc_ss, sc_bb, str1, cx_K, lstAt, rIxM, rSetM, rLenM, atI_0, atI_1, atI_2, atI_3, setI_0, setI_1, setI_2, setI_3, upd_same, upd_upd, ite_true, ite_false, exists_eq', eq_self, and_assoc, rIsS, isTy_bb, isTy_bi, isTy_ib, isTy_ii, isTy_ss, isTy_nb, isTy_ni, Bool.not_true, Bool.not_false, not_true_eq_false, not_false_eq_true, tChain, tRz1, tRz2, rIsX, tFx, tMethE, tCallS, tCallZ, tMeth, tMake, tFld, sFld, HO.ins.injEq, HO.lst.injEq, HO.dK.injEq, HO.tup.injEq, dcAt, rDInM, rDGetM, rDSetM, rDLenM, keyOf_int, keyOf_str, rIsBM, plainV_b, plainV_i, plainV_n, plainV_s, rInM, rListM, rSortM, rSumM, rIsD, tBMM, tBM0M, tSl, rSlM, rAppend, rPop, rClear, wAs, reduceCtorEq, false_implies, true_implies, implies_true, forall_const, cxH_K, clsV_ref, clsV_ty, HO.xd.injEq, Value.ref.injEq, lkc, lkn, pfn, pfc, List.map_nil, rExtend, rCat, rRep, tMethE0, rSortD, rPush, rPopH, tDGetM, gAll, iRev, tCB, sDDel, exf_NoRoom T, exf_NoNumber T, sne_Store_room_entries, sne_Store_room_words, sne_Store_entries_words, sne_Store_room__places, sne_Store_entries__places, sne_Store_words__places, sne_Store_room__free, sne_Store_entries__free, sne_Store_words__free, sne_Store__places__free, sne_Store_room__fresh, sne_Store_entries__fresh, sne_Store_words__fresh, sne_Store__places__fresh, sne_Store__free__fresh, T.no_NoRoom_need, T.ex_NoRoom_NoNumber, T.ex_NoRoom_SaggarError, T.kit_NoRoom_NoNumber, T.kit_NoRoom_NoRoom, T.no_NoNumber_limit, T.ex_NoNumber_NoNumber, T.ex_NoNumber_SaggarError, T.kit_NoNumber_NoNumber, T.kit_NoNumber_NoRoom, hc0, List.length_map]
            exact h
          · rintro i σ' H' hi ⟨n7, n8, n9, bs, ts, G1, G, rfl, Z⟩
            rw [List.length_cons] at hi
            have hcl := Z.get (Z.sg _ _ g0)
            simp (config := { maxSteps := 4000000 }) only [tSeq, tNext, tDrop, tRet, tRetN, tIfS, tAsg, tTest, tAnd, tOr, tNot, tAndV, tOrV, tNotV, tIf, tOp, tUn, tVar, tC, tCB, tCons, tNil, tCall, tPart, tNoPart, tM0, tM1, tTup, tLst, tB, tIsN, tNotN, rI0, rI, rU, rEq, rNe, rAdd, gName, gTup, gCons, gNil, gSub, rSetL, rIxL, rIxT, rIxS, L2.start,
      List.map_cons, List.map_nil, List.cons_append, List.nil_append, List.append_nil, List.length_cons, List.length_nil, List.replicate, List.getElem?_cons_zero, List.getElem?_cons_succ, List.set_cons_zero, List.set_cons_succ, Nat.reduceAdd, Nat.reduceSub, Nat.sub_self, Nat.zero_add,
      Option.some.injEq, V.int.injEq, V.str.injEq, V.bl.injEq, V.ref.injEq, V.ty.injEq, List.cons.injEq, and_true, true_and, exists_eq_left, exists_eq_left', exists_eq_right, exists_and_left, exists_and_right, exists_const, decide_eq_true_eq, decide_eq_false_iff_not, if_true, if_false, reduceIte, Bool.false_eq_true, Bool.not_eq_true', sc_ii, sc_ss, sc_bb, str1, cx_K, lstAt, rIxM, rSetM, rLenM, atI_0, atI_1, atI_2, atI_3, setI_0, setI_1, setI_2, setI_3, upd_same, upd_upd, ite_true, ite_false, exists_eq', eq_self, and_assoc, rIsS, isTy_bb, isTy_bi, isTy_ib, isTy_ii, isTy_ss, isTy_nb, isTy_ni, Bool.not_true, Bool.not_false, not_true_eq_false, not_false_eq_true, tChain, tRz1, tRz2, rIsX, tFx, tMethE, tCallS, tCallZ, tMeth, tMake, tFld, sFld, HO.ins.injEq, HO.lst.injEq, HO.dK.injEq, HO.tup.injEq, dcAt, rDInM, rDGetM, rDSetM, rDLenM, keyOf_int, keyOf_str, rIsBM, plainV_b, plainV_i, plainV_n, plainV_s, rInM, rListM, rSortM, rSumM, rIsD, tBMM, tBM0M, tSl, rSlM, rAppend, rPop, rClear, wAs, reduceCtorEq, false_implies, true_implies, implies_true, forall_const, cxH_K, clsV_ref, clsV_ty, HO.xd.injEq, Value.ref.injEq, lkc, lkn, pfn, pfc, List.map_nil, rExtend, rCat, rRep, tMethE0, rSortD, rPush, rPopH, tDGetM, gAll, iRev, tCB, sDDel, exf_NoRoom T, exf_NoNumber T, sne_Store_room_entries, sne_Store_room_words, sne_Store_entries_words, sne_Store_room__places, sne_Store_entries__places, sne_Store_words__places, sne_Store_room__free, sne_Store_entries__free, sne_Store_words__free, sne_Store__places__free, sne_Store_room__fresh, sne_Store_entries__fresh, sne_Store_words__fresh, sne_Store__places__fresh, sne_Store__free__fresh, T.no_NoRoom_need, T.ex_NoRoom_NoNumber, T.ex_NoRoom_SaggarError, T.kit_NoRoom_NoNumber, T.kit_NoRoom_NoRoom, T.no_NoNumber_limit, T.ex_NoNumber_NoNumber, T.ex_NoNumber_SaggarError, T.kit_NoNumber_NoNumber, T.kit_NoNumber_NoRoom, rIsL]
            refine for_lstP (K := K) (fun xs => ∃ x y : Int, xs = [.int x, .int y]) (fun R h => ?_) (fun p xs j σ2 H2 => ∃ (n8 n9 : Option V) (bs : List RB) (ts : List TS) (G1 G : Hp), σ2 = [some (V.ref a), some (V.ref p1), some (V.int rm), some (V.int en), some (V.ref s), some (V.ref rl), some (V.ref tk), some (V.int (1 + (i : Int))), n8, n9] ∧ KS A H2 s rl tk rm en G0 (2 * i + j) (2 * i + j) bs ts G1 G ∧ G1 p = some (.lst xs)) ?_ ?_ ?_ ?_
            · have lt : i < cs.length := by omega
              have at1 : atI ((c :: cs).map V.int) (1 + (i : Int)) = some (.int cs[i]) := by
                rw [show 1 + (i : Int) = ((i + 1 : Nat) : Int) by omega]
                exact atI_nat (by rw [List.getElem?_map, List.getElem?_cons_succ, List.getElem?_eq_getElem lt]; rfl)
              simp (config := { maxSteps := 4000000 }) only [tSeq, tNext, tDrop, tRet, tRetN, tIfS, tAsg, tTest, tAnd, tOr, tNot, tAndV, tOrV, tNotV, tIf, tOp, tUn, tVar, tC, tCB, tCons, tNil, tCall, tPart, tNoPart, tM0, tM1, tTup, tLst, tB, tIsN, tNotN, rI0, rI, rU, rEq, rNe, rAdd, gName, gTup, gCons, gNil, gSub, rSetL, rIxL, rIxT, rIxS, L2.start,
      List.map_cons, List.map_nil, List.cons_append, List.nil_append, List.append_nil, List.length_cons, List.length_nil, List.replicate, List.getElem?_cons_zero, List.getElem?_cons_succ, List.set_cons_zero, List.set_cons_succ, Nat.reduceAdd, Nat.reduceSub, Nat.sub_self, Nat.zero_add,
      Option.some.injEq, V.int.injEq, V.str.injEq, V.bl.injEq, V.ref.injEq, V.ty.injEq, List.cons.injEq, and_true, true_and, exists_eq_left, exists_eq_left', exists_eq_right, exists_and_left, exists_and_right, exists_const, decide_eq_true_eq, decide_eq_false_iff_not, if_true, if_false, reduceIte, Bool.false_eq_true, Bool.not_eq_true', sc_ii, sc_ss, sc_bb, str1, cx_K, lstAt, rIxM, rSetM, rLenM, atI_0, atI_1, atI_2, atI_3, setI_0, setI_1, setI_2, setI_3, upd_same, upd_upd, ite_true, ite_false, exists_eq', eq_self, and_assoc, rIsS, isTy_bb, isTy_bi, isTy_ib, isTy_ii, isTy_ss, isTy_nb, isTy_ni, Bool.not_true, Bool.not_false, not_true_eq_false, not_false_eq_true, tChain, tRz1, tRz2, rIsX, tFx, tMethE, tCallS, tCallZ, tMeth, tMake, tFld, sFld, HO.ins.injEq, HO.lst.injEq, HO.dK.injEq, HO.tup.injEq, dcAt, rDInM, rDGetM, rDSetM, rDLenM, keyOf_int, keyOf_str, rIsBM, plainV_b, plainV_i, plainV_n, plainV_s, rInM, rListM, rSortM, rSumM, rIsD, tBMM, tBM0M, tSl, rSlM, rAppend, rPop, rClear, wAs, reduceCtorEq, false_implies, true_implies, implies_true, forall_const, cxH_K, clsV_ref, clsV_ty, HO.xd.injEq, Value.ref.injEq, lkc, lkn, pfn, pfc, List.map_nil, rExtend, rCat, rRep, tMethE0, rSortD, rPush, rPopH, tDGetM, gAll, iRev, tCB, sDDel, exf_NoRoom T, exf_NoNumber T, sne_Store_room_entries, sne_Store_room_words, sne_Store_entries_words, sne_Store_room__places, sne_Store_entries__places, sne_Store_words__places, sne_Store_room__free, sne_Store_entries__free, sne_Store_words__free, sne_Store__places__free, sne_Store_room__fresh, sne_Store_entries__fresh, sne_Store_words__fresh, sne_Store__places__fresh, sne_Store__free__fresh, T.no_NoRoom_need, T.ex_NoRoom_NoNumber, T.ex_NoRoom_SaggarError, T.kit_NoRoom_NoNumber, T.kit_NoRoom_NoRoom, T.no_NoNumber_limit, T.ex_NoNumber_NoNumber, T.ex_NoNumber_SaggarError, T.kit_NoNumber_NoNumber, T.kit_NoNumber_NoRoom, hcl]
              rw [List.map_cons] at at1
              refine ⟨_, at1, _, _, rfl, fun q x y hq => h q _ ⟨x, y, rfl⟩ hq⟩
            · rintro p xs ⟨x, y, rfl⟩ hp
              obtain ⟨G1', G', Z', gp⟩ := Z.one (o := .lst [.int x, .int y]) hp
              exact ⟨_, _, bs, ts, G1', G', rfl, Z'.base Z.sg, gp⟩
            · rintro p xs j σ2 H2 hp ⟨n8, n9, bs, ts, G1, G, rfl, Z, gp⟩
              exact Z.get gp
            · rintro p xs j x0 σ2 H2 ⟨x, y, rfl⟩ hp hx ⟨n8, n9, bs, ts, G1, G, rfl, Z, gp⟩
              have hj : j < 2 := (List.getElem?_eq_some_iff.mp hx).1
              have hz : ∃ z : Int, x0 = .int z := by
                match j, hx with
                | 0, hx => exact ⟨x, (Option.some.inj hx).symm⟩
                | 1, hx => exact ⟨y, (Option.some.inj hx).symm⟩
              obtain ⟨z, rfl⟩ := hz
              simp (config := { maxSteps := 4000000 }) only [tSeq, tNext, tDrop, tRet, tRetN, tIfS, tAsg, tTest, tAnd, tOr, tNot, tAndV, tOrV, tNotV, tIf, tOp, tUn, tVar, tC, tCB, tCons, tNil, tCall, tPart, tNoPart, tM0, tM1, tTup, tLst, tB, tIsN, tNotN, rI0, rI, rU, rEq, rNe, rAdd, gName, gTup, gCons, gNil, gSub, rSetL, rIxL, rIxT, rIxS, L2.start,
      List.map_cons, List.map_nil, List.cons_append, List.nil_append, List.append_nil, List.length_cons, List.length_nil, List.replicate, List.getElem?_cons_zero, List.getElem?_cons_succ, List.set_cons_zero, List.set_cons_succ, Nat.reduceAdd, Nat.reduceSub, Nat.sub_self, Nat.zero_add,
      Option.some.injEq, V.int.injEq, V.str.injEq, V.bl.injEq, V.ref.injEq, V.ty.injEq, List.cons.injEq, and_true, true_and, exists_eq_left, exists_eq_left', exists_eq_right, exists_and_left, exists_and_right, exists_const, decide_eq_true_eq, decide_eq_false_iff_not, if_true, if_false, reduceIte, Bool.false_eq_true, Bool.not_eq_true', sc_ii, sc_ss, sc_bb, str1, cx_K, lstAt, rIxM, rSetM, rLenM, atI_0, atI_1, atI_2, atI_3, setI_0, setI_1, setI_2, setI_3, upd_same, upd_upd, ite_true, ite_false, exists_eq', eq_self, and_assoc, rIsS, isTy_bb, isTy_bi, isTy_ib, isTy_ii, isTy_ss, isTy_nb, isTy_ni, Bool.not_true, Bool.not_false, not_true_eq_false, not_false_eq_true, tChain, tRz1, tRz2, rIsX, tFx, tMethE, tCallS, tCallZ, tMeth, tMake, tFld, sFld, HO.ins.injEq, HO.lst.injEq, HO.dK.injEq, HO.tup.injEq, dcAt, rDInM, rDGetM, rDSetM, rDLenM, keyOf_int, keyOf_str, rIsBM, plainV_b, plainV_i, plainV_n, plainV_s, rInM, rListM, rSortM, rSumM, rIsD, tBMM, tBM0M, tSl, rSlM, rAppend, rPop, rClear, wAs, reduceCtorEq, false_implies, true_implies, implies_true, forall_const, cxH_K, clsV_ref, clsV_ty, HO.xd.injEq, Value.ref.injEq, lkc, lkn, pfn, pfc, List.map_nil, rExtend, rCat, rRep, tMethE0, rSortD, rPush, rPopH, tDGetM, gAll, iRev, tCB, sDDel, exf_NoRoom T, exf_NoNumber T, sne_Store_room_entries, sne_Store_room_words, sne_Store_entries_words, sne_Store_room__places, sne_Store_entries__places, sne_Store_words__places, sne_Store_room__free, sne_Store_entries__free, sne_Store_words__free, sne_Store__places__free, sne_Store_room__fresh, sne_Store_entries__fresh, sne_Store_words__fresh, sne_Store__places__fresh, sne_Store__free__fresh, T.no_NoRoom_need, T.ex_NoRoom_NoNumber, T.ex_NoRoom_SaggarError, T.kit_NoRoom_NoNumber, T.kit_NoRoom_NoRoom, T.no_NoNumber_limit, T.ex_NoNumber_NoNumber, T.ex_NoNumber_SaggarError, T.kit_NoNumber_NoNumber, T.kit_NoNumber_NoRoom, rIsL]
              refine ⟨by decide, fun lm hlm => ?_⟩
              obtain ⟨G1', G', Z', gl⟩ := Z.one (o := .tup [.int rm, .int en]) hlm
              refine ⟨s, rl, tk, lm, rm, en, z, G1', 2 * i + j, 2 * i + j, bs, ts, G1', G', rfl, Z'.top, gl, by omega, by omega, fun H3 bs3 ts3 G13 G3 Z3 => ⟨true, rfl, ?_⟩⟩
              rw [if_neg (by decide)]
              exact ⟨bs3, ts3, G13, ⟨G3, Z3.base (same_trans Z.sg Z'.sg)⟩, Z3.sg _ _ (Z'.sg _ _ gp)⟩
            · rintro p xs σ2 H2 ⟨x, y, rfl⟩ hp ⟨n8, n9, bs, ts, G1, G, rfl, Z, gp⟩
              exact ⟨⟨_, _, _, rfl⟩, bs, ts, G1, G, Z⟩
          · rintro σ' H' ⟨n7, n8, n9, bs, ts, G1, G, rfl, Z⟩
            simp (config := { maxSteps := 4000000 }) only [tSeq, tNext, tDrop, tRet, tRetN, tIfS, tAsg, tTest, tAnd, tOr, tNot, tAndV, tOrV, tNotV, tIf, tOp, tUn, tVar, tC, tCB, tCons, tNil, tCall, tPart, tNoPart, tM0, tM1, tTup, tLst, tB, tIsN, tNotN, rI0, rI, rU, rEq, rNe, rAdd, gName, gTup, gCons, gNil, gSub, rSetL, rIxL, rIxT, rIxS, L2.start,
      List.map_cons, List.map_nil, List.cons_append, List.nil_append, List.append_nil, List.length_cons, List.length_nil, List.replicate, List.getElem?_cons_zero, List.getElem?_cons_succ, List.set_cons_zero, List.set_cons_succ, Nat.reduceAdd, Nat.reduceSub, Nat.sub_self, Nat.zero_add,
      Option.some.injEq, V.int.injEq, V.str.injEq, V.bl.injEq, V.ref.injEq, V.ty.injEq, List.cons.injEq, and_true, true_and, exists_eq_left, exists_eq_left', exists_eq_right, exists_and_left, exists_and_right, exists_const, decide_eq_true_eq, decide_eq_false_iff_not, if_true, if_false, reduceIte, Bool.false_eq_true, Bool.not_eq_true', sc_ii, sc_ss, sc_bb, str1, cx_K, lstAt, rIxM, rSetM, rLenM, atI_0, atI_1, atI_2, atI_3, setI_0, setI_1, setI_2, setI_3, upd_same, upd_upd, ite_true, ite_false, exists_eq', eq_self, and_assoc, rIsS, isTy_bb, isTy_bi, isTy_ib, isTy_ii, isTy_ss, isTy_nb, isTy_ni, Bool.not_true, Bool.not_false, not_true_eq_false, not_false_eq_true, tChain, tRz1, tRz2, rIsX, tFx, tMethE, tCallS, tCallZ, tMeth, tMake, tFld, sFld, HO.ins.injEq, HO.lst.injEq, HO.dK.injEq, HO.tup.injEq, dcAt, rDInM, rDGetM, rDSetM, rDLenM, keyOf_int, keyOf_str, rIsBM, plainV_b, plainV_i, plainV_n, plainV_s, rInM, rListM, rSortM, rSumM, rIsD, tBMM, tBM0M, tSl, rSlM, rAppend, rPop, rClear, wAs, reduceCtorEq, false_implies, true_implies, implies_true, forall_const, cxH_K, clsV_ref, clsV_ty, HO.xd.injEq, Value.ref.injEq, lkc, lkn, pfn, pfc, List.map_nil, rExtend, rCat, rRep, tMethE0, rSortD, rPush, rPopH, tDGetM, gAll, iRev, tCB, sDDel, exf_NoRoom T, exf_NoNumber T, sne_Store_room_entries, sne_Store_room_words, sne_Store_entries_words, sne_Store_room__places, sne_Store_entries__places, sne_Store_words__places, sne_Store_room__free, sne_Store_entries__free, sne_Store_words__free, sne_Store__places__free, sne_Store_room__fresh, sne_Store_entries__fresh, sne_Store_words__fresh, sne_Store__places__fresh, sne_Store__free__fresh, T.no_NoRoom_need, T.ex_NoRoom_NoNumber, T.ex_NoRoom_SaggarError, T.kit_NoRoom_NoNumber, T.kit_NoRoom_NoRoom, T.no_NoNumber_limit, T.ex_NoNumber_NoNumber, T.ex_NoNumber_SaggarError, T.kit_NoNumber_NoNumber, T.kit_NoNumber_NoRoom, rIsL]
            exact k _
end

theorem all_mk {l : PySem.W.OpenLaw} {w : World} {K : PySem.W.Frag} {h : Heap} {mg : Str → Option Value} {fa : Addr} (X : K.In h) (G : h.Ns mainGlobals mg) (hfa : mg "law" = some (.ref fa))
    {f32 : Addr} {od32 an32 : Option Addr} {sl32 : Array (Option Value)} {oc32 kV32 dc32 pm32 cd32 ct32 : Value}
    {f31 : Addr} {od31 an31 : Option Addr} {sl31 : Array (Option Value)} {oc31 kV31 dc31 pm31 cd31 ct31 : Value}
    {f30 : Addr} {od30 an30 : Option Addr} {sl30 : Array (Option Value)} {oc30 kV30 dc30 pm30 cd30 ct30 : Value}
    {f29 : Addr} {od29 an29 : Option Addr} {sl29 : Array (Option Value)} {oc29 kV29 dc29 pm29 cd29 ct29 : Value}
    {f28 : Addr} {od28 an28 : Option Addr} {sl28 : Array (Option Value)} {oc28 kV28 dc28 pm28 cd28 ct28 : Value}
    {f27 : Addr} {od27 an27 : Option Addr} {sl27 : Array (Option Value)} {oc27 kV27 dc27 pm27 cd27 ct27 : Value}
    {f26 : Addr} {od26 an26 : Option Addr} {sl26 : Array (Option Value)} {oc26 kV26 dc26 pm26 cd26 ct26 : Value}
    {f25 : Addr} {od25 an25 : Option Addr} {sl25 : Array (Option Value)} {oc25 kV25 dc25 pm25 cd25 ct25 : Value}
    {f24 : Addr} {od24 an24 : Option Addr} {sl24 : Array (Option Value)} {oc24 kV24 dc24 pm24 cd24 ct24 : Value}
    {f23 : Addr} {od23 an23 : Option Addr} {sl23 : Array (Option Value)} {oc23 kV23 dc23 pm23 cd23 ct23 : Value}
    {f22 : Addr} {od22 an22 : Option Addr} {sl22 : Array (Option Value)} {oc22 kV22 dc22 pm22 cd22 ct22 : Value}
    {f21 : Addr} {od21 an21 : Option Addr} {sl21 : Array (Option Value)} {oc21 kV21 dc21 pm21 cd21 ct21 : Value}
    {f20 : Addr} {od20 an20 : Option Addr} {sl20 : Array (Option Value)} {oc20 kV20 dc20 pm20 cd20 ct20 : Value}
    {f19 : Addr} {od19 an19 : Option Addr} {sl19 : Array (Option Value)} {oc19 kV19 dc19 pm19 cd19 ct19 : Value}
    {f18 : Addr} {od18 an18 : Option Addr} {sl18 : Array (Option Value)} {oc18 kV18 dc18 pm18 cd18 ct18 : Value}
    {f17 : Addr} {od17 an17 : Option Addr} {sl17 : Array (Option Value)} {oc17 kV17 dc17 pm17 cd17 ct17 : Value}
    {f16 : Addr} {od16 an16 : Option Addr} {sl16 : Array (Option Value)} {oc16 kV16 dc16 pm16 cd16 ct16 : Value}
    {f15 : Addr} {od15 an15 : Option Addr} {sl15 : Array (Option Value)} {oc15 kV15 dc15 pm15 cd15 ct15 : Value}
    {f14 : Addr} {od14 an14 : Option Addr} {sl14 : Array (Option Value)} {oc14 kV14 dc14 pm14 cd14 ct14 : Value}
    {f13 : Addr} {od13 an13 : Option Addr} {sl13 : Array (Option Value)} {oc13 kV13 dc13 pm13 cd13 ct13 : Value}
    {f12 : Addr} {od12 an12 : Option Addr} {sl12 : Array (Option Value)} {oc12 kV12 dc12 pm12 cd12 ct12 : Value}
    {f11 : Addr} {od11 an11 : Option Addr} {sl11 : Array (Option Value)} {oc11 kV11 dc11 pm11 cd11 ct11 : Value}
    {f10 : Addr} {od10 an10 : Option Addr} {sl10 : Array (Option Value)} {oc10 kV10 dc10 pm10 cd10 ct10 : Value}
    {f9 : Addr} {od9 an9 : Option Addr} {sl9 : Array (Option Value)} {oc9 kV9 dc9 pm9 cd9 ct9 : Value}
    {f8 : Addr} {od8 an8 : Option Addr} {sl8 : Array (Option Value)} {oc8 kV8 dc8 pm8 cd8 ct8 : Value}
    {f7 : Addr} {od7 an7 : Option Addr} {sl7 : Array (Option Value)} {oc7 kV7 dc7 pm7 cd7 ct7 : Value}
    {f6 : Addr} {od6 an6 : Option Addr} {sl6 : Array (Option Value)} {oc6 kV6 dc6 pm6 cd6 ct6 : Value}
    {f5 : Addr} {od5 an5 : Option Addr} {sl5 : Array (Option Value)} {oc5 kV5 dc5 pm5 cd5 ct5 : Value}
    {f4 : Addr} {od4 an4 : Option Addr} {sl4 : Array (Option Value)} {oc4 kV4 dc4 pm4 cd4 ct4 : Value}
    {f3 : Addr} {od3 an3 : Option Addr} {sl3 : Array (Option Value)} {oc3 kV3 dc3 pm3 cd3 ct3 : Value}
    {f2 : Addr} {od2 an2 : Option Addr} {sl2 : Array (Option Value)} {oc2 kV2 dc2 pm2 cd2 ct2 : Value}
    {f1 : Addr} {od1 an1 : Option Addr} {sl1 : Array (Option Value)} {oc1 kV1 dc1 pm1 cd1 ct1 : Value}
    {f0 : Addr} {od0 an0 : Option Addr} {sl0 : Array (Option Value)} {oc0 kV0 dc0 pm0 cd0 ct0 : Value}
    {C_SaggarError : Addr}
    {C_NoRoom : Addr}
    {C_NoNumber : Addr}
    {C_Store : Addr}
    {nm_NoRoom q_NoRoom : Str} {N_NoRoom : Addr} {bs_NoRoom : List Value} {sn_NoRoom : List Str} {sub_NoRoom : List Value} {ab_NoRoom : Bool} {col_NoRoom : Option Bool} {dd_NoRoom : Option Addr} {m0_NoRoom m1_NoRoom m2_NoRoom m3_NoRoom m5_NoRoom : Option Value}
    {nm_NoNumber q_NoNumber : Str} {N_NoNumber : Addr} {bs_NoNumber : List Value} {sn_NoNumber : List Str} {sub_NoNumber : List Value} {ab_NoNumber : Bool} {col_NoNumber : Option Bool} {dd_NoNumber : Option Addr} {m0_NoNumber m1_NoNumber m2_NoNumber m3_NoNumber m5_NoNumber : Option Value}
    {t_NIL : Tok}
    {t_HEADER : Tok}
    (m_SaggarError : PySem.W.nsIn K mainGlobals "SaggarError" = some (some (.ref C_SaggarError)))
    (m_NoRoom : PySem.W.nsIn K mainGlobals "NoRoom" = some (some (.ref C_NoRoom)))
    (m_NoNumber : PySem.W.nsIn K mainGlobals "NoNumber" = some (some (.ref C_NoNumber)))
    (m_Store : PySem.W.nsIn K mainGlobals "Store" = some (some (.ref C_Store)))
    (xl_NoRoom : K.lookup C_NoRoom = some (excClassObj nm_NoRoom q_NoRoom C_NoRoom N_NoRoom bs_NoRoom [.ref C_SaggarError, .type "ValueError", .type "Exception", .type "BaseException", .type "object"] true sn_NoRoom sub_NoRoom ab_NoRoom col_NoRoom dd_NoRoom m0_NoRoom m1_NoRoom m2_NoRoom m3_NoRoom m5_NoRoom "ValueError.__new__"))
    (sa_NoRoom : PySem.W.findIn K (.ref C_NoRoom) "__setattr__" = some (some (.builtin "object.__setattr__"))) (ga_NoRoom : PySem.W.findIn K (.ref C_NoRoom) "__getattribute__" = some (some (.builtin "BaseException.__getattribute__"))) (gg_NoRoom : PySem.W.findIn K (.ref C_NoRoom) "__getattr__" = some none) (ic_NoRoom : PySem.W.findIn K (.ref C_NoRoom) "__init__" = some (some (.ref f0))) (ti_NoRoom : PySem.W.typeIn K (.ref f0) = some (.type "function"))
    (kc_NoRoom : PySem.W.keepIn K (.ref C_NoRoom) = true) (ec_NoRoom : PySem.W.subIn K (.ref C_NoRoom) (.type "BaseException") = some true) (tc_NoRoom : PySem.W.typeIn K (.ref C_NoRoom) = some (.type "type")) (hc_NoRoom : PySem.W.hasDictIn K C_NoRoom = true)
    (ha_NoRoom : PySem.W.findIn K (.ref C_NoRoom) "__class__" = some (some (.builtin "object.__class__"))) (hn_NoRoom : PySem.W.specialIn K (.builtin "object.__class__") "__get__" = some (some (.builtin "getset_descriptor.__get__"))) (ht_NoRoom : PySem.W.takesIn K (.builtin "object.__class__") = some true) (hm_NoRoom : PySem.W.mroIn K C_NoRoom (.type "object") = some true)
    (no_NoRoom_need : PySem.W.findIn K (.ref C_NoRoom) "need" = some none)
    (ex_NoRoom_NoNumber : PySem.W.exmOne K (.ref C_NoRoom) (.ref C_NoNumber) = some false)
    (ex_NoRoom_SaggarError : PySem.W.exmOne K (.ref C_NoRoom) (.ref C_SaggarError) = some true)
    (kit_NoRoom_NoNumber : PySem.W.kitOne K (.ref C_NoRoom) (.ref C_NoNumber) = some false)
    (kit_NoRoom_NoRoom : PySem.W.kitOne K (.ref C_NoRoom) (.ref C_NoRoom) = some true)
    (xl_NoNumber : K.lookup C_NoNumber = some (excClassObj nm_NoNumber q_NoNumber C_NoNumber N_NoNumber bs_NoNumber [.ref C_SaggarError, .type "ValueError", .type "Exception", .type "BaseException", .type "object"] true sn_NoNumber sub_NoNumber ab_NoNumber col_NoNumber dd_NoNumber m0_NoNumber m1_NoNumber m2_NoNumber m3_NoNumber m5_NoNumber "ValueError.__new__"))
    (sa_NoNumber : PySem.W.findIn K (.ref C_NoNumber) "__setattr__" = some (some (.builtin "object.__setattr__"))) (ga_NoNumber : PySem.W.findIn K (.ref C_NoNumber) "__getattribute__" = some (some (.builtin "BaseException.__getattribute__"))) (gg_NoNumber : PySem.W.findIn K (.ref C_NoNumber) "__getattr__" = some none) (ic_NoNumber : PySem.W.findIn K (.ref C_NoNumber) "__init__" = some (some (.ref f1))) (ti_NoNumber : PySem.W.typeIn K (.ref f1) = some (.type "function"))
    (kc_NoNumber : PySem.W.keepIn K (.ref C_NoNumber) = true) (ec_NoNumber : PySem.W.subIn K (.ref C_NoNumber) (.type "BaseException") = some true) (tc_NoNumber : PySem.W.typeIn K (.ref C_NoNumber) = some (.type "type")) (hc_NoNumber : PySem.W.hasDictIn K C_NoNumber = true)
    (ha_NoNumber : PySem.W.findIn K (.ref C_NoNumber) "__class__" = some (some (.builtin "object.__class__"))) (hn_NoNumber : PySem.W.specialIn K (.builtin "object.__class__") "__get__" = some (some (.builtin "getset_descriptor.__get__"))) (ht_NoNumber : PySem.W.takesIn K (.builtin "object.__class__") = some true) (hm_NoNumber : PySem.W.mroIn K C_NoNumber (.type "object") = some true)
    (no_NoNumber_limit : PySem.W.findIn K (.ref C_NoNumber) "limit" = some none)
    (ex_NoNumber_NoNumber : PySem.W.exmOne K (.ref C_NoNumber) (.ref C_NoNumber) = some true)
    (ex_NoNumber_SaggarError : PySem.W.exmOne K (.ref C_NoNumber) (.ref C_SaggarError) = some true)
    (kit_NoNumber_NoNumber : PySem.W.kitOne K (.ref C_NoNumber) (.ref C_NoNumber) = some true)
    (kit_NoNumber_NoRoom : PySem.W.kitOne K (.ref C_NoNumber) (.ref C_NoRoom) = some false)
    (pg_Store : PySem.W.plainGet K C_Store Str.empty = true) (hd_Store : PySem.W.hasDictIn K C_Store = true) (po_Store : PySem.W.plainOver K C_Store = true) (sa_Store : PySem.W.findIn K (.ref C_Store) "__setattr__" = some (some (.builtin "object.__setattr__")))
    (mi_Store : PySem.W.makesIn K C_Store = true) (kc_Store : PySem.W.keepIn K (.ref C_Store) = true)
    (no_Store_room : PySem.W.findIn K (.ref C_Store) "room" = some none)
    (no_Store_entries : PySem.W.findIn K (.ref C_Store) "entries" = some none)
    (no_Store_words : PySem.W.findIn K (.ref C_Store) "words" = some none)
    (no_Store__places : PySem.W.findIn K (.ref C_Store) "_places" = some none)
    (no_Store__free : PySem.W.findIn K (.ref C_Store) "_free" = some none)
    (no_Store__fresh : PySem.W.findIn K (.ref C_Store) "_fresh" = some none)
    (l0 : K.lookup f0 = some ⟨oc0, od0, .func (PySem.W.fnOf "__init__" "NoRoom.__init__" (defArgs s_NoRoom___init__) (defBody s_NoRoom___init__) (defScope s_NoRoom___init__) .none kV0 dc0 pm0 an0 cd0 ct0), sl0⟩) (c0 : PySem.W.codeIn K cd0 "NoRoom.__init__" = true) (k0 : PySem.W.keepIn K (.ref f0) = true)
    (l1 : K.lookup f1 = some ⟨oc1, od1, .func (PySem.W.fnOf "__init__" "NoNumber.__init__" (defArgs s_NoNumber___init__) (defBody s_NoNumber___init__) (defScope s_NoNumber___init__) .none kV1 dc1 pm1 an1 cd1 ct1), sl1⟩) (c1 : PySem.W.codeIn K cd1 "NoNumber.__init__" = true) (k1 : PySem.W.keepIn K (.ref f1) = true)
    (a2 : PySem.W.findIn K (.ref C_Store) "__init__" = some (some (.ref f2))) (i2 : PySem.W.isFn K (.ref f2) = true)
    (l2 : K.lookup f2 = some ⟨oc2, od2, .func (PySem.W.fnOf "__init__" "Store.__init__" (defArgs s_Store___init__) (defBody s_Store___init__) (defScope s_Store___init__) .none kV2 dc2 pm2 an2 cd2 ct2), sl2⟩) (c2 : PySem.W.codeIn K cd2 "Store.__init__" = true) (k2 : PySem.W.keepIn K (.ref f2) = true)
    (a3 : PySem.W.findIn K (.ref C_Store) "used" = some (some (.ref f3))) (i3 : PySem.W.isFn K (.ref f3) = true)
    (l3 : K.lookup f3 = some ⟨oc3, od3, .func (PySem.W.fnOf "used" "Store.used" (defArgs s_Store_used) (defBody s_Store_used) (defScope s_Store_used) .none kV3 dc3 pm3 an3 cd3 ct3), sl3⟩) (c3 : PySem.W.codeIn K cd3 "Store.used" = true) (k3 : PySem.W.keepIn K (.ref f3) = true)
    (a4 : PySem.W.findIn K (.ref C_Store) "exists" = some (some (.ref f4))) (i4 : PySem.W.isFn K (.ref f4) = true)
    (l4 : K.lookup f4 = some ⟨oc4, od4, .func (PySem.W.fnOf "exists" "Store.exists" (defArgs s_Store_exists) (defBody s_Store_exists) (defScope s_Store_exists) .none kV4 dc4 pm4 an4 cd4 ct4), sl4⟩) (c4 : PySem.W.codeIn K cd4 "Store.exists" = true) (k4 : PySem.W.keepIn K (.ref f4) = true)
    (a5 : PySem.W.findIn K (.ref C_Store) "numbers" = some (some (.ref f5))) (i5 : PySem.W.isFn K (.ref f5) = true)
    (l5 : K.lookup f5 = some ⟨oc5, od5, .func (PySem.W.fnOf "numbers" "Store.numbers" (defArgs s_Store_numbers) (defBody s_Store_numbers) (defScope s_Store_numbers) .none kV5 dc5 pm5 an5 cd5 ct5), sl5⟩) (c5 : PySem.W.codeIn K cd5 "Store.numbers" = true) (k5 : PySem.W.keepIn K (.ref f5) = true)
    (a6 : PySem.W.findIn K (.ref C_Store) "free_number" = some (some (.ref f6))) (i6 : PySem.W.isFn K (.ref f6) = true)
    (l6 : K.lookup f6 = some ⟨oc6, od6, .func (PySem.W.fnOf "free_number" "Store.free_number" (defArgs s_Store_free_number) (defBody s_Store_free_number) (defScope s_Store_free_number) .none kV6 dc6 pm6 an6 cd6 ct6), sl6⟩) (c6 : PySem.W.codeIn K cd6 "Store.free_number" = true) (k6 : PySem.W.keepIn K (.ref f6) = true)
    (a7 : PySem.W.findIn K (.ref C_Store) "allocate" = some (some (.ref f7))) (i7 : PySem.W.isFn K (.ref f7) = true)
    (l7 : K.lookup f7 = some ⟨oc7, od7, .func (PySem.W.fnOf "allocate" "Store.allocate" (defArgs s_Store_allocate) (defBody s_Store_allocate) (defScope s_Store_allocate) .none kV7 dc7 pm7 an7 cd7 ct7), sl7⟩) (c7 : PySem.W.codeIn K cd7 "Store.allocate" = true) (k7 : PySem.W.keepIn K (.ref f7) = true)
    (a8 : PySem.W.findIn K (.ref C_Store) "size" = some (some (.ref f8))) (i8 : PySem.W.isFn K (.ref f8) = true)
    (l8 : K.lookup f8 = some ⟨oc8, od8, .func (PySem.W.fnOf "size" "Store.size" (defArgs s_Store_size) (defBody s_Store_size) (defScope s_Store_size) .none kV8 dc8 pm8 an8 cd8 ct8), sl8⟩) (c8 : PySem.W.codeIn K cd8 "Store.size" = true) (k8 : PySem.W.keepIn K (.ref f8) = true)
    (a9 : PySem.W.findIn K (.ref C_Store) "kind" = some (some (.ref f9))) (i9 : PySem.W.isFn K (.ref f9) = true)
    (l9 : K.lookup f9 = some ⟨oc9, od9, .func (PySem.W.fnOf "kind" "Store.kind" (defArgs s_Store_kind) (defBody s_Store_kind) (defScope s_Store_kind) .none kV9 dc9 pm9 an9 cd9 ct9), sl9⟩) (c9 : PySem.W.codeIn K cd9 "Store.kind" = true) (k9 : PySem.W.keepIn K (.ref f9) = true)
    (a10 : PySem.W.findIn K (.ref C_Store) "set_kind" = some (some (.ref f10))) (i10 : PySem.W.isFn K (.ref f10) = true)
    (l10 : K.lookup f10 = some ⟨oc10, od10, .func (PySem.W.fnOf "set_kind" "Store.set_kind" (defArgs s_Store_set_kind) (defBody s_Store_set_kind) (defScope s_Store_set_kind) .none kV10 dc10 pm10 an10 cd10 ct10), sl10⟩) (c10 : PySem.W.codeIn K cd10 "Store.set_kind" = true) (k10 : PySem.W.keepIn K (.ref f10) = true)
    (a11 : PySem.W.findIn K (.ref C_Store) "get" = some (some (.ref f11))) (i11 : PySem.W.isFn K (.ref f11) = true)
    (l11 : K.lookup f11 = some ⟨oc11, od11, .func (PySem.W.fnOf "get" "Store.get" (defArgs s_Store_get) (defBody s_Store_get) (defScope s_Store_get) .none kV11 dc11 pm11 an11 cd11 ct11), sl11⟩) (c11 : PySem.W.codeIn K cd11 "Store.get" = true) (k11 : PySem.W.keepIn K (.ref f11) = true)
    (a12 : PySem.W.findIn K (.ref C_Store) "put" = some (some (.ref f12))) (i12 : PySem.W.isFn K (.ref f12) = true)
    (l12 : K.lookup f12 = some ⟨oc12, od12, .func (PySem.W.fnOf "put" "Store.put" (defArgs s_Store_put) (defBody s_Store_put) (defScope s_Store_put) .none kV12 dc12 pm12 an12 cd12 ct12), sl12⟩) (c12 : PySem.W.codeIn K cd12 "Store.put" = true) (k12 : PySem.W.keepIn K (.ref f12) = true)
    (a13 : PySem.W.findIn K (.ref C_Store) "slots" = some (some (.ref f13))) (i13 : PySem.W.isFn K (.ref f13) = true)
    (l13 : K.lookup f13 = some ⟨oc13, od13, .func (PySem.W.fnOf "slots" "Store.slots" (defArgs s_Store_slots) (defBody s_Store_slots) (defScope s_Store_slots) .none kV13 dc13 pm13 an13 cd13 ct13), sl13⟩) (c13 : PySem.W.codeIn K cd13 "Store.slots" = true) (k13 : PySem.W.keepIn K (.ref f13) = true)
    (a14 : PySem.W.findIn K (.ref C_Store) "drop" = some (some (.ref f14))) (i14 : PySem.W.isFn K (.ref f14) = true)
    (l14 : K.lookup f14 = some ⟨oc14, od14, .func (PySem.W.fnOf "drop" "Store.drop" (defArgs s_Store_drop) (defBody s_Store_drop) (defScope s_Store_drop) .none kV14 dc14 pm14 an14 cd14 ct14), sl14⟩) (c14 : PySem.W.codeIn K cd14 "Store.drop" = true) (k14 : PySem.W.keepIn K (.ref f14) = true)
    (a15 : PySem.W.findIn K (.ref C_Store) "close_up" = some (some (.ref f15))) (i15 : PySem.W.isFn K (.ref f15) = true)
    (l15 : K.lookup f15 = some ⟨oc15, od15, .func (PySem.W.fnOf "close_up" "Store.close_up" (defArgs s_Store_close_up) (defBody s_Store_close_up) (defScope s_Store_close_up) .none kV15 dc15 pm15 an15 cd15 ct15), sl15⟩) (c15 : PySem.W.codeIn K cd15 "Store.close_up" = true) (k15 : PySem.W.keepIn K (.ref f15) = true)
    (a16 : PySem.W.findIn K (.ref C_Store) "snapshot" = some (some (.ref f16))) (i16 : PySem.W.isFn K (.ref f16) = true)
    (l16 : K.lookup f16 = some ⟨oc16, od16, .func (PySem.W.fnOf "snapshot" "Store.snapshot" (defArgs s_Store_snapshot) (defBody s_Store_snapshot) (defScope s_Store_snapshot) .none kV16 dc16 pm16 an16 cd16 ct16), sl16⟩) (c16 : PySem.W.codeIn K cd16 "Store.snapshot" = true) (k16 : PySem.W.keepIn K (.ref f16) = true)
    (a17 : PySem.W.findIn K (.ref C_Store) "restore" = some (some (.ref f17))) (i17 : PySem.W.isFn K (.ref f17) = true)
    (l17 : K.lookup f17 = some ⟨oc17, od17, .func (PySem.W.fnOf "restore" "Store.restore" (defArgs s_Store_restore) (defBody s_Store_restore) (defScope s_Store_restore) .none kV17 dc17 pm17 an17 cd17 ct17), sl17⟩) (c17 : PySem.W.codeIn K cd17 "Store.restore" = true) (k17 : PySem.W.keepIn K (.ref f17) = true)
    (a18 : PySem.W.findIn K (.ref C_Store) "exchange" = some (some (.ref f18))) (i18 : PySem.W.isFn K (.ref f18) = true)
    (l18 : K.lookup f18 = some ⟨oc18, od18, .func (PySem.W.fnOf "exchange" "Store.exchange" (defArgs s_Store_exchange) (defBody s_Store_exchange) (defScope s_Store_exchange) .none kV18 dc18 pm18 an18 cd18 ct18), sl18⟩) (c18 : PySem.W.codeIn K cd18 "Store.exchange" = true) (k18 : PySem.W.keepIn K (.ref f18) = true)
    (a19 : PySem.W.nsIn K mainGlobals "_law_number" = some (some (.ref f19)))
    (l19 : K.lookup f19 = some ⟨oc19, od19, .func (PySem.W.fnOf "_law_number" "_law_number" (defArgs s__law_number) (defBody s__law_number) (defScope s__law_number) .none kV19 dc19 pm19 an19 cd19 ct19), sl19⟩) (c19 : PySem.W.codeIn K cd19 "_law_number" = true) (k19 : PySem.W.keepIn K (.ref f19) = true)
    (a20 : PySem.W.nsIn K mainGlobals "_law_deeds" = some (some (.ref f20)))
    (l20 : K.lookup f20 = some ⟨oc20, od20, .func (PySem.W.fnOf "_law_deeds" "_law_deeds" (defArgs s__law_deeds) (defBody s__law_deeds) (defScope s__law_deeds) .none kV20 dc20 pm20 an20 cd20 ct20), sl20⟩) (c20 : PySem.W.codeIn K cd20 "_law_deeds" = true) (k20 : PySem.W.keepIn K (.ref f20) = true)
    (a21 : PySem.W.nsIn K mainGlobals "_law_word" = some (some (.ref f21)))
    (l21 : K.lookup f21 = some ⟨oc21, od21, .func (PySem.W.fnOf "_law_word" "_law_word" (defArgs s__law_word) (defBody s__law_word) (defScope s__law_word) .none kV21 dc21 pm21 an21 cd21 ct21), sl21⟩) (c21 : PySem.W.codeIn K cd21 "_law_word" = true) (k21 : PySem.W.keepIn K (.ref f21) = true)
    (a22 : PySem.W.nsIn K mainGlobals "_law_is" = some (some (.ref f22)))
    (l22 : K.lookup f22 = some ⟨oc22, od22, .func (PySem.W.fnOf "_law_is" "_law_is" (defArgs s__law_is) (defBody s__law_is) (defScope s__law_is) .none kV22 dc22 pm22 an22 cd22 ct22), sl22⟩) (c22 : PySem.W.codeIn K cd22 "_law_is" = true) (k22 : PySem.W.keepIn K (.ref f22) = true)
    (a23 : PySem.W.nsIn K mainGlobals "_law_same" = some (some (.ref f23)))
    (l23 : K.lookup f23 = some ⟨oc23, od23, .func (PySem.W.fnOf "_law_same" "_law_same" (defArgs s__law_same) (defBody s__law_same) (defScope s__law_same) .none kV23 dc23 pm23 an23 cd23 ct23), sl23⟩) (c23 : PySem.W.codeIn K cd23 "_law_same" = true) (k23 : PySem.W.keepIn K (.ref f23) = true)
    (a24 : PySem.W.nsIn K mainGlobals "_law_flat" = some (some (.ref f24)))
    (l24 : K.lookup f24 = some ⟨oc24, od24, .func (PySem.W.fnOf "_law_flat" "_law_flat" (defArgs s__law_flat) (defBody s__law_flat) (defScope s__law_flat) .none kV24 dc24 pm24 an24 cd24 ct24), sl24⟩) (c24 : PySem.W.codeIn K cd24 "_law_flat" = true) (k24 : PySem.W.keepIn K (.ref f24) = true)
    (a25 : PySem.W.nsIn K mainGlobals "_law_living" = some (some (.ref f25)))
    (l25 : K.lookup f25 = some ⟨oc25, od25, .func (PySem.W.fnOf "_law_living" "_law_living" (defArgs s__law_living) (defBody s__law_living) (defScope s__law_living) .none kV25 dc25 pm25 an25 cd25 ct25), sl25⟩) (c25 : PySem.W.codeIn K cd25 "_law_living" = true) (k25 : PySem.W.keepIn K (.ref f25) = true)
    (a26 : PySem.W.nsIn K mainGlobals "_law_free" = some (some (.ref f26)))
    (l26 : K.lookup f26 = some ⟨oc26, od26, .func (PySem.W.fnOf "_law_free" "_law_free" (defArgs s__law_free) (defBody s__law_free) (defScope s__law_free) .none kV26 dc26 pm26 an26 cd26 ct26), sl26⟩) (c26 : PySem.W.codeIn K cd26 "_law_free" = true) (k26 : PySem.W.keepIn K (.ref f26) = true)
    (a27 : PySem.W.nsIn K mainGlobals "_law_copy" = some (some (.ref f27)))
    (l27 : K.lookup f27 = some ⟨oc27, od27, .func (PySem.W.fnOf "_law_copy" "_law_copy" (defArgs s__law_copy) (defBody s__law_copy) (defScope s__law_copy) .none kV27 dc27 pm27 an27 cd27 ct27), sl27⟩) (c27 : PySem.W.codeIn K cd27 "_law_copy" = true) (k27 : PySem.W.keepIn K (.ref f27) = true)
    (a28 : PySem.W.nsIn K mainGlobals "_law_allocated" = some (some (.ref f28)))
    (l28 : K.lookup f28 = some ⟨oc28, od28, .func (PySem.W.fnOf "_law_allocated" "_law_allocated" (defArgs s__law_allocated) (defBody s__law_allocated) (defScope s__law_allocated) .none kV28 dc28 pm28 an28 cd28 ct28), sl28⟩) (c28 : PySem.W.codeIn K cd28 "_law_allocated" = true) (k28 : PySem.W.keepIn K (.ref f28) = true)
    (a29 : PySem.W.nsIn K mainGlobals "_law_changed" = some (some (.ref f29)))
    (l29 : K.lookup f29 = some ⟨oc29, od29, .func (PySem.W.fnOf "_law_changed" "_law_changed" (defArgs s__law_changed) (defBody s__law_changed) (defScope s__law_changed) .none kV29 dc29 pm29 an29 cd29 ct29), sl29⟩) (c29 : PySem.W.codeIn K cd29 "_law_changed" = true) (k29 : PySem.W.keepIn K (.ref f29) = true)
    (a30 : PySem.W.nsIn K mainGlobals "_law_agrees" = some (some (.ref f30)))
    (l30 : K.lookup f30 = some ⟨oc30, od30, .func (PySem.W.fnOf "_law_agrees" "_law_agrees" (defArgs s__law_agrees) (defBody s__law_agrees) (defScope s__law_agrees) .none kV30 dc30 pm30 an30 cd30 ct30), sl30⟩) (c30 : PySem.W.codeIn K cd30 "_law_agrees" = true) (k30 : PySem.W.keepIn K (.ref f30) = true)
    (a31 : PySem.W.nsIn K mainGlobals "_law_deed" = some (some (.ref f31)))
    (l31 : K.lookup f31 = some ⟨oc31, od31, .func (PySem.W.fnOf "_law_deed" "_law_deed" (defArgs s__law_deed) (defBody s__law_deed) (defScope s__law_deed) .none kV31 dc31 pm31 an31 cd31 ct31), sl31⟩) (c31 : PySem.W.codeIn K cd31 "_law_deed" = true) (k31 : PySem.W.keepIn K (.ref f31) = true)
    (a32 : PySem.W.nsIn K mainGlobals "law" = some (some (.ref f32)))
    (l32 : K.lookup f32 = some ⟨oc32, od32, .func (PySem.W.fnOf "law" "law" (defArgs s_law) (defBody s_law) (defScope s_law) .none kV32 dc32 pm32 an32 cd32 ct32), sl32⟩) (c32 : PySem.W.codeIn K cd32 "law" = true) (k32 : PySem.W.keepIn K (.ref f32) = true)
    (q_NIL : PySem.W.nsIn K mainGlobals "NIL" = some (some (.int (0) t_NIL)))
    (q_HEADER : PySem.W.nsIn K mainGlobals "HEADER" = some (some (.int (3) t_HEADER)))
    (h_heappop : PySem.W.nsIn K mainGlobals "heappop" = some (some (.builtin "_heapq.heappop")))
    (h_heappush : PySem.W.nsIn K mainGlobals "heappush" = some (some (.builtin "_heapq.heappush")))
    (z_ValueError : PySem.W.nsIn K mainGlobals "ValueError" = some none)
    (z_bool : PySem.W.nsIn K mainGlobals "bool" = some none)
    (z_int : PySem.W.nsIn K mainGlobals "int" = some none)
    (z_isinstance : PySem.W.nsIn K mainGlobals "isinstance" = some none)
    (z_len : PySem.W.nsIn K mainGlobals "len" = some none)
    (z_list : PySem.W.nsIn K mainGlobals "list" = some none)
    (z_range : PySem.W.nsIn K mainGlobals "range" = some none)
    (z_sorted : PySem.W.nsIn K mainGlobals "sorted" = some none) :
    ∃ fd : FuncData, (∀ (s : Shared) (v : Value), BindsTo s fd ⟨[v], []⟩ [("script", v)]) ∧ ∀ base : Heap, K.In base → base.Ns mainGlobals mg → FnOk l.prog w K mg base CX0 7 fa fd ["script"] (sp_law K) := by
  have e : fa = f32 := Value.ref.inj (Option.some.inj (hfa.symm.trans (PySem.W.mg_of X G a32)))
  rw [e]
  have T : Txt K mg { C_SaggarError := C_SaggarError, C_NoRoom := C_NoRoom, C_NoNumber := C_NoNumber, C_Store := C_Store, f_NoRoom___init__ := f0, d_NoRoom___init__ := _, f_NoNumber___init__ := f1, d_NoNumber___init__ := _, f_Store___init__ := f2, d_Store___init__ := _, f_Store_used := f3, d_Store_used := _, f_Store_exists := f4, d_Store_exists := _, f_Store_numbers := f5, d_Store_numbers := _, f_Store_free_number := f6, d_Store_free_number := _, f_Store_allocate := f7, d_Store_allocate := _, f_Store_size := f8, d_Store_size := _, f_Store_kind := f9, d_Store_kind := _, f_Store_set_kind := f10, d_Store_set_kind := _, f_Store_get := f11, d_Store_get := _, f_Store_put := f12, d_Store_put := _, f_Store_slots := f13, d_Store_slots := _, f_Store_drop := f14, d_Store_drop := _, f_Store_close_up := f15, d_Store_close_up := _, f_Store_snapshot := f16, d_Store_snapshot := _, f_Store_restore := f17, d_Store_restore := _, f_Store_exchange := f18, d_Store_exchange := _, f__law_number := f19, d__law_number := _, f__law_deeds := f20, d__law_deeds := _, f__law_word := f21, d__law_word := _, f__law_is := f22, d__law_is := _, f__law_same := f23, d__law_same := _, f__law_flat := f24, d__law_flat := _, f__law_living := f25, d__law_living := _, f__law_free := f26, d__law_free := _, f__law_copy := f27, d__law_copy := _, f__law_allocated := f28, d__law_allocated := _, f__law_changed := f29, d__law_changed := _, f__law_agrees := f30, d__law_agrees := _, f__law_deed := f31, d__law_deed := _, f_law := f32, d_law := _, t_NIL := t_NIL, t_HEADER := t_HEADER } := {
      m_SaggarError := PySem.W.mg_of X G m_SaggarError,
      m_NoRoom := PySem.W.mg_of X G m_NoRoom,
      m_NoNumber := PySem.W.mg_of X G m_NoNumber,
      m_Store := PySem.W.mg_of X G m_Store,
      x_NoRoom := ⟨⟨⟨_, _, _, _, _, _, _, _, _, _, _, _, _, _, _, xl_NoRoom, by rfl⟩, sa_NoRoom, ec_NoRoom, tc_NoRoom, kc_NoRoom⟩, ⟨ga_NoRoom, gg_NoRoom, ec_NoRoom, hc_NoRoom⟩, ic_NoRoom, ti_NoRoom, ha_NoRoom, hn_NoRoom, ht_NoRoom, hm_NoRoom⟩,
      no_NoRoom_need := no_NoRoom_need,
      ex_NoRoom_NoNumber := ex_NoRoom_NoNumber,
      ex_NoRoom_SaggarError := ex_NoRoom_SaggarError,
      kit_NoRoom_NoNumber := kit_NoRoom_NoNumber,
      kit_NoRoom_NoRoom := kit_NoRoom_NoRoom,
      x_NoNumber := ⟨⟨⟨_, _, _, _, _, _, _, _, _, _, _, _, _, _, _, xl_NoNumber, by rfl⟩, sa_NoNumber, ec_NoNumber, tc_NoNumber, kc_NoNumber⟩, ⟨ga_NoNumber, gg_NoNumber, ec_NoNumber, hc_NoNumber⟩, ic_NoNumber, ti_NoNumber, ha_NoNumber, hn_NoNumber, ht_NoNumber, hm_NoNumber⟩,
      no_NoNumber_limit := no_NoNumber_limit,
      ex_NoNumber_NoNumber := ex_NoNumber_NoNumber,
      ex_NoNumber_SaggarError := ex_NoNumber_SaggarError,
      kit_NoNumber_NoNumber := kit_NoNumber_NoNumber,
      kit_NoNumber_NoRoom := kit_NoNumber_NoRoom,
      cl_Store := ⟨pg_Store, hd_Store, po_Store, sa_Store⟩,
      mk_Store := ⟨mi_Store, a2, i2, kc_Store⟩,
      no_Store_room := no_Store_room,
      no_Store_entries := no_Store_entries,
      no_Store_words := no_Store_words,
      no_Store__places := no_Store__places,
      no_Store__free := no_Store__free,
      no_Store__fresh := no_Store__fresh,
      k_NoRoom___init__ := k0,
      F_NoRoom___init__ := fun_mk (st := s_NoRoom___init__) l0 c0 k0,
      b_NoRoom___init__ := (fun_mk (st := s_NoRoom___init__) l0 c0 k0).binds (fun _ _ _ _ _ _ us hl => match us, hl with | [_, _], _ => rfl),
      k_NoNumber___init__ := k1,
      F_NoNumber___init__ := fun_mk (st := s_NoNumber___init__) l1 c1 k1,
      b_NoNumber___init__ := (fun_mk (st := s_NoNumber___init__) l1 c1 k1).binds (fun _ _ _ _ _ _ us hl => match us, hl with | [_, _], _ => rfl),
      k_Store___init__ := k2,
      F_Store___init__ := fun_mk (st := s_Store___init__) l2 c2 k2,
      b_Store___init__ := (fun_mk (st := s_Store___init__) l2 c2 k2).binds (fun _ _ _ _ _ _ us hl => match us, hl with | [_, _, _], _ => rfl),
      me_Store_used := ⟨a3, i3, k3⟩,
      k_Store_used := k3,
      F_Store_used := fun_mk (st := s_Store_used) l3 c3 k3,
      b_Store_used := (fun_mk (st := s_Store_used) l3 c3 k3).binds (fun _ _ _ _ _ _ us hl => match us, hl with | [_], _ => rfl),
      me_Store_exists := ⟨a4, i4, k4⟩,
      k_Store_exists := k4,
      F_Store_exists := fun_mk (st := s_Store_exists) l4 c4 k4,
      b_Store_exists := (fun_mk (st := s_Store_exists) l4 c4 k4).binds (fun _ _ _ _ _ _ us hl => match us, hl with | [_, _], _ => rfl),
      me_Store_numbers := ⟨a5, i5, k5⟩,
      k_Store_numbers := k5,
      F_Store_numbers := fun_mk (st := s_Store_numbers) l5 c5 k5,
      b_Store_numbers := (fun_mk (st := s_Store_numbers) l5 c5 k5).binds (fun _ _ _ _ _ _ us hl => match us, hl with | [_], _ => rfl),
      me_Store_free_number := ⟨a6, i6, k6⟩,
      k_Store_free_number := k6,
      F_Store_free_number := fun_mk (st := s_Store_free_number) l6 c6 k6,
      b_Store_free_number := (fun_mk (st := s_Store_free_number) l6 c6 k6).binds (fun _ _ _ _ _ _ us hl => match us, hl with | [_], _ => rfl),
      me_Store_allocate := ⟨a7, i7, k7⟩,
      k_Store_allocate := k7,
      F_Store_allocate := fun_mk (st := s_Store_allocate) l7 c7 k7,
      b_Store_allocate := (fun_mk (st := s_Store_allocate) l7 c7 k7).binds (fun _ _ _ _ _ _ us hl => match us, hl with | [_, _, _], _ => rfl),
      me_Store_size := ⟨a8, i8, k8⟩,
      k_Store_size := k8,
      F_Store_size := fun_mk (st := s_Store_size) l8 c8 k8,
      b_Store_size := (fun_mk (st := s_Store_size) l8 c8 k8).binds (fun _ _ _ _ _ _ us hl => match us, hl with | [_, _], _ => rfl),
      me_Store_kind := ⟨a9, i9, k9⟩,
      k_Store_kind := k9,
      F_Store_kind := fun_mk (st := s_Store_kind) l9 c9 k9,
      b_Store_kind := (fun_mk (st := s_Store_kind) l9 c9 k9).binds (fun _ _ _ _ _ _ us hl => match us, hl with | [_, _], _ => rfl),
      me_Store_set_kind := ⟨a10, i10, k10⟩,
      k_Store_set_kind := k10,
      F_Store_set_kind := fun_mk (st := s_Store_set_kind) l10 c10 k10,
      b_Store_set_kind := (fun_mk (st := s_Store_set_kind) l10 c10 k10).binds (fun _ _ _ _ _ _ us hl => match us, hl with | [_, _, _], _ => rfl),
      me_Store_get := ⟨a11, i11, k11⟩,
      k_Store_get := k11,
      F_Store_get := fun_mk (st := s_Store_get) l11 c11 k11,
      b_Store_get := (fun_mk (st := s_Store_get) l11 c11 k11).binds (fun _ _ _ _ _ _ us hl => match us, hl with | [_, _, _], _ => rfl),
      me_Store_put := ⟨a12, i12, k12⟩,
      k_Store_put := k12,
      F_Store_put := fun_mk (st := s_Store_put) l12 c12 k12,
      b_Store_put := (fun_mk (st := s_Store_put) l12 c12 k12).binds (fun _ _ _ _ _ _ us hl => match us, hl with | [_, _, _, _], _ => rfl),
      me_Store_slots := ⟨a13, i13, k13⟩,
      k_Store_slots := k13,
      F_Store_slots := fun_mk (st := s_Store_slots) l13 c13 k13,
      b_Store_slots := (fun_mk (st := s_Store_slots) l13 c13 k13).binds (fun _ _ _ _ _ _ us hl => match us, hl with | [_, _], _ => rfl),
      me_Store_drop := ⟨a14, i14, k14⟩,
      k_Store_drop := k14,
      F_Store_drop := fun_mk (st := s_Store_drop) l14 c14 k14,
      b_Store_drop := (fun_mk (st := s_Store_drop) l14 c14 k14).binds (fun _ _ _ _ _ _ us hl => match us, hl with | [_, _], _ => rfl),
      me_Store_close_up := ⟨a15, i15, k15⟩,
      k_Store_close_up := k15,
      F_Store_close_up := fun_mk (st := s_Store_close_up) l15 c15 k15,
      b_Store_close_up := (fun_mk (st := s_Store_close_up) l15 c15 k15).binds (fun _ _ _ _ _ _ us hl => match us, hl with | [_], _ => rfl),
      me_Store_snapshot := ⟨a16, i16, k16⟩,
      k_Store_snapshot := k16,
      F_Store_snapshot := fun_mk (st := s_Store_snapshot) l16 c16 k16,
      b_Store_snapshot := (fun_mk (st := s_Store_snapshot) l16 c16 k16).binds (fun _ _ _ _ _ _ us hl => match us, hl with | [_], _ => rfl),
      me_Store_restore := ⟨a17, i17, k17⟩,
      k_Store_restore := k17,
      F_Store_restore := fun_mk (st := s_Store_restore) l17 c17 k17,
      b_Store_restore := (fun_mk (st := s_Store_restore) l17 c17 k17).binds (fun _ _ _ _ _ _ us hl => match us, hl with | [_, _], _ => rfl),
      me_Store_exchange := ⟨a18, i18, k18⟩,
      k_Store_exchange := k18,
      F_Store_exchange := fun_mk (st := s_Store_exchange) l18 c18 k18,
      b_Store_exchange := (fun_mk (st := s_Store_exchange) l18 c18 k18).binds (fun _ _ _ _ _ _ us hl => match us, hl with | [_, _, _], _ => rfl),
      g__law_number := PySem.W.mg_of X G a19,
      k__law_number := k19,
      F__law_number := fun_mk (st := s__law_number) l19 c19 k19,
      b__law_number := (fun_mk (st := s__law_number) l19 c19 k19).binds (fun _ _ _ _ _ _ us hl => match us, hl with | [_, _], _ => rfl),
      g__law_deeds := PySem.W.mg_of X G a20,
      k__law_deeds := k20,
      F__law_deeds := fun_mk (st := s__law_deeds) l20 c20 k20,
      b__law_deeds := (fun_mk (st := s__law_deeds) l20 c20 k20).binds (fun _ _ _ _ _ _ us hl => match us, hl with | [_, _], _ => rfl),
      g__law_word := PySem.W.mg_of X G a21,
      k__law_word := k21,
      F__law_word := fun_mk (st := s__law_word) l21 c21 k21,
      b__law_word := (fun_mk (st := s__law_word) l21 c21 k21).binds (fun _ _ _ _ _ _ us hl => match us, hl with | [_], _ => rfl),
      g__law_is := PySem.W.mg_of X G a22,
      k__law_is := k22,
      F__law_is := fun_mk (st := s__law_is) l22 c22 k22,
      b__law_is := (fun_mk (st := s__law_is) l22 c22 k22).binds (fun _ _ _ _ _ _ us hl => match us, hl with | [_, _], _ => rfl),
      g__law_same := PySem.W.mg_of X G a23,
      k__law_same := k23,
      F__law_same := fun_mk (st := s__law_same) l23 c23 k23,
      b__law_same := (fun_mk (st := s__law_same) l23 c23 k23).binds (fun _ _ _ _ _ _ us hl => match us, hl with | [_, _], _ => rfl),
      g__law_flat := PySem.W.mg_of X G a24,
      k__law_flat := k24,
      F__law_flat := fun_mk (st := s__law_flat) l24 c24 k24,
      b__law_flat := (fun_mk (st := s__law_flat) l24 c24 k24).binds (fun _ _ _ _ _ _ us hl => match us, hl with | [_], _ => rfl),
      g__law_living := PySem.W.mg_of X G a25,
      k__law_living := k25,
      F__law_living := fun_mk (st := s__law_living) l25 c25 k25,
      b__law_living := (fun_mk (st := s__law_living) l25 c25 k25).binds (fun _ _ _ _ _ _ us hl => match us, hl with | [_], _ => rfl),
      g__law_free := PySem.W.mg_of X G a26,
      k__law_free := k26,
      F__law_free := fun_mk (st := s__law_free) l26 c26 k26,
      b__law_free := (fun_mk (st := s__law_free) l26 c26 k26).binds (fun _ _ _ _ _ _ us hl => match us, hl with | [_], _ => rfl),
      g__law_copy := PySem.W.mg_of X G a27,
      k__law_copy := k27,
      F__law_copy := fun_mk (st := s__law_copy) l27 c27 k27,
      b__law_copy := (fun_mk (st := s__law_copy) l27 c27 k27).binds (fun _ _ _ _ _ _ us hl => match us, hl with | [_], _ => rfl),
      g__law_allocated := PySem.W.mg_of X G a28,
      k__law_allocated := k28,
      F__law_allocated := fun_mk (st := s__law_allocated) l28 c28 k28,
      b__law_allocated := (fun_mk (st := s__law_allocated) l28 c28 k28).binds (fun _ _ _ _ _ _ us hl => match us, hl with | [_, _, _, _, _], _ => rfl),
      g__law_changed := PySem.W.mg_of X G a29,
      k__law_changed := k29,
      F__law_changed := fun_mk (st := s__law_changed) l29 c29 k29,
      b__law_changed := (fun_mk (st := s__law_changed) l29 c29 k29).binds (fun _ _ _ _ _ _ us hl => match us, hl with | [_, _, _, _, _], _ => rfl),
      g__law_agrees := PySem.W.mg_of X G a30,
      k__law_agrees := k30,
      F__law_agrees := fun_mk (st := s__law_agrees) l30 c30 k30,
      b__law_agrees := (fun_mk (st := s__law_agrees) l30 c30 k30).binds (fun _ _ _ _ _ _ us hl => match us, hl with | [_, _, _, _], _ => rfl),
      g__law_deed := PySem.W.mg_of X G a31,
      k__law_deed := k31,
      F__law_deed := fun_mk (st := s__law_deed) l31 c31 k31,
      b__law_deed := (fun_mk (st := s__law_deed) l31 c31 k31).binds (fun _ _ _ _ _ _ us hl => match us, hl with | [_, _, _, _, _], _ => rfl),
      g_law := PySem.W.mg_of X G a32,
      k_law := k32,
      F_law := fun_mk (st := s_law) l32 c32 k32,
      b_law := (fun_mk (st := s_law) l32 c32 k32).binds (fun _ _ _ _ _ _ us hl => match us, hl with | [_], _ => rfl),
      c_NIL := PySem.W.mg_of X G q_NIL,
      c_HEADER := PySem.W.mg_of X G q_HEADER,
      h_heappop := PySem.W.mg_of X G h_heappop,
      h_heappush := PySem.W.mg_of X G h_heappush,
      z_ValueError := PySem.W.mg_none_of X G z_ValueError,
      z_bool := PySem.W.mg_none_of X G z_bool,
      z_int := PySem.W.mg_none_of X G z_int,
      z_isinstance := PySem.W.mg_none_of X G z_isinstance,
      z_len := PySem.W.mg_none_of X G z_len,
      z_list := PySem.W.mg_none_of X G z_list,
      z_range := PySem.W.mg_none_of X G z_range,
      z_sorted := PySem.W.mg_none_of X G z_sorted }
  exact ⟨_, fun s v => .of_eq rfl, fun base _ _ => ok_law T⟩
theorem walk {l : PySem.W.OpenLaw} {q : Program} {loose : List Str} {XP : (Str → Option Value) → Heap → Prop} {YP : World → Heap → Prop} {d : DefRec} {K : Params → PySem.W.Frag} (hn : l.most = some 63) (hdf : d.params.defaults = [])
    (hY : ∀ (w : World) (h : Heap), YP w h → (K w.params).In h)
    (F : ∀ (w : World) (mg : Str → Option Value) (fa : Addr) (h : Heap), (K w.params).In h → h.Ns mainGlobals mg → mg d.name = some (.ref fa) →
      ∃ fd : FuncData, (∀ (s : Shared) (u : Value), BindsTo s fd ⟨[u], []⟩ [("script", u)]) ∧ ∀ base : Heap, (K w.params).In base → base.Ns mainGlobals mg → FnOk l.prog w (K w.params) mg base CX0 7 fa fd ["script"] (sp_law (K w.params))) :
    PySem.W.WalkO q loose XP YP l.row.toRowW d [] (fun f vs => PySem.call f vs) :=
  L2.walk_of (n := 63) (k := 7) (x := "script") (CX := fun _ => CX0) (sp := fun w => sp_law (K w.params)) hn (by decide) hdf ⟨rfl, by decide, by decide⟩ hY F (fun _ _ a ns hl _ hS => ⟨a, ns, rfl, hS, hl, fun _ => rfl⟩) fun _ _ _ _ _ z => z

end My
open PySem PySem.W PyProof.Rows
set_option maxRecDepth 100000 in
set_option maxHeartbeats 0 in
theorem PySem.Challenge.cw_saggar_k02_store_is_a_list_holds : PySem.Challenge.rw_saggar_k02_store_is_a_list.Holds := by
  w_on; o_law; k_head; (case hw => w_witness2)
  k_fill
  refine My.walk (l := PySem.Challenge.rw_saggar_k02_store_is_a_list) rfl rfl (fun w h Y => PySem.W.kIn_of Y) ?F
  case F =>
    intro w mg fa h KX G hmg
    refine' My.all_mk KX G hmg ?m_SaggarError ?m_NoRoom ?m_NoNumber ?m_Store ?xl_NoRoom ?sa_NoRoom ?ga_NoRoom ?gg_NoRoom ?ic_NoRoom ?ti_NoRoom ?kc_NoRoom ?ec_NoRoom ?tc_NoRoom ?hc_NoRoom ?ha_NoRoom ?hn_NoRoom ?ht_NoRoom ?hm_NoRoom ?no_NoRoom_need ?ex_NoRoom_NoNumber ?ex_NoRoom_SaggarError ?kit_NoRoom_NoNumber ?kit_NoRoom_NoRoom ?xl_NoNumber ?sa_NoNumber ?ga_NoNumber ?gg_NoNumber ?ic_NoNumber ?ti_NoNumber ?kc_NoNumber ?ec_NoNumber ?tc_NoNumber ?hc_NoNumber ?ha_NoNumber ?hn_NoNumber ?ht_NoNumber ?hm_NoNumber ?no_NoNumber_limit ?ex_NoNumber_NoNumber ?ex_NoNumber_SaggarError ?kit_NoNumber_NoNumber ?kit_NoNumber_NoRoom ?pg_Store ?hd_Store ?po_Store ?sa_Store ?mi_Store ?kc_Store ?no_Store_room ?no_Store_entries ?no_Store_words ?no_Store__places ?no_Store__free ?no_Store__fresh ?l0 ?c0 ?k0 ?l1 ?c1 ?k1 ?a2 ?i2 ?l2 ?c2 ?k2 ?a3 ?i3 ?l3 ?c3 ?k3 ?a4 ?i4 ?l4 ?c4 ?k4 ?a5 ?i5 ?l5 ?c5 ?k5 ?a6 ?i6 ?l6 ?c6 ?k6 ?a7 ?i7 ?l7 ?c7 ?k7 ?a8 ?i8 ?l8 ?c8 ?k8 ?a9 ?i9 ?l9 ?c9 ?k9 ?a10 ?i10 ?l10 ?c10 ?k10 ?a11 ?i11 ?l11 ?c11 ?k11 ?a12 ?i12 ?l12 ?c12 ?k12 ?a13 ?i13 ?l13 ?c13 ?k13 ?a14 ?i14 ?l14 ?c14 ?k14 ?a15 ?i15 ?l15 ?c15 ?k15 ?a16 ?i16 ?l16 ?c16 ?k16 ?a17 ?i17 ?l17 ?c17 ?k17 ?a18 ?i18 ?l18 ?c18 ?k18 ?a19 ?l19 ?c19 ?k19 ?a20 ?l20 ?c20 ?k20 ?a21 ?l21 ?c21 ?k21 ?a22 ?l22 ?c22 ?k22 ?a23 ?l23 ?c23 ?k23 ?a24 ?l24 ?c24 ?k24 ?a25 ?l25 ?c25 ?k25 ?a26 ?l26 ?c26 ?k26 ?a27 ?l27 ?c27 ?k27 ?a28 ?l28 ?c28 ?k28 ?a29 ?l29 ?c29 ?k29 ?a30 ?l30 ?c30 ?k30 ?a31 ?l31 ?c31 ?k31 ?a32 ?l32 ?c32 ?k32 ?q_NIL ?q_HEADER ?h_heappop ?h_heappush ?z_ValueError ?z_bool ?z_int ?z_isinstance ?z_len ?z_list ?z_range ?z_sorted
    (case m_SaggarError => first | k_is | kit_is | kts_exm)
    (case m_NoRoom => first | k_is | kit_is | kts_exm)
    (case m_NoNumber => first | k_is | kit_is | kts_exm)
    (case m_Store => first | k_is | kit_is | kts_exm)
    (case xl_NoRoom => first | k_is | kit_is | kts_exm)
    (case sa_NoRoom => first | k_is | kit_is | kts_exm)
    (case ga_NoRoom => first | k_is | kit_is | kts_exm)
    (case gg_NoRoom => first | k_is | kit_is | kts_exm)
    (case ic_NoRoom => first | k_is | kit_is | kts_exm)
    (case ti_NoRoom => first | k_is | kit_is | kts_exm)
    (case kc_NoRoom => first | k_is | kit_is | kts_exm)
    (case ec_NoRoom => first | k_is | kit_is | kts_exm)
    (case tc_NoRoom => first | k_is | kit_is | kts_exm)
    (case hc_NoRoom => first | k_is | kit_is | kts_exm)
    (case ha_NoRoom => first | k_is | kit_is | kts_exm)
    (case hn_NoRoom => first | k_is | kit_is | kts_exm)
    (case ht_NoRoom => first | k_is | kit_is | kts_exm)
    (case hm_NoRoom => first | k_is | kit_is | kts_exm)
    (case no_NoRoom_need => first | k_is | kit_is | kts_exm)
    (case ex_NoRoom_NoNumber => first | k_is | kit_is | kts_exm)
    (case ex_NoRoom_SaggarError => first | k_is | kit_is | kts_exm)
    (case kit_NoRoom_NoNumber => first | k_is | kit_is | kts_exm)
    (case kit_NoRoom_NoRoom => first | k_is | kit_is | kts_exm)
    (case xl_NoNumber => first | k_is | kit_is | kts_exm)
    (case sa_NoNumber => first | k_is | kit_is | kts_exm)
    (case ga_NoNumber => first | k_is | kit_is | kts_exm)
    (case gg_NoNumber => first | k_is | kit_is | kts_exm)
    (case ic_NoNumber => first | k_is | kit_is | kts_exm)
    (case ti_NoNumber => first | k_is | kit_is | kts_exm)
    (case kc_NoNumber => first | k_is | kit_is | kts_exm)
    (case ec_NoNumber => first | k_is | kit_is | kts_exm)
    (case tc_NoNumber => first | k_is | kit_is | kts_exm)
    (case hc_NoNumber => first | k_is | kit_is | kts_exm)
    (case ha_NoNumber => first | k_is | kit_is | kts_exm)
    (case hn_NoNumber => first | k_is | kit_is | kts_exm)
    (case ht_NoNumber => first | k_is | kit_is | kts_exm)
    (case hm_NoNumber => first | k_is | kit_is | kts_exm)
    (case no_NoNumber_limit => first | k_is | kit_is | kts_exm)
    (case ex_NoNumber_NoNumber => first | k_is | kit_is | kts_exm)
    (case ex_NoNumber_SaggarError => first | k_is | kit_is | kts_exm)
    (case kit_NoNumber_NoNumber => first | k_is | kit_is | kts_exm)
    (case kit_NoNumber_NoRoom => first | k_is | kit_is | kts_exm)
    (case pg_Store => first | k_is | kit_is | kts_exm)
    (case hd_Store => first | k_is | kit_is | kts_exm)
    (case po_Store => first | k_is | kit_is | kts_exm)
    (case sa_Store => first | k_is | kit_is | kts_exm)
    (case mi_Store => first | k_is | kit_is | kts_exm)
    (case kc_Store => first | k_is | kit_is | kts_exm)
    (case no_Store_room => first | k_is | kit_is | kts_exm)
    (case no_Store_entries => first | k_is | kit_is | kts_exm)
    (case no_Store_words => first | k_is | kit_is | kts_exm)
    (case no_Store__places => first | k_is | kit_is | kts_exm)
    (case no_Store__free => first | k_is | kit_is | kts_exm)
    (case no_Store__fresh => first | k_is | kit_is | kts_exm)
    (case l0 => first | k_is | kit_is | kts_exm)
    (case c0 => first | k_is | kit_is | kts_exm)
    (case k0 => first | k_is | kit_is | kts_exm)
    (case l1 => first | k_is | kit_is | kts_exm)
    (case c1 => first | k_is | kit_is | kts_exm)
    (case k1 => first | k_is | kit_is | kts_exm)
    (case a2 => first | k_is | kit_is | kts_exm)
    (case i2 => first | k_is | kit_is | kts_exm)
    (case l2 => first | k_is | kit_is | kts_exm)
    (case c2 => first | k_is | kit_is | kts_exm)
    (case k2 => first | k_is | kit_is | kts_exm)
    (case a3 => first | k_is | kit_is | kts_exm)
    (case i3 => first | k_is | kit_is | kts_exm)
    (case l3 => first | k_is | kit_is | kts_exm)
    (case c3 => first | k_is | kit_is | kts_exm)
    (case k3 => first | k_is | kit_is | kts_exm)
    (case a4 => first | k_is | kit_is | kts_exm)
    (case i4 => first | k_is | kit_is | kts_exm)
    (case l4 => first | k_is | kit_is | kts_exm)
    (case c4 => first | k_is | kit_is | kts_exm)
    (case k4 => first | k_is | kit_is | kts_exm)
    (case a5 => first | k_is | kit_is | kts_exm)
    (case i5 => first | k_is | kit_is | kts_exm)
    (case l5 => first | k_is | kit_is | kts_exm)
    (case c5 => first | k_is | kit_is | kts_exm)
    (case k5 => first | k_is | kit_is | kts_exm)
    (case a6 => first | k_is | kit_is | kts_exm)
    (case i6 => first | k_is | kit_is | kts_exm)
    (case l6 => first | k_is | kit_is | kts_exm)
    (case c6 => first | k_is | kit_is | kts_exm)
    (case k6 => first | k_is | kit_is | kts_exm)
    (case a7 => first | k_is | kit_is | kts_exm)
    (case i7 => first | k_is | kit_is | kts_exm)
    (case l7 => first | k_is | kit_is | kts_exm)
    (case c7 => first | k_is | kit_is | kts_exm)
    (case k7 => first | k_is | kit_is | kts_exm)
    (case a8 => first | k_is | kit_is | kts_exm)
    (case i8 => first | k_is | kit_is | kts_exm)
    (case l8 => first | k_is | kit_is | kts_exm)
    (case c8 => first | k_is | kit_is | kts_exm)
    (case k8 => first | k_is | kit_is | kts_exm)
    (case a9 => first | k_is | kit_is | kts_exm)
    (case i9 => first | k_is | kit_is | kts_exm)
    (case l9 => first | k_is | kit_is | kts_exm)
    (case c9 => first | k_is | kit_is | kts_exm)
    (case k9 => first | k_is | kit_is | kts_exm)
    (case a10 => first | k_is | kit_is | kts_exm)
    (case i10 => first | k_is | kit_is | kts_exm)
    (case l10 => first | k_is | kit_is | kts_exm)
    (case c10 => first | k_is | kit_is | kts_exm)
    (case k10 => first | k_is | kit_is | kts_exm)
    (case a11 => first | k_is | kit_is | kts_exm)
    (case i11 => first | k_is | kit_is | kts_exm)
    (case l11 => first | k_is | kit_is | kts_exm)
    (case c11 => first | k_is | kit_is | kts_exm)
    (case k11 => first | k_is | kit_is | kts_exm)
    (case a12 => first | k_is | kit_is | kts_exm)
    (case i12 => first | k_is | kit_is | kts_exm)
    (case l12 => first | k_is | kit_is | kts_exm)
    (case c12 => first | k_is | kit_is | kts_exm)
    (case k12 => first | k_is | kit_is | kts_exm)
    (case a13 => first | k_is | kit_is | kts_exm)
    (case i13 => first | k_is | kit_is | kts_exm)
    (case l13 => first | k_is | kit_is | kts_exm)
    (case c13 => first | k_is | kit_is | kts_exm)
    (case k13 => first | k_is | kit_is | kts_exm)
    (case a14 => first | k_is | kit_is | kts_exm)
    (case i14 => first | k_is | kit_is | kts_exm)
    (case l14 => first | k_is | kit_is | kts_exm)
    (case c14 => first | k_is | kit_is | kts_exm)
    (case k14 => first | k_is | kit_is | kts_exm)
    (case a15 => first | k_is | kit_is | kts_exm)
    (case i15 => first | k_is | kit_is | kts_exm)
    (case l15 => first | k_is | kit_is | kts_exm)
    (case c15 => first | k_is | kit_is | kts_exm)
    (case k15 => first | k_is | kit_is | kts_exm)
    (case a16 => first | k_is | kit_is | kts_exm)
    (case i16 => first | k_is | kit_is | kts_exm)
    (case l16 => first | k_is | kit_is | kts_exm)
    (case c16 => first | k_is | kit_is | kts_exm)
    (case k16 => first | k_is | kit_is | kts_exm)
    (case a17 => first | k_is | kit_is | kts_exm)
    (case i17 => first | k_is | kit_is | kts_exm)
    (case l17 => first | k_is | kit_is | kts_exm)
    (case c17 => first | k_is | kit_is | kts_exm)
    (case k17 => first | k_is | kit_is | kts_exm)
    (case a18 => first | k_is | kit_is | kts_exm)
    (case i18 => first | k_is | kit_is | kts_exm)
    (case l18 => first | k_is | kit_is | kts_exm)
    (case c18 => first | k_is | kit_is | kts_exm)
    (case k18 => first | k_is | kit_is | kts_exm)
    (case a19 => first | k_is | kit_is | kts_exm)
    (case l19 => first | k_is | kit_is | kts_exm)
    (case c19 => first | k_is | kit_is | kts_exm)
    (case k19 => first | k_is | kit_is | kts_exm)
    (case a20 => first | k_is | kit_is | kts_exm)
    (case l20 => first | k_is | kit_is | kts_exm)
    (case c20 => first | k_is | kit_is | kts_exm)
    (case k20 => first | k_is | kit_is | kts_exm)
    (case a21 => first | k_is | kit_is | kts_exm)
    (case l21 => first | k_is | kit_is | kts_exm)
    (case c21 => first | k_is | kit_is | kts_exm)
    (case k21 => first | k_is | kit_is | kts_exm)
    (case a22 => first | k_is | kit_is | kts_exm)
    (case l22 => first | k_is | kit_is | kts_exm)
    (case c22 => first | k_is | kit_is | kts_exm)
    (case k22 => first | k_is | kit_is | kts_exm)
    (case a23 => first | k_is | kit_is | kts_exm)
    (case l23 => first | k_is | kit_is | kts_exm)
    (case c23 => first | k_is | kit_is | kts_exm)
    (case k23 => first | k_is | kit_is | kts_exm)
    (case a24 => first | k_is | kit_is | kts_exm)
    (case l24 => first | k_is | kit_is | kts_exm)
    (case c24 => first | k_is | kit_is | kts_exm)
    (case k24 => first | k_is | kit_is | kts_exm)
    (case a25 => first | k_is | kit_is | kts_exm)
    (case l25 => first | k_is | kit_is | kts_exm)
    (case c25 => first | k_is | kit_is | kts_exm)
    (case k25 => first | k_is | kit_is | kts_exm)
    (case a26 => first | k_is | kit_is | kts_exm)
    (case l26 => first | k_is | kit_is | kts_exm)
    (case c26 => first | k_is | kit_is | kts_exm)
    (case k26 => first | k_is | kit_is | kts_exm)
    (case a27 => first | k_is | kit_is | kts_exm)
    (case l27 => first | k_is | kit_is | kts_exm)
    (case c27 => first | k_is | kit_is | kts_exm)
    (case k27 => first | k_is | kit_is | kts_exm)
    (case a28 => first | k_is | kit_is | kts_exm)
    (case l28 => first | k_is | kit_is | kts_exm)
    (case c28 => first | k_is | kit_is | kts_exm)
    (case k28 => first | k_is | kit_is | kts_exm)
    (case a29 => first | k_is | kit_is | kts_exm)
    (case l29 => first | k_is | kit_is | kts_exm)
    (case c29 => first | k_is | kit_is | kts_exm)
    (case k29 => first | k_is | kit_is | kts_exm)
    (case a30 => first | k_is | kit_is | kts_exm)
    (case l30 => first | k_is | kit_is | kts_exm)
    (case c30 => first | k_is | kit_is | kts_exm)
    (case k30 => first | k_is | kit_is | kts_exm)
    (case a31 => first | k_is | kit_is | kts_exm)
    (case l31 => first | k_is | kit_is | kts_exm)
    (case c31 => first | k_is | kit_is | kts_exm)
    (case k31 => first | k_is | kit_is | kts_exm)
    (case a32 => first | k_is | kit_is | kts_exm)
    (case l32 => first | k_is | kit_is | kts_exm)
    (case c32 => first | k_is | kit_is | kts_exm)
    (case k32 => first | k_is | kit_is | kts_exm)
    (case q_NIL => first | k_is | kit_is | kts_exm)
    (case q_HEADER => first | k_is | kit_is | kts_exm)
    (case h_heappop => first | k_is | kit_is | kts_exm)
    (case h_heappush => first | k_is | kit_is | kts_exm)
    (case z_ValueError => first | k_is | kit_is | kts_exm)
    (case z_bool => first | k_is | kit_is | kts_exm)
    (case z_int => first | k_is | kit_is | kts_exm)
    (case z_isinstance => first | k_is | kit_is | kts_exm)
    (case z_len => first | k_is | kit_is | kts_exm)
    (case z_list => first | k_is | kit_is | kts_exm)
    (case z_range => first | k_is | kit_is | kts_exm)
    (case z_sorted => first | k_is | kit_is | kts_exm)
#print axioms PySem.Challenge.cw_saggar_k02_store_is_a_list_holds
