import PyProof.Rows.All
import Wide.All
import OpenK.AllK
import Wide.FinOn
import HandS.ForMost
import HandS.ForExc
import HandS.IsInst
import HandS.TupLe
import HandS.Evl
import HandS.ExcInit
import HandS.ExcField
import KE.KExcIs
import HandS.ExcCtx
import HandS.HotCalls
import HandS.Defaults
import PyProof.StrOps2
import PySem.Challenge.RW_saggar_k01_symbols_keep_numbers
set_option Elab.async false
set_option linter.all false
set_option maxRecDepth 100000
set_option maxHeartbeats 4000000

namespace My
open PySem PySem.Spec PyProof.Rows L2
/-! ### the text by places -/
def top (i : Nat) : Stmt := PySem.Challenge.pw_saggar_k01_symbols_keep_numbers.main.body.getD i (.Pass ⟨0, 0, 0, 0⟩)
abbrev s_NoSymbol___init__ : Stmt := inClass (top 2) 0
abbrev s_Symbols___init__ : Stmt := inClass (top 5) 0
abbrev s_Symbols_count : Stmt := inClass (top 5) 1
abbrev s_Symbols_number : Stmt := inClass (top 5) 2
abbrev s_Symbols_knows : Stmt := inClass (top 5) 3
abbrev s_Symbols_text : Stmt := inClass (top 5) 4
abbrev s_Symbols_texts : Stmt := inClass (top 5) 5
abbrev s_Symbols_cut : Stmt := inClass (top 5) 6
abbrev s__law_number : Stmt := top 7
abbrev s__law_text : Stmt := top 8
abbrev s__law_is : Stmt := top 9
abbrev s__law_asked : Stmt := top 10
abbrev s__law_agrees : Stmt := top 11
abbrev s__law_deed : Stmt := top 12
abbrev s_law : Stmt := top 13
theorem sc_NoSymbol___init__ : FnScope ["self", "limit"] ["self", "limit"] (defScope s_NoSymbol___init__) := ⟨rfl, rfl, rfl, by decide +kernel, rfl, by decide +kernel, by decide +kernel⟩
theorem sc_Symbols___init__ : FnScope ["self", "most"] ["self", "most"] (defScope s_Symbols___init__) := ⟨rfl, rfl, rfl, by decide +kernel, rfl, by decide +kernel, by decide +kernel⟩
theorem sc_Symbols_count : FnScope ["self"] ["self"] (defScope s_Symbols_count) := ⟨rfl, rfl, rfl, by decide +kernel, rfl, by decide +kernel, by decide +kernel⟩
theorem sc_Symbols_number : FnScope ["self", "text"] ["self", "text"] (defScope s_Symbols_number) := ⟨rfl, rfl, rfl, by decide +kernel, rfl, by decide +kernel, by decide +kernel⟩
theorem sc_Symbols_knows : FnScope ["self", "text"] ["self", "text"] (defScope s_Symbols_knows) := ⟨rfl, rfl, rfl, by decide +kernel, rfl, by decide +kernel, by decide +kernel⟩
theorem sc_Symbols_text : FnScope ["self", "number"] ["self", "number"] (defScope s_Symbols_text) := ⟨rfl, rfl, rfl, by decide +kernel, rfl, by decide +kernel, by decide +kernel⟩
theorem sc_Symbols_texts : FnScope ["self"] ["self"] (defScope s_Symbols_texts) := ⟨rfl, rfl, rfl, by decide +kernel, rfl, by decide +kernel, by decide +kernel⟩
theorem sc_Symbols_cut : FnScope ["self", "count", "text"] ["self", "count"] (defScope s_Symbols_cut) := ⟨rfl, rfl, rfl, by decide +kernel, rfl, by decide +kernel, by decide +kernel⟩
theorem sc__law_number : FnScope ["cell", "k", "mixed"] ["cell", "k"] (defScope s__law_number) := ⟨rfl, rfl, rfl, by decide +kernel, rfl, by decide +kernel, by decide +kernel⟩
theorem sc__law_text : FnScope ["x", "chars", "size", "rest", "text", "k"] ["x"] (defScope s__law_text) := ⟨rfl, rfl, rfl, by decide +kernel, rfl, by decide +kernel, by decide +kernel⟩
theorem sc__law_is : FnScope ["actual", "due"] ["actual", "due"] (defScope s__law_is) := ⟨rfl, rfl, rfl, by decide +kernel, rfl, by decide +kernel, by decide +kernel⟩
theorem sc__law_asked : FnScope ["symbols", "texts", "most", "text", "due", "told", "e"] ["symbols", "texts", "most", "text"] (defScope s__law_asked) := ⟨rfl, rfl, rfl, by decide +kernel, rfl, by decide +kernel, by decide +kernel⟩
theorem sc__law_agrees : FnScope ["symbols", "texts", "told", "k"] ["symbols", "texts"] (defScope s__law_agrees) := ⟨rfl, rfl, rfl, by decide +kernel, rfl, by decide +kernel, by decide +kernel⟩
theorem sc__law_deed : FnScope ["symbols", "texts", "most", "x", "deed", "rest", "text", "count", "k"] ["symbols", "texts", "most", "x"] (defScope s__law_deed) := ⟨rfl, rfl, rfl, by decide +kernel, rfl, by decide +kernel, by decide +kernel⟩
theorem sc_law : FnScope ["script", "cells", "limit", "most", "symbols", "other", "texts", "k", "cell"] ["script"] (defScope s_law) := ⟨rfl, rfl, rfl, by decide +kernel, rfl, by decide +kernel, by decide +kernel⟩

/-! ### words for all laws -/
abbrev cl (x : Str) : List Nat := x.cps.toList
theorem str1 {a c : Nat} : ((⟨#[a]⟩ : Str) = ⟨#[c]⟩) = (a = c) := by
  apply propext
  constructor
  · intro h
    have h2 := congrArg (fun x : Str => x.cps.toList) h
    simpa using h2
  · intro h
    rw [h]
theorem len_cl (x : Str) : x.length = (cl x).length := by
  show x.cps.size = x.cps.toList.length
  simp
theorem cl_append (x y : Str) : cl (x ++ y) = cl x ++ cl y := by
  show (x.cps ++ y.cps).toList = _
  simp
theorem at_cl (x : Str) (n : Nat) : x.cps[n]? = (cl x)[n]? := by
  show x.cps[n]? = x.cps.toList[n]?
  simp
theorem cl_nil {x : Str} : x = "" ↔ cl x = [] := by
  constructor
  · intro h
    rw [h]
    rfl
  · intro h
    have e : x.cps = #[] := by
      have := congrArg List.toArray h
      simpa using this
    have : x = ⟨x.cps⟩ := rfl
    rw [this, e]
    rfl
theorem sc_ii {i j : Int} : scal (.int i) (.int j) = true := rfl
theorem sc_ss {x y : Str} : scal (.str x) (.str y) = true := rfl
theorem sc_bb {a b : Bool} : scal (.bl a) (.bl b) = true := rfl
theorem cx_K {CX : CXT} {P : Program} {w : World} {K : PySem.W.Frag} {mg : Str → Option Value} {base : Heap} {N : List Str} {qual : Str} {scope : Scope} {f : Addr} {cd : Value} {A : Around} {outer : List Env} {s : Shared} {H : Hp} {E : XK} : (cxOf CX P w K mg base N qual scope f cd A outer s H E).K = K := rfl
/-! ### rules told over a tracked list as it stands: H p is looked up -/
def lstAt (H : Hp) (p : Addr) (R : List V → Prop) : Prop := match H p with
  | some (.lst xs) => R xs
  | _ => False
theorem lstAt_of {H : Hp} {p : Addr} {xs : List V} {R : List V → Prop} (h : H p = some (.lst xs)) : lstAt H p R = R xs := by
  unfold lstAt
  rw [h]
theorem lstAt_get {H : Hp} {p : Addr} {R : List V → Prop} (h : lstAt H p R) : ∃ xs, H p = some (.lst xs) ∧ R xs := by
  unfold lstAt at h
  split at h
  · rename_i xs e
    exact ⟨xs, e, h⟩
  · exact h.elim
def setI (xs : List V) (i : Int) (v : V) : Option (List V) := (ixN xs.length i).map fun j => xs.set j v
def rIxM : R2 := fun x y H Q => ∃ p i, x = .ref p ∧ y = .int i ∧ lstAt H p fun xs => ∃ v, atI xs i = some v ∧ Q v H
def rSetM : V → V → V → Hp → (Hp → Prop) → Prop := fun o i v H Q => ∃ p k, o = .ref p ∧ i = .int k ∧ lstAt H p fun xs => ∃ ys, setI xs k v = some ys ∧ Q (upd H p (.lst ys))
def rLenM : List V → Hp → VK → Prop := fun vs H Q => ∃ p, vs = [.ref p] ∧ lstAt H p fun xs => Q (.int xs.length) H
theorem atI_0 {α : Type} {a : α} {l : List α} : atI (a :: l) 0 = some a := by simp [atI, ixN]
theorem atI_1 {α : Type} {a b : α} {l : List α} : atI (a :: b :: l) 1 = some b := by
  have : ixN (a :: b :: l).length 1 = some 1 := by
    unfold ixN
    rw [if_pos (by omega), if_pos (by simp only [List.length_cons]; omega)]
    rfl
  unfold atI
  rw [this]
  rfl
theorem atI_2 {α : Type} {a b c : α} {l : List α} : atI (a :: b :: c :: l) 2 = some c := by
  have : ixN (a :: b :: c :: l).length 2 = some 2 := by
    unfold ixN
    rw [if_pos (by omega), if_pos (by simp only [List.length_cons]; omega)]
    rfl
  unfold atI
  rw [this]
  rfl
theorem atI_3 {α : Type} {a b c d : α} {l : List α} : atI (a :: b :: c :: d :: l) 3 = some d := by
  have : ixN (a :: b :: c :: d :: l).length 3 = some 3 := by
    unfold ixN
    rw [if_pos (by omega), if_pos (by simp only [List.length_cons]; omega)]
    rfl
  unfold atI
  rw [this]
  rfl
theorem setI_0 {a v : V} {l : List V} : setI (a :: l) 0 v = some (v :: l) := by simp [setI, ixN]
theorem setI_1 {a b v : V} {l : List V} : setI (a :: b :: l) 1 v = some (a :: v :: l) := by
  have : ixN (a :: b :: l).length 1 = some 1 := by
    unfold ixN
    rw [if_pos (by omega), if_pos (by simp only [List.length_cons]; omega)]
    rfl
  unfold setI
  rw [this]
  rfl
theorem setI_2 {a b c v : V} {l : List V} : setI (a :: b :: c :: l) 2 v = some (a :: b :: v :: l) := by
  have : ixN (a :: b :: c :: l).length 2 = some 2 := by
    unfold ixN
    rw [if_pos (by omega), if_pos (by simp only [List.length_cons]; omega)]
    rfl
  unfold setI
  rw [this]
  rfl
theorem setI_3 {a b c d v : V} {l : List V} : setI (a :: b :: c :: d :: l) 3 v = some (a :: b :: c :: v :: l) := by
  have : ixN (a :: b :: c :: d :: l).length 3 = some 3 := by
    unfold ixN
    rw [if_pos (by omega), if_pos (by simp only [List.length_cons]; omega)]
    rfl
  unfold setI
  rw [this]
  rfl
/-- isinstance of a plain value and a built-in type -/
def isTy : V → String → Option Bool
  | .bl _, T => L2.kitB "bool" T
  | .int _, T => L2.kitB "int" T
  | .str _, T => L2.kitB "str" T
  | .non, T => L2.kitB "NoneType" T
  | _, _ => none
def rIsS : List V → Hp → VK → Prop := fun xs H Q => ∃ x T, xs = [x, .ty T] ∧ ∃ b, isTy x T = some b ∧ Q (.bl b) H
theorem isTy_bb {b : Bool} : isTy (.bl b) "bool" = some true := by
  show L2.kitB "bool" "bool" = some true
  decide +kernel
theorem isTy_bi {b : Bool} : isTy (.bl b) "int" = some true := by
  show L2.kitB "bool" "int" = some true
  decide +kernel
theorem isTy_ib {i : Int} : isTy (.int i) "bool" = some false := by
  show L2.kitB "int" "bool" = some false
  decide +kernel
theorem isTy_ii {i : Int} : isTy (.int i) "int" = some true := by
  show L2.kitB "int" "int" = some true
  decide +kernel
theorem isTy_ss {x : Str} : isTy (.str x) "str" = some true := by
  show L2.kitB "str" "str" = some true
  decide +kernel
theorem isTy_nb : isTy .non "bool" = some false := by
  show L2.kitB "NoneType" "bool" = some false
  decide +kernel
theorem isTy_ni : isTy .non "int" = some false := by
  show L2.kitB "NoneType" "int" = some false
  decide +kernel
section
variable {X : Cx}
theorem call_isS : CallR X (.builtin "isinstance") rIsS := by
  intro pins s σ H xs us Q I r h
  obtain ⟨x, T, rfl, b, e, q⟩ := h
  have ty : ∃ t, TyX X.K H x (.type t) ∧ L2.kitB t T = some b := by
    cases x with
    | bl k => exact ⟨_, .base (.bl k), e⟩
    | int k => exact ⟨_, .base (.int k), e⟩
    | str k => exact ⟨_, .base (.str k), e⟩
    | non => exact ⟨_, .base .non, e⟩
    | byt k => cases e
    | flt k => cases e
    | ref k => cases e
    | ty k => cases e
  obtain ⟨t, ht, hk⟩ := ty
  exact call_isi pins s σ H _ us Q I r ⟨x, .ty T, .type t, .type T, b, rfl, .ty T, ht, kit_ty hk, q⟩
theorem ix_lstM : IxR X rIxM := by
  intro value slice pins s σ H x y v u Q I rx ry h hs
  obtain ⟨p, i, e1, e2, h⟩ := h
  obtain ⟨xs, hp, z, hz, q⟩ := lstAt_get h
  exact ix_list value slice pins s σ H x y v u Q I rx ry ⟨p, xs, i, z, e1, e2, .inl (.inl hp), hz, q⟩ hs
theorem set_lstM : PSet X rSetM := by
  intro pins s σ H o i v ov iv u Q I ro ri rv h
  obtain ⟨p, k, e1, e2, h⟩ := h
  obtain ⟨xs, hp, ys, hy, q⟩ := lstAt_get h
  unfold setI at hy
  cases hj : ixN xs.length k with
  | none =>
    rw [hj] at hy
    cases hy
  | some j =>
    rw [hj] at hy
    have hy2 : xs.set j v = ys := Option.some.inj hy
    subst hy2
    exact set_list pins s σ H o i v ov iv u Q I ro ri rv ⟨p, xs, k, j, e1, e2, hp, hj, q⟩
theorem call_lenM : CallR X (.builtin "len") rLenM := by
  intro pins s σ H xs us Q I r h
  obtain ⟨p, e, h⟩ := h
  obtain ⟨ys, hp, q⟩ := lstAt_get h
  exact call_len_seq pins s σ H xs us Q I r ⟨p, ys, e, .inl (.inl (.inl hp)), q⟩
/-- int(n) of an int -/
theorem call_intI : CallR X (.type "int") (fun xs H Q => ∃ i, xs = [.int i] ∧ Q (.int i) H) := fun pins s σ H xs us Q I r h => call_int1 pins s σ H xs us Q I r (Or.inl h)
end
theorem same_new {H : Hp} {p : Addr} {o : HO} (h : H p = none) : Same H (upd H p o) := fun b x e => by
  rw [upd_ne (ne_of_none e h)]
  exact e
/-! ### loops by an invariant, told over the loop's own reading -/
theorem for_rng {ta : TA} {g : TG} {tb : TS} {D : Ends} {σ : L2.St} {H : Hp} (j : Int) (hta : ∀ R : List V → Hp → Prop, R [.int j] H → ta σ H R) (h0 : 0 ≤ j) (h1 : j < 2 ^ 62) (Pv : Nat → L2.St → Hp → Prop) (hp : Pv 0 σ H)
    (hs : ∀ (i : Nat) σ H, (i : Int) < j → Pv i σ H → g (.int (i : Int)) σ H fun σ2 H2 => tb { D with nx := Pv (i + 1), ct := Pv (i + 1), bk := D.nx } σ2 H2) (hd : ∀ σ H, Pv j.toNat σ H → D.nx σ H) : tFor (iRng1 ta) g tb D σ H := by
  refine hta _ ⟨j, rfl, by omega, h1, for_range (lo := 0) (n := j.toNat) Pv hp (fun i σ H hi pv => ?_) hd⟩
  rw [Int.zero_add]
  exact hs i σ H (by omega) pv
theorem for_rng2 {ta : TA} {g : TG} {tb : TS} {D : Ends} {σ : L2.St} {H : Hp} (l j : Int) (hta : ∀ R : List V → Hp → Prop, R [.int l, .int j] H → ta σ H R) (h0 : -(2 ^ 62) ≤ l) (h2 : l < 2 ^ 62) (h3 : -(2 ^ 62) ≤ j) (h1 : j < 2 ^ 62) (Pv : Nat → L2.St → Hp → Prop) (hp : Pv 0 σ H)
    (hs : ∀ (i : Nat) σ H, l + (i : Int) < j → Pv i σ H → g (.int (l + (i : Int))) σ H fun σ2 H2 => tb { D with nx := Pv (i + 1), ct := Pv (i + 1), bk := D.nx } σ2 H2) (hd : ∀ σ H, Pv (j - l).toNat σ H → D.nx σ H) : tFor (iRng2 ta) g tb D σ H :=
  hta _ ⟨l, j, rfl, ⟨h0, h2, h3, h1⟩, for_range (lo := l) (n := (j - l).toNat) Pv hp (fun i σ H hi pv => hs i σ H (by omega) pv) hd⟩
theorem for_lst {K : PySem.W.Frag} {tl : TE} {g : TG} {tb : TS} {D : Ends} {σ : L2.St} {H H0 : Hp} {a : Addr} (xs : List V) (htl : ∀ R : V → Hp → Prop, R (.ref a) H0 → tl σ H R) (Pv : Nat → L2.St → Hp → Prop) (hp : Pv 0 σ H0) (hl : ∀ i σ H, i ≤ xs.length → Pv i σ H → SqL K H a xs)
    (hs : ∀ i x σ H, xs[i]? = some x → Pv i σ H → g x σ H fun σ2 H2 => tb { D with nx := Pv (i + 1), ct := Pv (i + 1), bk := D.nx } σ2 H2) (hd : ∀ σ H, Pv xs.length σ H → D.nx σ H) : tFor (iList K tl) g tb D σ H :=
  htl _ ⟨a, rfl, ⟨xs, hl 0 σ H0 (Nat.zero_le _) hp⟩, L2.for_list (K := K) (a := a) (xs := xs) Pv hp hl hs hd⟩
/-- [f(x) for x in a list of ints], the element an int that is reckoned from x alone -/
theorem lc_ints {K : PySem.W.Frag} {tl te : TE} {c : Nat} {σ : L2.St} {H : Hp} {Q : VK} {a : Addr} {ns : List Int} (f : Int → Int) (htl : ∀ R : V → Hp → Prop, R (.ref a) H → tl σ H R) (ha : SqL K H a (ns.map V.int)) (hc : c < σ.length) (hn : ns.length ≤ 100000)
    (hte : ∀ (σ' : L2.St) (H' : Hp) (z : Int) (R : VK), σ'[c]? = some (some (.int z)) → R (.int (f z)) H' → te σ' H' R) (k : ∀ D, H D = none → Q (.ref D) (upd H D (.lst (ns.map fun z => .int (f z))))) : tLc (iList K tl) (gName c) tYes te [c] σ H Q := by
  refine htl _ ⟨a, rfl, ⟨_, ha⟩, fun D hD => lc_list (K := K) (a := a) (xs := ns.map V.int) (fun i H' => H' = upd H D (.lst ((ns.take i).map fun z => .int (f z)))) (by rw [List.take_zero]; rfl) (fun i H' _ e => ?_) ?_ ?_⟩
  · rw [e]
    exact (same_new hD).seq ha
  · rintro i x H' hx rfl
    rw [List.getElem?_map] at hx
    cases hz : ns[i]? with
    | none =>
      rw [hz] at hx
      cases hx
    | some z =>
      rw [hz] at hx
      have ex : V.int z = x := Option.some.inj hx
      subst ex
      have hlt : i < ns.length := (List.getElem?_eq_some_iff.mp hz).1
      refine ⟨?_, ?_⟩
      · show List.set (List.set (List.set σ c none) c _) c none = List.set σ c none
        rw [List.set_set, List.set_set]
      · simp only [tYes, if_true]
        refine hte _ _ z _ ?_ ⟨_, upd_same, ?_, ?_⟩
        · show (List.set (List.set σ c none) c _)[c]? = _
          rw [List.getElem?_set_self (by rw [List.length_set]; exact hc)]
        · rw [List.length_map, List.length_take]
          exact Nat.lt_of_le_of_lt (Nat.min_le_left _ _) (Nat.lt_of_lt_of_le (by omega : i < 100000) (by decide))
        · rw [upd_upd, List.take_add_one, hz, List.map_append]
          rfl
  · rintro H' rfl
    rw [List.length_map, List.take_length]
    exact k D hD

/-! ### dicts, told over a tracked dict as it stands -/
def dcAt (H : Hp) (p : Addr) (R : List (Key × V) → Prop) : Prop := match H p with
  | some (.dK kvs) => R kvs
  | _ => False
theorem dcAt_get {H : Hp} {p : Addr} {R : List (Key × V) → Prop} (h : dcAt H p R) : ∃ kvs, H p = some (.dK kvs) ∧ R kvs := by
  unfold dcAt at h
  split at h
  · rename_i kvs e
    exact ⟨kvs, e, h⟩
  · exact h.elim
def keyOf : V → Option Key
  | .int i => some (Sum.inl i)
  | .str x => some (Sum.inr x)
  | _ => none
theorem keyOf_kV {y : V} {k : Key} (h : keyOf y = some k) : y = kV k := by
  cases y <;> first | (cases h; rfl) | cases h
theorem keyOf_int {i : Int} : keyOf (.int i) = some (Sum.inl i) := rfl
theorem keyOf_str {x : Str} : keyOf (.str x) = some (Sum.inr x) := rfl
theorem kV_int {i : Int} {k : Key} : (V.int i = kV k) = (Sum.inl i = k) := by
  apply propext
  cases k with
  | inl j => exact ⟨(fun h => by cases h; rfl), (fun h => by cases h; rfl)⟩
  | inr x => exact ⟨(fun h => by cases h), (fun h => by cases h)⟩
theorem kV_str {x : Str} {k : Key} : (V.str x = kV k) = (Sum.inr x = k) := by
  apply propext
  cases k with
  | inl j => exact ⟨(fun h => by cases h), (fun h => by cases h)⟩
  | inr y => exact ⟨(fun h => by cases h; rfl), (fun h => by cases h; rfl)⟩
def rDInM (neg : Bool) : R2 := fun y x H Q => ∃ a, x = .ref a ∧ ∃ k, keyOf y = some k ∧ dcAt H a fun kvs => Q (.bl (if neg then !(valV kvs k).isSome else (valV kvs k).isSome)) H
def rDGetM : R2 := fun x y H Q => ∃ a, x = .ref a ∧ ∃ k, keyOf y = some k ∧ dcAt H a fun kvs => ∃ v, valV kvs k = some v ∧ Q v H
def rDSetM : V → V → V → Hp → (Hp → Prop) → Prop := fun o i v H Q => ∃ a, o = .ref a ∧ ∃ k, keyOf i = some k ∧ dcAt H a fun kvs => kvs.length < sizeLine ∧ Q (upd H a (.dK (putK kvs k v)))
def rDLenM : List V → Hp → VK → Prop := fun vs H Q => ∃ a, vs = [.ref a] ∧ dcAt H a fun kvs => Q (.int kvs.length) H
section
variable {X : Cx}
theorem op_dinM (hu : X.A.units + 1 < cLine) : OpR X (compareOp .In) (rDInM false) := by
  intro pins s σ H y x u v Q I ry rx h
  obtain ⟨a, rfl, k, hk, h⟩ := h
  obtain ⟨kvs, hp, q⟩ := dcAt_get h
  obtain rfl : v = Value.ref a := rx
  have e := keyOf_kV hk
  subst e
  exact d_in hu I (.k hp) ry fun s3 I3 => ⟨.bl (valV kvs k).isSome, H, I3, rfl, q⟩
theorem op_dnotinM (hu : X.A.units + 1 < cLine) : OpR X (compareOp .NotIn) (rDInM true) := by
  intro pins s σ H y x u v Q I ry rx h
  obtain ⟨a, rfl, k, hk, h⟩ := h
  obtain ⟨kvs, hp, q⟩ := dcAt_get h
  obtain rfl : v = Value.ref a := rx
  have e := keyOf_kV hk
  subst e
  exact d_notIn hu I (.k hp) ry fun s3 I3 => ⟨.bl (!(valV kvs k).isSome), H, I3, rfl, q⟩
theorem ix_dictM (hu : X.A.units + 1 < cLine) : IxR X rDGetM := by
  intro value slice pins s σ H x y v u Q I rx ry h hs
  obtain ⟨a, rfl, k, hk, h⟩ := h
  obtain ⟨kvs, hp, z, hz, q⟩ := dcAt_get h
  obtain rfl : v = Value.ref a := rx
  have e := keyOf_kV hk
  subst e
  have g : DGet H a (kV k) (some z) := by
    rw [← hz]
    exact .k hp
  exact tail_any (dict_typeIs I g) PySem.F.slot_dict_getitem.lookup (d_getItem hu I g ry fun w' s3 I3 rw' => ⟨z, H, I3, rw', q⟩) hs
theorem set_dictM (hu : X.A.units + 1 < cLine) : PSet X rDSetM := by
  intro pins s σ H o i v ov iv u Q I ro ri rv h
  obtain ⟨a, rfl, k, hk, h⟩ := h
  obtain ⟨kvs, hp, hl, q⟩ := dcAt_get h
  obtain rfl : ov = Value.ref a := ro
  have e := keyOf_kV hk
  subst e
  exact d_setItem hu I (.k hp hl) ri rv fun s4 I4 => ⟨_, I4, q⟩
theorem call_lenDM : CallR X (.builtin "len") rDLenM := by
  intro pins s σ H xs us Q I r h
  obtain ⟨a, e, h⟩ := h
  obtain ⟨kvs, hp, q⟩ := dcAt_get h
  exact call_lenD pins s σ H xs us Q I r ⟨a, kvs, e, hp, q⟩
end
/-! ### own errors with fields -/
/-- what the written part says of an own error class at C, its __init__ at fI -/
structure ExF (K : PySem.W.Frag) (C fI : Addr) : Prop where
  o : OexC K C
  x : XfC K C
  ic : PySem.W.findIn K (.ref C) "__init__" = some (some (.ref fI))
  ti : PySem.W.typeIn K (.ref fI) = some (.type "function")
  ha : PySem.W.findIn K (.ref C) "__class__" = some (some (.builtin "object.__class__"))
  hn : PySem.W.specialIn K (.builtin "object.__class__") "__get__" = some (some (.builtin "getset_descriptor.__get__"))
  ht : PySem.W.takesIn K (.builtin "object.__class__") = some true
  hm : PySem.W.mroIn K C (.type "object") = some true
/-- __init__ of an error with one field, with two -/
def sp_ex1 (C : Addr) (f : Str) : Sp := fun vs H Q _ => ∃ (a : Addr) (v : V), vs = [.ref a, v] ∧ H a = some (exo a C none) ∧ ∀ dx, H dx = none → dx ≠ a → Q .non (upd (upd H dx (exd dx [(f, v)])) a (exo a C (some dx)))
def sp_ex2 (C : Addr) (f g : Str) : Sp := fun vs H Q _ => ∃ (a : Addr) (v w : V), vs = [.ref a, v, w] ∧ H a = some (exo a C none) ∧
  ∀ dx, H dx = none → dx ≠ a → Q .non (upd (upd (upd H dx (exd dx [(f, v)])) a (exo a C (some dx))) dx (exd dx [(g, w), (f, v)]))
/-- raise C(e), raise C(e, e2) -/
def tRz1 (C : Addr) (f : Str) (W : WX) (ta : TA) : TS := fun _ σ H => ta σ H fun vs H1 => ∃ v, vs = [v] ∧ ∀ d, H1 d = none → W (.ref C) (some d) σ (upd H1 d (.xd [(f, v)]))
def tRz2 (C : Addr) (f g : Str) (W : WX) (ta : TA) : TS := fun _ σ H => ta σ H fun vs H1 => ∃ v w, vs = [v, w] ∧ ∀ d, H1 d = none → W (.ref C) (some d) σ (upd H1 d (.xd [(g, w), (f, v)]))
theorem del_upd_upd {H : Hp} {a dx : Addr} {o1 o2 : HO} {o3 : HO} {o0 : HO} (ha : H a = none) (ne : dx ≠ a) : upd (del (upd (upd (upd H a o0) dx o1) a o2) a) dx o3 = upd H dx o3 := by
  funext b
  by_cases hb : b = dx
  · subst hb
    rw [upd_same, upd_same]
  · rw [upd_ne hb, upd_ne hb]
    by_cases hba : b = a
    · subst hba
      rw [del_same, ha]
    · rw [del_ne hba, upd_ne hba, upd_ne hb, upd_ne hba]
theorem del_upd_upd2 {H : Hp} {a dx : Addr} {o0 o1 o2 o3 o4 : HO} (ha : H a = none) (ne : dx ≠ a) : upd (del (upd (upd (upd (upd H a o0) dx o1) a o2) dx o3) a) dx o4 = upd H dx o4 := by
  funext b
  by_cases hb : b = dx
  · subst hb
    rw [upd_same, upd_same]
  · rw [upd_ne hb, upd_ne hb]
    by_cases hba : b = a
    · subst hba
      rw [del_same, ha]
    · rw [del_ne hba, upd_ne hb, upd_ne hba, upd_ne hb, upd_ne hba]
theorem pa_at {X : Cx} {es : List Expr} {ta : TA} {σ0 : L2.St} {H0 : Hp} {R : List V → Hp → Prop} (ha : PA X es ta) (h0 : ta σ0 H0 R) : PA X es (fun σ H Q => σ = σ0 ∧ H = H0 ∧ ∀ vs H1, R vs H1 → Q vs H1) := by
  refine ⟨fun pos pins s σ H Q I h => ?_⟩
  obtain ⟨e1, e2, hk⟩ := h
  subst e1 e2
  exact thn (ha.run pos pins s σ H _ I h0) fun us s1 ⟨vs, H1, I1, r, q⟩ => ⟨vs, H1, I1, r, hk vs H1 q⟩
section
variable {X : Cx} {C fI : Addr} {k : Nat} {fd : FuncData} {x f g : Str} {W : WX} {ta : TA} {e : Expr} {es : List Expr} {p pos pos2 : Pos}
/-- C(e, ..) where nothing is handled: the error that comes has no context -/
theorem pmkN {CX0' : CXT} {ps : List Str} {sp : Sp} (T : ExF X.K C fI) (F1 : FnOk X.prog X.w X.K X.mg X.base CX0' k fI fd ps sp) (hr : Room (k + 1) X.A) (hb : Binds X.K fd ps []) (hx : Passes CX0' X (fun _ _ _ => False)) (hg : Gl X x) (hm : X.mg x = some (.ref C)) (ha : PA X (e :: es) ta)
    (hdb : (x == ("__debug__" : Str)) = false) (he : starEach (e :: es) X.env = (false, eval e X.env) :: starEach es X.env) (hpl : (backTo pos (starEach es X.env)).any (·.1) = false) :
    L2N.PMk X (.Call (.Name x p) (e :: es) [] pos) (tMkO C sp [] ta) := by
  intro pn0 st sg Hh Qq J hh
  obtain ⟨_, _, _, _, lb, _, _, _, _, _, _, _, _, _, _, hCl, hRef⟩ := T.o.cls
  refine wpAny_Call_Name_kw (ld_glob J hg hm ?_ hdb)
  refine PySem.W.callWith_K (h₀ := X.base) J.ok.mod.kin T.o.kC (thn (ha.run pos pn0 st sg Hh _ J hh) fun us st1 hx1 => ?_) he hpl
  obtain ⟨vs, G1, J1, rl, hz, hq0⟩ := hx1
  refine ⟨J1.kIn, ?_⟩
  show wpAny _ _ (call (.ref C) us) _ _ _
  obtain ⟨hp, gs, dr, tks, osx⟩ := st1
  have two : ∀ b o, hp.get? b = some o → ((hp.push (PySem.W.kdv_tup us)).push (PySem.HandSPX.excO C hp.objs.size)).get? b = some o := fun b o q => Heap.get?_push_of_some _ (Heap.get?_push_of_some _ q)
  have here : ((hp.push (PySem.W.kdv_tup us)).push (PySem.HandSPX.excO C hp.objs.size)).get? (hp.objs.size + 1) = some (PySem.HandSPX.excO C hp.objs.size) := by heap_get
  generalize hN : hp.objs.size + 1 = n at here
  have big : hp.objs.size ≤ n := by omega
  have hq := hq0 n (J1.hok.fresh big)
  rw [List.append_nil] at hq
  have J2 := J1.laid (t' := tks) (a := n) (o := exo n C none) two big (exo_ok here)
  have rl2 : Vals (V.ref n :: vs) (Value.ref n :: us) := .cons rfl rl
  have len2 : (Value.ref n :: us ++ []).length = ps.length := by
    rw [List.append_nil, ← rl2.length]
    exact F1.len _ _ _ _ hq
  have few : us.length ≤ sizeLine := by
    have := Paired.length rl
    rw [sizeLine_eq]
    omega
  have bnd := hb _ (Value.ref n :: us) J2.kIn len2
  rw [List.append_nil] at bnd
  have run := F1.run _ X.stack _ _ ⟨Value.ref n :: us, []⟩ (Value.ref n :: us) _ _ (fun _ _ _ => False) (hr.make C us []) (J2.env0.make C us []) bnd rl2 hq
  subst hN
  refine wpAny_call (PySem.HandSPX.call_own F.excBase_ValueError (fun Y => PySem.HandSPX.refsVE_contains Y lb hRef) (J1.kIn _ _ hCl) (PySem.W.looks_findIn J1.kIn T.ic) (fun me => PySem.W.bind_fn J1.kIn me T.ti) few (codeAny_mono run fun res st2 hres => ?_))
  cases res with
  | error er => exact hx pn0 sg _ _ er st2 J2 hres
  | ok fl =>
    cases fl with
    | next => exact hres.elim
    | brk => exact hres.elim
    | cont => exact hres.elim
    | ret u =>
      obtain ⟨v, G2, o2, b2, u2, k2, rv, ev, d, fs, ea, ed, hd1, q2⟩ := hres
      subst ev
      obtain ⟨hp2, gs2, dr2, tk2, os2⟩ := st2
      obtain ⟨t0, G, J3, kG, ge, hoe, na⟩ := mk_end0 (d2 := dr2) (t2 := tk2) J1 big two u2 k2 o2 b2 ea ed hd1
      exact ⟨rv, _, _, _, ⟨G, gs2, dr2, tk2, os2⟩, _, .ref C, some d, rfl, J3, kG, ge, hoe, ⟨rfl, rfl, fun ws hw => by cases hw; rfl⟩, rfl, rfl, na, rfl, b2, raises_own T.o.exC T.o.tyC, q2⟩
theorem ps_rz1 {ps : List Str} (hc : X.calm = true) (T : ExF X.K C fI) (F : FnOk X.prog X.w X.K X.mg X.base CX0 k fI fd ps (sp_ex1 C f)) (hr : Room (k + 1) X.A) (hb : Binds X.K fd ps []) (tk : L2N.Takes X W) (hg : Gl X x) (hm : X.mg x = some (.ref C)) (ha : PA X (e :: es) ta)
    (hdb : (x == ("__debug__" : Str)) = false := by decide) (he : starEach (e :: es) X.env = (false, eval e X.env) :: starEach es X.env := by rfl) (hpl : (backTo pos (starEach es X.env)).any (·.1) = false := by rfl) :
    PS X (.Raise (some (.Call (.Name x p) (e :: es) [] pos)) none pos2) (tRz1 C f W ta) := by
  refine ⟨fun pins s σ H D I h => ?_⟩
  have key := L2N.ps_raise (pos := pos2) hc tk (pmkN (p := p) T F hr hb pass0 hg hm (pa_at ha h) hdb he hpl)
  refine key.run pins s σ H D I ⟨rfl, rfl, fun vs H1 hk => ?_⟩
  obtain ⟨v, rfl, hw⟩ := hk
  refine ⟨by show 1 ≤ 1000; decide, fun a ha2 => ⟨a, v, rfl, upd_same, fun dx hdx ne => ⟨rfl, dx, [(f, v)], upd_same, ?_, ?_, ?_⟩⟩⟩
  · rw [upd_ne ne, upd_same]
  · rw [upd_ne ne] at hdx
    exact hdx
  · rw [upd_ne ne] at hdx
    rw [del_upd_upd ha2 ne]
    exact hw dx hdx
theorem ps_rz2 {ps : List Str} (hc : X.calm = true) (T : ExF X.K C fI) (F : FnOk X.prog X.w X.K X.mg X.base CX0 k fI fd ps (sp_ex2 C f g)) (hr : Room (k + 1) X.A) (hb : Binds X.K fd ps []) (tk : L2N.Takes X W) (hg : Gl X x) (hm : X.mg x = some (.ref C)) (ha : PA X (e :: es) ta)
    (hdb : (x == ("__debug__" : Str)) = false := by decide) (he : starEach (e :: es) X.env = (false, eval e X.env) :: starEach es X.env := by rfl) (hpl : (backTo pos (starEach es X.env)).any (·.1) = false := by rfl) :
    PS X (.Raise (some (.Call (.Name x p) (e :: es) [] pos)) none pos2) (tRz2 C f g W ta) := by
  refine ⟨fun pins s σ H D I h => ?_⟩
  have key := L2N.ps_raise (pos := pos2) hc tk (pmkN (p := p) T F hr hb pass0 hg hm (pa_at ha h) hdb he hpl)
  refine key.run pins s σ H D I ⟨rfl, rfl, fun vs H1 hk => ?_⟩
  obtain ⟨v, w, rfl, hw⟩ := hk
  refine ⟨by show 2 ≤ 1000; decide, fun a ha2 => ⟨a, v, w, rfl, upd_same, fun dx hdx ne => ⟨rfl, dx, [(g, w), (f, v)], ?_, upd_same, ?_, ?_⟩⟩⟩
  · rw [upd_ne (Ne.symm ne), upd_same]
  · rw [upd_ne ne] at hdx
    exact hdx
  · rw [upd_ne ne] at hdx
    rw [del_upd_upd2 ha2 ne]
    exact hw dx hdx
end
/-! ### an error that an except suite holds: isinstance, fields -/
def rIsX (K : PySem.W.Frag) (a : Addr) (cls : Value) (d : Option Addr) : List V → Hp → VK → Prop := fun xs H Q => ∃ (c : V) (cv : Value) (C fI dd : Addr) (fs : List (Str × V)) (b : Bool),
  xs = [.ref a, c] ∧ ClsV c cv ∧ cls = .ref C ∧ d = some dd ∧ H dd = some (.xd fs) ∧ ExF K C fI ∧ PySem.W.kitOne K (.ref C) cv = some b ∧ Q (.bl b) H
theorem call_isX {X : Cx} {a : Addr} {oe : Obj} {cls : Value} {d : Option Addr} (hp : (a, oe) ∈ X.pn) (hz : Zc cls d oe) (hf : ∃ vs, oe.data = .fields vs) : CallR X (.builtin "isinstance") (rIsX X.K a cls d) := by
  intro pins s σ H xs us Q I r h
  obtain ⟨c, cv, C, fI, dd, fs, b, rfl, hcv, rfl, rfl, hdd, T, hk, q⟩ := h
  obtain ⟨u1, u2, rfl, r1, r2⟩ := vals2 r
  have e2 := hcv.eq r2
  subst e2
  cases (show u1 = Value.ref a from r1)
  obtain ⟨hget, _⟩ := I.pin (a, oe) (List.mem_append_left _ hp)
  obtain ⟨vs, hv⟩ := hf
  obtain ⟨mA, hns, _⟩ := (show ObjOk X.prog X.w H s.heap dd (.xd fs) from I.hok dd _ hdd)
  obtain ⟨od, ho, _⟩ := lookIn_ns hns
  have J : PySem.W.InstAt s.heap a oe C (some od) := ⟨hget, hz.1, by unfold PySem.W.notCls; rw [hv] <;> rfl, by rw [hz.2]; exact ho⟩
  have hcl : (PySem.W.clsIn X.K C).isSome = true := by
    obtain ⟨nm, q, N, bs, bm, sn, sub, ab, col, dD, k0, k1, k2, k3, k5, hC, _⟩ := T.o.cls
    unfold PySem.W.clsIn
    rw [hC] <;> rfl
  exact PySem.W.kia_one (PySem.W.kitx_exc hcl T.x.ga T.x.gg T.x.exC T.ha T.hn T.ht T.hm) I.kIn J hk (fun z => nomatch z) fun tk => ⟨.bl b, H, I.kept (t' := tk) fun _ _ z => z, rfl, q⟩
/-- e.f, e the error at a -/
def tFx (a : Addr) (cls : Value) (d : Option Addr) (f : Str) (K : PySem.W.Frag) (te : TE) : TE := fun σ H Q => te σ H fun x H1 => x = .ref a ∧ ∃ (C fI dd : Addr) (fs : List (Str × V)) (v : V), cls = .ref C ∧ ExF K C fI ∧ PySem.W.findIn K (.ref C) f = some none ∧ d = some dd ∧ H1 dd = some (.xd fs) ∧ fs.lookup f = some v ∧ Q v H1
theorem pe_fx {X : Cx} {a : Addr} {oe : Obj} {cls : Value} {d : Option Addr} {e : Expr} {te : TE} {pos : Pos} {n : Str} (hp : (a, oe) ∈ X.pn) (hz : Zc cls d oe) (hf : ∃ vs, oe.data = .fields vs) (he : PE X e te)
    (hb : attributeBase e n X.env (eval e X.env) = eval e X.env := by rfl) : PE X (.Attribute e n pos) (tFx a cls d n X.K te) := by
  refine ⟨fun pins s σ H Q I h => ?_⟩
  refine attr_of hb (thn (he.run pins s σ H _ I h) fun u s1 hh => ?_)
  obtain ⟨x, H1, I1, rx, ex, C, fI, dd, fs, v, rfl, T, hno, rfl, ea, l, q⟩ := hh
  subst ex
  obtain rfl : u = Value.ref a := rx
  obtain ⟨hget, _⟩ := I1.pin (a, oe) (List.mem_append_left _ hp)
  obtain ⟨vs, hv⟩ := hf
  obtain ⟨mA, hns, hr⟩ := (show ObjOk X.prog X.w H1 s1.heap dd (.xd fs) from I1.hok dd _ ea)
  obtain ⟨od, ho, hl⟩ := lookIn_ns hns
  obtain ⟨w1, hw1, rw1⟩ := RelO.some_of (v := v) (o := mA n) (by rw [← l]; exact hr n)
  have J : PySem.W.InstAt s1.heap a oe C (some od) := ⟨hget, hz.1, by unfold PySem.W.notCls; rw [hv] <;> rfl, by rw [hz.2]; exact ho⟩
  exact HandSPX.exc_get I1.kIn J T.x.ga T.x.gg T.x.exC (PySem.W.findObj_own T.x.hdC hno rfl (by rw [hl, hw1])) (handed_of rw1) ⟨v, H1, I1.tok _, rw1, q⟩
/-- o.m(e, ..) that may raise, within a try -/
def tMethE (C : Addr) (m : Str) (sp : Sp) (E : L2.St → XK) (ta : TE) (t : TA) : TE := fun σ H Q => ta σ H fun x H1 => ∃ a dx fs, x = .ref a ∧ H1 a = some (.ins C dx fs) ∧ fs.lookup m = none ∧ t σ H1 fun vs H2 => sp (x :: vs) H2 Q (E σ)
theorem pe_methE {X : Cx} {CX : CXT} {k : Nat} {C f : Addr} {fd : FuncData} {ps : List Str} {m : Str} {sp : Sp} {E : L2.St → XK} {o e : Expr} {es : List Expr} {ta : TE} {t : TA} {apos pos : Pos} {pl : Sem Bool} (he : PE X o ta) (c : Cls X.K C) (hm : Meth X.K C m f)
    (F : FnOk X.prog X.w X.K X.mg X.base CX k f fd ps sp) (hr : Room k X.A) (hb : Binds X.K fd ps []) (hx : ∀ σ, PassesAt CX X σ (E σ)) (ha : PA X (e :: es) t)
    (hst : starEach (e :: es) X.env = (false, eval e X.env) :: starEach es X.env := by rfl) (hpl : (backTo pos (starEach es X.env)).any (·.1) = false := by rfl)
    (ht : eval (.Call (.Attribute o m apos) (e :: es) [] pos) X.env = (do
      let ov ← eval o X.env
      standAt apos.atName
      let (f, first) ← holding [ov] (getMethod ov m pl)
      callWith pos f first (backTo pos (starEach (e :: es) X.env)) (backToKw pos (keywordEach [] X.env))) := by rfl) :
    PE X (.Call (.Attribute o m apos) (e :: es) [] pos) (tMethE C m sp E ta t) := by
  refine ⟨fun pins s σ H Q I h => ?_⟩
  refine PySem.W.methodCall_KW (pl := pl) (thn (he.run pins s σ H _ I h) fun u1 s1 hh => ?_) ht
  obtain ⟨x, H1, I1, rx, a, dx, fs, ex, ea, l, q⟩ := hh
  subst ex
  obtain rfl : u1 = Value.ref a := rx
  refine getmeth_ok I1 ea c hm l ?_
  refine PySem.W.callWith_K (first := [.ref a]) (h₀ := X.base) I.ok.mod.kin hm.kp (thn (ha.run pos pins s1 σ H1 _ I1 q) fun us s2 hh2 => ?_) hst hpl
  obtain ⟨vs, H2, I2, r, q2⟩ := hh2
  exact ⟨I2.kIn, run_fnS (us := .ref a :: us) (vs := .ref a :: vs) F hr hb (hx σ) I2 (.cons rfl r) q2⟩
/-- a def that may raise -/
theorem okN {P : Program} {w : World} {K : PySem.W.Frag} {mg : Str → Option Value} {base : Heap} {CXx : CXT} {x qual : Str} {st : Stmt} {f : Addr} {fd : FuncData} {N ps : List Str} {k : Nat} {sp : Sp} (F : Fun K x qual st f fd) (S : FnScope N ps (defScope st)) (len : ∀ vs H Q E, sp vs H Q E → vs.length = ps.length)
    (body : ∀ (cdv : Value) (A : Around) (outer : List Env) (s : Shared) (H : Hp) (vs : List V) (Q : VK) (E : XK), Room k (A.deeper (envOfC qual (defScope st) s.heap.objs.size f cdv)) → sp vs H Q E →
      ∃ t, PSs (cxOf CXx P w K mg base N qual (defScope st) f cdv A outer s H E) (defBody st) t ∧ t { nx := fun _ H' => Q .non H', rt := Q } (L2.start N vs) H) : FnOk P w K mg base CXx (k + 1) f fd ps sp := by
  obtain ⟨_, _, _, _, _, _, cdv, _, _, rfl, lk, hcd⟩ := F.ex
  exact fn_of lk hcd S len (body cdv)
/-- a def as it is called where an error is handled -/
theorem okH {P : Program} {w : World} {K : PySem.W.Frag} {mg : Str → Option Value} {base : Heap} {CXx : CXT} {x qual : Str} {st : Stmt} {f : Addr} {fd : FuncData} {N ps : List Str} {k : Nat} {sp : Sp} (F : Fun K x qual st f fd) (S : FnScope N ps (defScope st)) (len : ∀ vs H Q E, sp vs H Q E → vs.length = ps.length)
    (body : ∀ (cdv : Value) (A : Around) (outer : List Env) (s : Shared) (H : Hp) (vs : List V) (Q : VK) (E : XK) (p : Addr × Obj), L2H.Hot1 A p → L2H.RoomH k (A.deeper (envOfC qual (defScope st) s.heap.objs.size f cdv)) → sp vs H Q E →
      ∃ t, PSs (L2H.cxH CXx P w K mg base N qual (defScope st) f cdv A outer s H E p) (defBody st) t ∧ t { nx := fun _ H' => Q .non H', rt := Q } (L2.start N vs) H) : L2H.FnH P w K mg base CXx (k + 1) f fd ps sp := by
  obtain ⟨_, _, _, _, _, _, cdv, _, _, rfl, lk, hcd⟩ := F.ex
  exact L2H.fn_ofH lk hcd S len (body cdv)
theorem takesN {X : Cx} : L2N.Takes X (fun _ _ _ _ => False) := fun _ _ x => by
  obtain ⟨_, _, _, _, _, _, _, _, _, _, _, _, _, _, _, _, z⟩ := x
  exact z.elim
theorem passAt0 {X : Cx} {σ : L2.St} : PassesAt CX0 X σ E0 := fun _ _ _ _ _ _ h => h.elim
theorem hotC_suite {X : Cx} {a : Addr} {oe : Obj} {cls : Value} {d : Option Addr} {pn : List (Addr × Obj)} (hz : L2N.Zn cls d oe) (hf : ∃ vs, oe.data = .fields vs) : L2H.HotC (X.suite a ((a, oe) :: pn)) := by
  obtain ⟨vs, hv⟩ := hf
  exact ⟨(a, oe), ⟨rfl, vs, hv, hz.2.2 vs hv⟩, List.mem_cons_self ..⟩
theorem roomH_suite {k : Nat} {A : Around} {h : Option Value} (r : Room k A) : L2H.RoomH k (A.mark h) := ⟨r.dp, r.un⟩
theorem tt_true {a : Prop} (h : a) : (a = True) := propext ⟨fun _ => trivial, fun _ => h⟩
/-! ### x is True, of a plain value -/
def plainV : V → Bool
  | .bl _ => true
  | .int _ => true
  | .non => true
  | .str _ => true
  | _ => false
def rIsBM (neg : Bool) : R2 := fun x y H Q => ∃ b, y = .bl b ∧ plainV x = true ∧ Q (.bl (if neg then !decide (x = .bl b) else decide (x = .bl b))) H
theorem plainV_b {b : Bool} : plainV (.bl b) = true := rfl
theorem plainV_i {i : Int} : plainV (.int i) = true := rfl
theorem plainV_n : plainV .non = true := rfl
theorem plainV_s {x : Str} : plainV (.str x) = true := rfl
section
variable {X : Cx}
theorem op_isBM : OpR X (compareOp .Is) (rIsBM false) := by
  intro pins s σ H x y v u Q I rx ry h
  obtain ⟨b, rfl, hx, q⟩ := h
  cases (show u = Value.bool b from ry)
  by_cases e : x = .bl b
  · subst e
    cases (show v = Value.bool b from rx)
    exact wpAny_is_self rfl ⟨.bl true, H, I, rfl, by simpa using q⟩
  · have ne : v ≠ Value.bool b := fun z => by
      subst z
      cases x with
      | bl a => exact e (by rw [Value.bool.inj (show Value.bool b = Value.bool a from rx)])
      | int i =>
        obtain ⟨t, z⟩ := rx
        cases z
      | str i =>
        obtain ⟨t, z⟩ := rx
        cases z
      | non => cases (show Value.bool b = Value.none from rx)
      | byt k => cases hx
      | flt k => cases hx
      | ref k => cases hx
      | ty k => cases hx
    have pl : PySem.plainIs v (Value.bool b) = true := by
      cases x with
      | bl a =>
        cases (show v = Value.bool a from rx)
        rfl
      | int i =>
        obtain ⟨t, rfl⟩ := rx
        rfl
      | str i =>
        obtain ⟨t, rfl⟩ := rx
        rfl
      | non =>
        cases (show v = Value.none from rx)
        rfl
      | byt k => cases hx
      | flt k => cases hx
      | ref k => cases hx
      | ty k => cases hx
    exact wpAny_is_other pl ne ⟨.bl false, H, I, rfl, by simpa [e] using q⟩
end
/-! ### in, methods, slices of a tracked list -/
def rInM (neg : Bool) : R2 := fun x y H Q => ∃ p, y = .ref p ∧ lstAt H p fun xs => flatV x = true ∧ xs.all flatV = true ∧ Q (.bl (if neg then !inV x xs else inV x xs)) H
def tBMM (r : V → List V → Hp → VK → Prop) (to : TE) (t : TA) : TE := fun σ H Q => to σ H fun x H1 => ∃ p, x = .ref p ∧ lstAt H1 p fun _ => t σ H1 fun xs H2 => r x xs H2 Q
def tBM0M (r : V → List V → Hp → VK → Prop) (to : TE) : TE := fun σ H Q => to σ H fun x H1 => ∃ p, x = .ref p ∧ lstAt H1 p fun _ => r x [] H1 Q
def rSlM : V → Option Int → Option Int → Hp → VK → Prop := fun x lo hi H Q => ∃ p, x = .ref p ∧ lstAt H p fun xs => ∀ l, H l = none → Q (.ref l) (upd H l (.lst (cutV xs lo hi)))
theorem pe_at {X : Cx} {e : Expr} {te : TE} {σ0 : L2.St} {H0 : Hp} {R : V → Hp → Prop} (ha : PE X e te) (h0 : te σ0 H0 R) : PE X e (fun σ H Q => σ = σ0 ∧ H = H0 ∧ ∀ v H1, R v H1 → Q v H1) := by
  refine ⟨fun pins s σ H Q I h => ?_⟩
  obtain ⟨e1, e2, hk⟩ := h
  subst e1 e2
  exact thn (ha.run pins s σ H _ I h0) fun u s1 ⟨v, H1, I1, r, q⟩ => ⟨v, H1, I1, r, hk v H1 q⟩
section
variable {X : Cx}
theorem op_inM : OpR X (compareOp .In) (rInM false) := by
  intro pins s σ H x y v u Q I rx ry h
  obtain ⟨p, e, h⟩ := h
  obtain ⟨xs, hp, h1, h2, q⟩ := lstAt_get h
  exact op_in_seq pins s σ H x y v u Q I rx ry ⟨p, xs, e, .inl (.inl (.inl hp)), h1, h2, q⟩
theorem op_notInM : OpR X (compareOp .NotIn) (rInM true) := by
  intro pins s σ H x y v u Q I rx ry h
  obtain ⟨p, e, h⟩ := h
  obtain ⟨xs, hp, h1, h2, q⟩ := lstAt_get h
  exact op_notIn_seq pins s σ H x y v u Q I rx ry ⟨p, xs, e, .inl (.inl (.inl hp)), h1, h2, q⟩
theorem sl_listM : SlR X rSlM := by
  intro pins s σ H x v vl vu lo hi sl Q I rx hs pl pu h
  obtain ⟨p, e, h⟩ := h
  obtain ⟨xs, hp, q⟩ := lstAt_get h
  exact sl_list pins s σ H x v vl vu lo hi sl Q I rx hs pl pu ⟨p, xs, e, .inl (.inl hp), q⟩
theorem pe_bmM {name : Str} {id : String} {r : V → List V → Hp → VK → Prop} {o e : Expr} {es : List Expr} {to : TE} {t : TA} {apos cpos : Pos} (slot : Slot "list" name id) (hty : typeOf (.builtin id) = pure (.type "method_descriptor")) (hm : MtR X id r) (ho : PE X o to) (ha : PA X (e :: es) t)
    (hbase : attributeBase o name X.env (eval o X.env) = eval o X.env := by rfl)
    (hfew : ((backTo cpos (starEach (e :: es) X.env)).all (fun x => !x.1) && (backToKw cpos (keywordEach [] X.env)).all (fun x => x.1.isSome)
      && decide ((e :: es).length + ([] : List Keyword).length + (if ([] : List Keyword).isEmpty then 0 else 1) < 30)) = true := by rfl)
    (hline : (apos.endLine == cpos.line) = true := by rfl) (hs : starEach (e :: es) X.env = (false, eval e X.env) :: starEach es X.env := by rfl) (hplain : (backTo cpos (starEach es X.env)).any (·.1) = false := by rfl) :
    PE X (.Call (.Attribute o name apos) (e :: es) [] cpos) (tBMM r to t) := by
  refine ⟨fun pins s σ H Q I h => ?_⟩
  refine (pe_bm PySem.F.plainAttrs_list slot hty hm (pe_at ho h) ha hbase hfew hline hs hplain).run pins s σ H Q I ⟨rfl, rfl, fun v H1 hv => ?_⟩
  obtain ⟨p, rfl, hv⟩ := hv
  obtain ⟨xs, hp, q⟩ := lstAt_get hv
  exact ⟨.inl ⟨rfl, xs, .inl (.inl hp)⟩, q⟩
theorem pe_bm0M {name : Str} {id : String} {r : V → List V → Hp → VK → Prop} {o : Expr} {to : TE} {apos cpos : Pos} (slot : Slot "list" name id) (hty : typeOf (.builtin id) = pure (.type "method_descriptor")) (hm : MtR X id r) (ho : PE X o to)
    (hbase : attributeBase o name X.env (eval o X.env) = eval o X.env := by rfl) (hline : (apos.endLine == cpos.line) = true := by rfl) : PE X (.Call (.Attribute o name apos) [] [] cpos) (tBM0M r to) := by
  refine ⟨fun pins s σ H Q I h => ?_⟩
  refine (pe_bm0 PySem.F.plainAttrs_list slot hty hm (pe_at ho h) hbase hline).run pins s σ H Q I ⟨rfl, rfl, fun v H1 hv => ?_⟩
  obtain ⟨p, rfl, hv⟩ := hv
  obtain ⟨xs, hp, q⟩ := lstAt_get hv
  exact ⟨.inl ⟨rfl, xs, .inl (.inl hp)⟩, q⟩
end
theorem lkc {a k : Str} {b : V} {es : List (Str × V)} : List.lookup a ((k, b) :: es) = if a = k then some b else List.lookup a es := by
  by_cases h : a = k
  · subst h
    simp [List.lookup]
  · have e : (a == k) = false := by simpa using h
    rw [if_neg h]
    simp [List.lookup, e]
theorem lkn {a : Str} : List.lookup a ([] : List (Str × V)) = none := rfl
theorem pfn {f : Str} {v : V} : putF f v [] = [(f, v)] := rfl
theorem pfc {f g : Str} {v x : V} {r : List (Str × V)} : putF f v ((g, x) :: r) = if g = f then (g, v) :: r else (g, x) :: putF f v r := rfl
theorem cxH_K {CX : CXT} {P : Program} {w : World} {K : PySem.W.Frag} {mg : Str → Option Value} {base : Heap} {N : List Str} {qual : Str} {scope : Scope} {f : Addr} {cd : Value} {A : Around} {outer : List Env} {s : Shared} {H : Hp} {E : XK} {p : Addr × Obj} : (L2H.cxH CX P w K mg base N qual scope f cd A outer s H E p).K = K := rfl
theorem clsV_ref {C : Addr} {u : Value} : ClsV (.ref C) u = (Value.ref C = u) := by
  apply propext
  constructor
  · intro h
    cases h
    rfl
  · intro h
    subst h
    exact .own C
theorem clsV_ty {n : String} {u : Value} : ClsV (.ty n) u = (Value.type n = u) := by
  apply propext
  constructor
  · intro h
    cases h
    rfl
  · intro h
    subst h
    exact .ty n

/-! ### a def that is handed the error that is handled: its promise speaks of the pinned object -/
structure FnE (P : Program) (w : World) (K : PySem.W.Frag) (mg : Str → Option Value) (base : Heap) (CXx : CXT) (k : Nat) (f : Addr) (fd : FuncData) (ps : List Str) (sp : Addr × Obj → Sp) : Prop where
  len : ∀ p vs H Q E, sp p vs H Q E → vs.length = ps.length
  run : ∀ (p : Addr × Obj) (A : Around) (outer : List Env) (s : Shared) (H : Hp) (args : Args) (us : List Value) (vs : List V) (Q : VK) (E : XK), L2H.RoomH k A → L2H.Hot1 A p → L2H.PinOk outer H s p → Env0 P w K mg base A outer s H → BindsTo s fd args (ps.zip us) →
    Vals vs us → sp p vs H Q E → codeAny (model P w) A (.call (.ref f) args) (CR CXx outer P w H s Q E) s
theorem okE {P : Program} {w : World} {K : PySem.W.Frag} {mg : Str → Option Value} {base : Heap} {CXx : CXT} {x qual : Str} {st : Stmt} {f : Addr} {fd : FuncData} {N ps : List Str} {k : Nat} {sp : Addr × Obj → Sp} (F : Fun K x qual st f fd) (S : FnScope N ps (defScope st))
    (len : ∀ p vs H Q E, sp p vs H Q E → vs.length = ps.length)
    (body : ∀ (p : Addr × Obj) (cdv : Value) (A : Around) (outer : List Env) (s : Shared) (H : Hp) (vs : List V) (Q : VK) (E : XK), L2H.Hot1 A p → L2H.RoomH k (A.deeper (envOfC qual (defScope st) s.heap.objs.size f cdv)) → sp p vs H Q E →
      ∃ t, PSs (L2H.cxH CXx P w K mg base N qual (defScope st) f cdv A outer s H E p) (defBody st) t ∧ t { nx := fun _ H' => Q .non H', rt := Q } (L2.start N vs) H) : FnE P w K mg base CXx (k + 1) f fd ps sp := by
  obtain ⟨_, _, _, _, _, _, cdv, _, _, rfl, lk, hcd⟩ := F.ex
  refine ⟨len, fun p A outer s H args us vs Q E hr hot pin e0 bnd rv hsp => ?_⟩
  have kin : K.In s.heap := e0.mod.kin.keeps fun b o q => (e0.bs b o q).1
  have own : ∀ y ∈ ps.zip us, (defScope st).names.lookup y.1 = some .local ∨ ((defScope st).names.lookup y.1 = some .cell ∧ ((cellsFrom (s.heap.objs.size + 1) (defScope st).names []).lookup y.1).isSome = true) := by
    intro y hy
    rcases S.par y.1 (List.of_mem_zip (a := y.1) (b := y.2) hy).1 with h | h
    · exact .inl h
    · exact .inr ⟨h, PySem.W.cellsFrom_some _ _ _ (.inl h)⟩
  refine codeAny_call_function hr.depth (kin _ _ lk) rfl S.co S.gen rfl (PySem.W.codeRec_of kin hcd) (bnd _ _ _ _ (wpAny_newFunctionEnv_cells S.kind own fun env he s1 z => ?_))
  subst he
  refine ⟨(e0.mod.nolimit.keeps fun b o q => (e0.bs b o q).1).keeps z.toInCall.keep, codeAny_func ?_⟩
  obtain ⟨t, ht, hq⟩ := body p cdv A outer s H vs Q E hot (hr.deeper _) hsp
  have I := L2H.inv_startH (CX := CXx) (P := P) (w := w) (mg := mg) (base := base) (E := E) S pin e0 (len _ _ _ _ _ hsp) rv z
  refine wpAny_mono (ht.run [] s1 (L2.start N vs) H _ I hq) (fun fl s2 h2 => ?_) fun _ _ h2 => h2
  cases fl with
  | brk =>
    obtain ⟨_, _, _, h2⟩ := h2
    exact h2.elim
  | cont =>
    obtain ⟨_, _, _, h2⟩ := h2
    exact h2.elim
  | next =>
    obtain ⟨_, H2, J, q⟩ := h2
    exact ⟨V.non, H2, J.os, J.bare, J.base, J.hok, rfl, q⟩
  | ret u =>
    obtain ⟨v, _, H2, J, r, q⟩ := h2
    exact ⟨v, H2, J.os, J.bare, J.base, J.hok, r, q⟩
def tCallZ (sp : Addr × Obj → Sp) (a : Addr) (cls : Value) (d : Option Addr) (t : TA) : TE := fun σ H Q => t σ H fun vs H1 => ∀ oe, L2N.Zn cls d oe → (∃ ws, oe.data = .fields ws) → sp (a, oe) vs H1 Q E0
theorem pe_callE {X : Cx} {k : Nat} {f : Addr} {fd : FuncData} {ps : List Str} {sp : Addr × Obj → Sp} {x : Str} {q pos : Pos} {e : Expr} {es : List Expr} {t : TA} {a : Addr} {oe : Obj} {cls : Value} {d : Option Addr} (F : FnE X.prog X.w X.K X.mg X.base CX0 k f fd ps sp) (hr : L2H.RoomH k X.A) (hot : L2H.Hot1 X.A (a, oe)) (hp : (a, oe) ∈ X.pn) (hz : L2N.Zn cls d oe) (hf : ∃ ws, oe.data = .fields ws)
    (hg : Gl X x) (hm : X.mg x = some (.ref f)) (hk : PySem.W.keepIn X.K (.ref f) = true) (hb : Binds X.K fd ps []) (ha : PA X (e :: es) t) (hdb : (x == ("__debug__" : Str)) = false := by decide)
    (he : starEach (e :: es) X.env = (false, eval e X.env) :: starEach es X.env := by rfl) (hpl : (backTo pos (starEach es X.env)).any (·.1) = false := by rfl) : PE X (.Call (.Name x q) (e :: es) [] pos) (tCallZ sp a cls d t) := by
  refine ⟨fun pins s σ H Q I h => ?_⟩
  refine wpAny_Call_Name_kw (ld_glob I hg hm ?_ hdb)
  refine PySem.W.callWith_K (h₀ := X.base) I.ok.mod.kin hk (thn (ha.run pos pins s σ H _ I h) fun us s1 z => ?_) he hpl
  obtain ⟨vs, H1, I1, r, hsp0⟩ := z
  have hsp := hsp0 oe hz hf
  refine ⟨I1.kIn, ?_⟩
  have n : us.length = ps.length := r.length.symm.trans (F.len _ _ _ _ _ hsp)
  have b := hb s1 us I1.kIn (by rw [List.append_nil]; exact n)
  rw [List.append_nil] at b
  have at1 := I1.pin (a, oe) (List.mem_append_left _ hp)
  have pin : L2H.PinOk X.stack H1 s1 (a, oe) := ⟨at1.1, at1.2.1, fun hx => (List.mem_cons.mp (I1.stkSub a hx)).elim at1.2.2.1 at1.2.2.2.1, at1.2.2.2.2⟩
  refine wpAny_call (codeAny_mono (F.run (a, oe) X.A X.stack s1 H1 ⟨us, []⟩ us vs Q E0 hr hot pin I1.env0 b r hsp) fun res s2 hres => ?_)
  cases res with
  | error er => exact hres.elim
  | ok fl =>
    cases fl with
    | ret u => exact I1.after hres
    | next => exact hres.elim
    | brk => exact hres.elim
    | cont => exact hres.elim
theorem hot_suite {X : Cx} {a : Addr} {oe : Obj} {cls : Value} {d : Option Addr} {pn : List (Addr × Obj)} (hz : L2N.Zn cls d oe) (hf : ∃ vs, oe.data = .fields vs) : L2H.Hot1 (X.suite a ((a, oe) :: pn)).A (a, oe) := by
  obtain ⟨vs, hv⟩ := hf
  exact ⟨rfl, vs, hv, hz.2.2 vs hv⟩

/-! ### more small rules -/
theorem passN0 {P : Program} {w : World} {X : Cx} : Passes (L2N.CX P w) X E0 := fun _ _ _ _ _ _ _ ⟨_, _, _, _, _, _, _, _, _, _, _, _, h⟩ => h.elim
theorem isTy_si {x : Str} : isTy (.str x) "int" = some false := by
  show L2.kitB "str" "int" = some false
  decide +kernel
theorem isTy_is {i : Int} : isTy (.int i) "str" = some false := by
  show L2.kitB "int" "str" = some false
  decide +kernel
theorem isTy_sb {x : Str} : isTy (.str x) "bool" = some false := by
  show L2.kitB "str" "bool" = some false
  decide +kernel
/-- isinstance(x, list), x a tracked list -/
def rIsL : List V → Hp → VK → Prop := fun xs H Q => ∃ p, xs = [.ref p, .ty "list"] ∧ lstAt H p fun _ => Q (.bl true) H
theorem call_isL {X : Cx} : CallR X (.builtin "isinstance") rIsL := by
  intro pins s σ H xs us Q I r h
  obtain ⟨p, rfl, h⟩ := h
  obtain ⟨ys, hp, q⟩ := lstAt_get h
  exact call_isi pins s σ H _ us Q I r ⟨.ref p, .ty "list", .type "list", .type "list", true, rfl, .ty "list", .base (.lst hp), kit_ty rfl, q⟩
/-- a str times an int that is more than one -/
def rRepS : R2 := fun x y H Q => ∃ (i : Str) (n : Int), x = .str i ∧ y = .int n ∧ 1 < n ∧ n ≤ 100000 ∧ 0 < i.length ∧ i.length ≤ 10 ∧ ∀ z : Str, z.length = i.length * n.toNat → Q (.str z) H
theorem size_foldl_rep (b : Array Nat) : ∀ (n : Nat) (a : Array Nat), (List.foldl (fun x1 x2 => x1 ++ x2) a (List.replicate n b)).size = a.size + b.size * n
  | 0, a => by simp
  | n + 1, a => by
    rw [List.replicate_succ, List.foldl_cons, size_foldl_rep b n, Array.size_append, Nat.mul_succ]
    omega
theorem op_repS {X : Cx} : OpR X (binaryOp .Mult) rRepS := by
  intro pins s σ H x y v u Q I rx ry h
  obtain ⟨i, n, rfl, rfl, h1, h2, h3, h4, q⟩ := h
  obtain ⟨t, rfl⟩ := rx
  obtain ⟨t', rfl⟩ := ry
  have hl : i.length * n.toNat ≤ 1000000 := by
    have := Nat.mul_le_mul h4 (show n.toNat ≤ 100000 by omega)
    omega
  have c0 : ¬ n < 1 := by omega
  have c1 : (n == 1 || i.length == 0) = false := by
    have a1 : (n == 1) = false := by simp; omega
    have a2 : (i.length == 0) = false := by simp; omega
    rw [a1, a2] <;> rfl
  have hs : (⟨(List.replicate n.toNat i.cps).foldl (· ++ ·) #[]⟩ : Str).length = i.length * n.toNat := by
    show Array.size _ = _
    rw [size_foldl_rep]
    simp [Str.length]
  have hsl : i.length * n.toNat ≤ sizeLine := Nat.le_trans hl (by decide)
  have ns : PySem.Builtin.Str.tooLong (i.length * n.toNat) = false := decide_eq_false (by omega)
  refine PySem.P.mul_str ?_ (fun _ _ => ?_) (fun _ _ => ns) ?_
  · have a1 : ¬ n < -(2 ^ 63 : Int) := by omega
    have a2 : ¬ n ≥ 2 ^ 63 := by omega
    rw [decide_eq_false a1, decide_eq_false a2] <;> rfl
  · have a1 : (100 : Int) ≤ (2 ^ 63 - 1) / n := by
      refine Int.le_ediv_of_mul_le (by omega) ?_
      omega
    omega
  · rw [if_neg c0, if_neg (by rw [c1]; decide)]
    exact ⟨by rw [hs]; exact hsl, ⟨.str _, H, I.tok _, ⟨_, rfl⟩, q _ hs⟩⟩
/-- a loop over a list that is made for it -/
theorem for_lstN {K : PySem.W.Frag} {tl : TE} {g : TG} {tb : TS} {D : Ends} {σ : L2.St} {H : Hp} (xs : List V) (htl : ∀ R : V → Hp → Prop, (∀ p, H p = none → R (.ref p) (upd H p (.lst xs))) → tl σ H R) (Pv : Addr → Nat → L2.St → Hp → Prop)
    (hp : ∀ p, H p = none → Pv p 0 σ (upd H p (.lst xs))) (hl : ∀ p i σ' H', H p = none → Pv p i σ' H' → H' p = some (.lst xs))
    (hs : ∀ p i x σ' H', H p = none → xs[i]? = some x → Pv p i σ' H' → g x σ' H' fun σ2 H2 => tb { D with nx := Pv p (i + 1), ct := Pv p (i + 1), bk := D.nx } σ2 H2) (hd : ∀ p σ' H', H p = none → Pv p xs.length σ' H' → D.nx σ' H') : tFor (iList K tl) g tb D σ H :=
  htl _ fun p h0 => ⟨p, rfl, ⟨xs, .inl (.inl upd_same)⟩, L2.for_list (K := K) (a := p) (xs := xs) (Pv p) (hp p h0) (fun i σ' H' _ h => .inl (.inl (hl p i σ' H' h0 h))) (fun i x σ' H' hx h => hs p i x σ' H' h0 hx h) (fun σ' H' h => hd p σ' H' h0 h)⟩
theorem cutV_from {xs : List V} {c : Nat} : cutV xs (some (c : Int)) none = xs.drop c := by
  unfold cutV
  rw [HT.sIx_none, HT.sIx_nat]
  by_cases h : c ≤ xs.length
  · rw [Nat.min_eq_left h]
    exact List.take_of_length_le (by rw [List.length_drop]; exact Nat.le_refl _)
  · rw [Nat.min_eq_right (by omega), List.drop_length, List.take_nil, List.drop_eq_nil_of_le (by omega)]
theorem cutV_to {xs : List V} {c : Nat} : cutV xs none (some (c : Int)) = xs.take c := by
  unfold cutV
  rw [HT.sIx_none, HT.sIx_nat, List.drop_zero, Nat.sub_zero]
  by_cases h : c ≤ xs.length
  · rw [Nat.min_eq_left h]
  · rw [Nat.min_eq_right (by omega), List.take_length, List.take_of_length_le (by omega)]
theorem suite_mem {X : Cx} {a : Addr} {oe : Obj} {pn : List (Addr × Obj)} : (a, oe) ∈ (X.suite a ((a, oe) :: pn)).pn := List.mem_cons_self ..
theorem call_isXs {X : Cx} {a : Addr} {oe : Obj} {pn : List (Addr × Obj)} {cls : Value} {d : Option Addr} (hz : L2N.Zn cls d oe) (hf : ∃ vs, oe.data = .fields vs) : CallR (X.suite a ((a, oe) :: pn)) (.builtin "isinstance") (rIsX X.K a cls d) :=
  call_isX (X := X.suite a ((a, oe) :: pn)) suite_mem (L2N.Zn.zc hz) hf
theorem pe_fxs {X : Cx} {a : Addr} {oe : Obj} {pn : List (Addr × Obj)} {cls : Value} {d : Option Addr} {e : Expr} {te : TE} {pos : Pos} {n : Str} (hz : L2N.Zn cls d oe) (hf : ∃ vs, oe.data = .fields vs) (he : PE (X.suite a ((a, oe) :: pn)) e te)
    (hb : attributeBase e n (X.suite a ((a, oe) :: pn)).env (eval e (X.suite a ((a, oe) :: pn)).env) = eval e (X.suite a ((a, oe) :: pn)).env := by rfl) : PE (X.suite a ((a, oe) :: pn)) (.Attribute e n pos) (tFx a cls d n X.K te) :=
  pe_fx (X := X.suite a ((a, oe) :: pn)) suite_mem (L2N.Zn.zc hz) hf he hb
/-- for k in range(j), j maybe less than nothing -/
theorem for_rngT {ta : TA} {g : TG} {tb : TS} {D : Ends} {σ : L2.St} {H : Hp} (j : Int) (hta : ∀ R : List V → Hp → Prop, R [.int j] H → ta σ H R) (h0 : -(2 ^ 62) ≤ j) (h1 : j < 2 ^ 62) (Pv : Nat → L2.St → Hp → Prop) (hp : Pv 0 σ H)
    (hs : ∀ (i : Nat) σ H, (i : Int) < j → Pv i σ H → g (.int (i : Int)) σ H fun σ2 H2 => tb { D with nx := Pv (i + 1), ct := Pv (i + 1), bk := D.nx } σ2 H2) (hd : ∀ σ H, Pv j.toNat σ H → D.nx σ H) : tFor (iRng1 ta) g tb D σ H :=
  hta _ ⟨j, rfl, h0, h1, for_range (lo := 0) (n := j.toNat) Pv hp (fun i σ H hi pv => by
    rw [Int.zero_add]
    exact hs i σ H (by omega) pv) hd⟩

structure Ad where
  C_SaggarError : Addr
  C_NoSymbol : Addr
  C_Symbols : Addr
  f_NoSymbol___init__ : Addr
  d_NoSymbol___init__ : FuncData
  f_Symbols___init__ : Addr
  d_Symbols___init__ : FuncData
  f_Symbols_count : Addr
  d_Symbols_count : FuncData
  f_Symbols_number : Addr
  d_Symbols_number : FuncData
  f_Symbols_knows : Addr
  d_Symbols_knows : FuncData
  f_Symbols_text : Addr
  d_Symbols_text : FuncData
  f_Symbols_texts : Addr
  d_Symbols_texts : FuncData
  f_Symbols_cut : Addr
  d_Symbols_cut : FuncData
  f__law_number : Addr
  d__law_number : FuncData
  f__law_text : Addr
  d__law_text : FuncData
  f__law_is : Addr
  d__law_is : FuncData
  f__law_asked : Addr
  d__law_asked : FuncData
  f__law_agrees : Addr
  d__law_agrees : FuncData
  f__law_deed : Addr
  d__law_deed : FuncData
  f_law : Addr
  d_law : FuncData
  t_LONGEST : Tok
structure Txt (K : PySem.W.Frag) (mg : Str → Option Value) (A : Ad) : Prop where
  m_SaggarError : mg "SaggarError" = some (.ref A.C_SaggarError)
  m_NoSymbol : mg "NoSymbol" = some (.ref A.C_NoSymbol)
  x_NoSymbol : ExF K A.C_NoSymbol A.f_NoSymbol___init__
  no_NoSymbol_limit : PySem.W.findIn K (.ref A.C_NoSymbol) "limit" = some none
  ex_NoSymbol_SaggarError : PySem.W.exmOne K (.ref A.C_NoSymbol) (.ref A.C_SaggarError) = some true
  kit_NoSymbol_NoSymbol : PySem.W.kitOne K (.ref A.C_NoSymbol) (.ref A.C_NoSymbol) = some true
  kit_NoSymbol_ValueError : PySem.W.kitOne K (.ref A.C_NoSymbol) (.type "ValueError") = some true
  m_Symbols : mg "Symbols" = some (.ref A.C_Symbols)
  cl_Symbols : Cls K A.C_Symbols
  mk_Symbols : Mk K A.C_Symbols A.f_Symbols___init__
  no_Symbols_most : NoAttr K A.C_Symbols "most"
  no_Symbols__texts : NoAttr K A.C_Symbols "_texts"
  no_Symbols__numbers : NoAttr K A.C_Symbols "_numbers"
  k_NoSymbol___init__ : PySem.W.keepIn K (.ref A.f_NoSymbol___init__) = true
  F_NoSymbol___init__ : Fun K "__init__" "NoSymbol.__init__" s_NoSymbol___init__ A.f_NoSymbol___init__ A.d_NoSymbol___init__
  b_NoSymbol___init__ : Binds K A.d_NoSymbol___init__ ["self", "limit"] []
  k_Symbols___init__ : PySem.W.keepIn K (.ref A.f_Symbols___init__) = true
  F_Symbols___init__ : FunD K "__init__" "Symbols.__init__" (defArgs s_Symbols___init__) (defBody s_Symbols___init__) (defScope s_Symbols___init__) [.int (100000)] [] A.f_Symbols___init__ A.d_Symbols___init__
  b_Symbols___init__ : Binds K A.d_Symbols___init__ ["self", "most"] []
  bd_Symbols___init__ : ∃ ds, Vals [.int (100000)] ds ∧ Binds K A.d_Symbols___init__ ["self", "most"] ds
  me_Symbols_count : Meth K A.C_Symbols "count" A.f_Symbols_count
  k_Symbols_count : PySem.W.keepIn K (.ref A.f_Symbols_count) = true
  F_Symbols_count : Fun K "count" "Symbols.count" s_Symbols_count A.f_Symbols_count A.d_Symbols_count
  b_Symbols_count : Binds K A.d_Symbols_count ["self"] []
  me_Symbols_number : Meth K A.C_Symbols "number" A.f_Symbols_number
  k_Symbols_number : PySem.W.keepIn K (.ref A.f_Symbols_number) = true
  F_Symbols_number : Fun K "number" "Symbols.number" s_Symbols_number A.f_Symbols_number A.d_Symbols_number
  b_Symbols_number : Binds K A.d_Symbols_number ["self", "text"] []
  me_Symbols_knows : Meth K A.C_Symbols "knows" A.f_Symbols_knows
  k_Symbols_knows : PySem.W.keepIn K (.ref A.f_Symbols_knows) = true
  F_Symbols_knows : Fun K "knows" "Symbols.knows" s_Symbols_knows A.f_Symbols_knows A.d_Symbols_knows
  b_Symbols_knows : Binds K A.d_Symbols_knows ["self", "text"] []
  me_Symbols_text : Meth K A.C_Symbols "text" A.f_Symbols_text
  k_Symbols_text : PySem.W.keepIn K (.ref A.f_Symbols_text) = true
  F_Symbols_text : Fun K "text" "Symbols.text" s_Symbols_text A.f_Symbols_text A.d_Symbols_text
  b_Symbols_text : Binds K A.d_Symbols_text ["self", "number"] []
  me_Symbols_texts : Meth K A.C_Symbols "texts" A.f_Symbols_texts
  k_Symbols_texts : PySem.W.keepIn K (.ref A.f_Symbols_texts) = true
  F_Symbols_texts : Fun K "texts" "Symbols.texts" s_Symbols_texts A.f_Symbols_texts A.d_Symbols_texts
  b_Symbols_texts : Binds K A.d_Symbols_texts ["self"] []
  me_Symbols_cut : Meth K A.C_Symbols "cut" A.f_Symbols_cut
  k_Symbols_cut : PySem.W.keepIn K (.ref A.f_Symbols_cut) = true
  F_Symbols_cut : Fun K "cut" "Symbols.cut" s_Symbols_cut A.f_Symbols_cut A.d_Symbols_cut
  b_Symbols_cut : Binds K A.d_Symbols_cut ["self", "count"] []
  g__law_number : mg "_law_number" = some (.ref A.f__law_number)
  k__law_number : PySem.W.keepIn K (.ref A.f__law_number) = true
  F__law_number : Fun K "_law_number" "_law_number" s__law_number A.f__law_number A.d__law_number
  b__law_number : Binds K A.d__law_number ["cell", "k"] []
  g__law_text : mg "_law_text" = some (.ref A.f__law_text)
  k__law_text : PySem.W.keepIn K (.ref A.f__law_text) = true
  F__law_text : Fun K "_law_text" "_law_text" s__law_text A.f__law_text A.d__law_text
  b__law_text : Binds K A.d__law_text ["x"] []
  g__law_is : mg "_law_is" = some (.ref A.f__law_is)
  k__law_is : PySem.W.keepIn K (.ref A.f__law_is) = true
  F__law_is : Fun K "_law_is" "_law_is" s__law_is A.f__law_is A.d__law_is
  b__law_is : Binds K A.d__law_is ["actual", "due"] []
  g__law_asked : mg "_law_asked" = some (.ref A.f__law_asked)
  k__law_asked : PySem.W.keepIn K (.ref A.f__law_asked) = true
  F__law_asked : Fun K "_law_asked" "_law_asked" s__law_asked A.f__law_asked A.d__law_asked
  b__law_asked : Binds K A.d__law_asked ["symbols", "texts", "most", "text"] []
  g__law_agrees : mg "_law_agrees" = some (.ref A.f__law_agrees)
  k__law_agrees : PySem.W.keepIn K (.ref A.f__law_agrees) = true
  F__law_agrees : Fun K "_law_agrees" "_law_agrees" s__law_agrees A.f__law_agrees A.d__law_agrees
  b__law_agrees : Binds K A.d__law_agrees ["symbols", "texts"] []
  g__law_deed : mg "_law_deed" = some (.ref A.f__law_deed)
  k__law_deed : PySem.W.keepIn K (.ref A.f__law_deed) = true
  F__law_deed : Fun K "_law_deed" "_law_deed" s__law_deed A.f__law_deed A.d__law_deed
  b__law_deed : Binds K A.d__law_deed ["symbols", "texts", "most", "x"] []
  g_law : mg "law" = some (.ref A.f_law)
  k_law : PySem.W.keepIn K (.ref A.f_law) = true
  F_law : Fun K "law" "law" s_law A.f_law A.d_law
  b_law : Binds K A.d_law ["script"] []
  c_LONGEST : mg "LONGEST" = some (.int (4000) A.t_LONGEST)
  z_ValueError : mg "ValueError" = none
  z_bool : mg "bool" = none
  z_int : mg "int" = none
  z_isinstance : mg "isinstance" = none
  z_len : mg "len" = none
  z_list : mg "list" = none
  z_range : mg "range" = none
  z_str : mg "str" = none

theorem exf_NoSymbol {K : PySem.W.Frag} {mg : Str → Option Value} {A : Ad} (T : Txt K mg A) : (∃ x, ExF K A.C_NoSymbol x) = True := tt_true ⟨_, T.x_NoSymbol⟩
section
variable {P : Program} {w : World} {K : PySem.W.Frag} {mg : Str → Option Value} {base : Heap} {A : Ad}
theorem ok_NoSymbol___init__ (T : Txt K mg A) : FnOk P w K mg base CX0 1 A.f_NoSymbol___init__ A.d_NoSymbol___init__ ["self", "limit"] (sp_ex1 A.C_NoSymbol "limit") := by
  refine Fun.ok T.F_NoSymbol___init__ sc_NoSymbol___init__ (fun vs H Q E h => ?_) (fun cdv Ar outer s H vs Q E hr h => ?_)
  · obtain ⟨_, _, rfl, _⟩ := h
    rfl
  · obtain ⟨a, v, rfl, ha, k⟩ := h
    refine ⟨_, pss_one (ps_ost (pv 0) (pv 1)), ?_⟩
    exact ⟨v, rfl, .ref a, rfl, a, A.C_NoSymbol, rfl, T.x_NoSymbol.o, T.no_NoSymbol_limit, .inl ⟨ha, fun dx hdx ne => k dx hdx ne⟩⟩
end

/-- the fields of the table -/
def syF (m : Int) (t d : Addr) : List (Str × V) := [("most", .int m), ("_texts", .ref t), ("_numbers", .ref d)]
theorem syF_most {m t d} : List.lookup ("most" : Str) (syF m t d) = some (V.int m) := rfl
theorem syF_texts {m t d} : List.lookup ("_texts" : Str) (syF m t d) = some (V.ref t) := rfl
theorem syF_numbers {m t d} : List.lookup ("_numbers" : Str) (syF m t d) = some (V.ref d) := rfl
theorem syF_count {m t d} : List.lookup ("count" : Str) (syF m t d) = none := rfl
theorem syF_number {m t d} : List.lookup ("number" : Str) (syF m t d) = none := rfl
theorem syF_knows {m t d} : List.lookup ("knows" : Str) (syF m t d) = none := rfl
theorem syF_text {m t d} : List.lookup ("text" : Str) (syF m t d) = none := rfl
theorem syF_textsM {m t d} : List.lookup ("texts" : Str) (syF m t d) = none := rfl
theorem syF_cut {m t d} : List.lookup ("cut" : Str) (syF m t d) = none := rfl
theorem syF_put {m t d t'} : putF "_texts" (.ref t') (syF m t d) = syF m t' d := rfl
theorem syF_len {m t d} : (syF m t d).length = 3 := rfl
theorem syF_mk0 {m : Int} : putF "most" (.int m) [] = [(("most" : Str), V.int m)] := rfl
theorem syF_mk1 {m : Int} {t : Addr} : putF "_texts" (.ref t) [(("most" : Str), V.int m)] = [(("most" : Str), V.int m), (("_texts" : Str), V.ref t)] := rfl
theorem syF_mk2 {m : Int} {t d : Addr} : putF "_numbers" (.ref d) [(("most" : Str), V.int m), (("_texts" : Str), V.ref t)] = syF m t d := rfl
/-- the dict of the numbers -/
def kvF (n : Nat) : List Str → List (Key × V)
  | [] => []
  | x :: xs => (Sum.inr x, .int (n : Int)) :: kvF (n + 1) xs
theorem kvF_len : ∀ (n : Nat) (xs : List Str), (kvF n xs).length = xs.length
  | _, [] => rfl
  | n, x :: xs => by simp [kvF, kvF_len (n + 1) xs]
theorem kvF_app (y : Str) : ∀ (n : Nat) (xs : List Str), kvF n (xs ++ [y]) = kvF n xs ++ [(Sum.inr y, .int ((n + xs.length : Nat) : Int))]
  | n, [] => rfl
  | n, x :: xs => by
    simp only [List.cons_append, kvF, kvF_app y (n + 1) xs, List.length_cons]
    rw [show n + 1 + xs.length = n + (xs.length + 1) by omega]
theorem kvF_none {y : Str} : ∀ (n : Nat) (xs : List Str), y ∉ xs → valV (kvF n xs) (Sum.inr y) = none
  | _, [], _ => rfl
  | n, x :: xs, h => by
    rw [kvF, valV_neg (fun e => h (by cases e; exact List.mem_cons_self ..))]
    exact kvF_none (n + 1) xs fun m => h (List.mem_cons_of_mem _ m)
theorem kvF_some {y : Str} : ∀ (n i : Nat) (xs : List Str), xs[i]? = some y → xs.Nodup → valV (kvF n xs) (Sum.inr y) = some (.int ((n + i : Nat) : Int))
  | _, i, [], h, _ => by simp at h
  | n, 0, x :: xs, h, _ => by
    simp at h
    subst h
    rw [kvF, valV_pos rfl]
    rfl
  | n, i + 1, x :: xs, h, hn => by
    simp at h
    have hy : y ∈ xs := List.mem_of_getElem? h
    have ne : x ≠ y := fun e => by
      subst e
      exact (List.nodup_cons.mp hn).1 hy
    rw [kvF, valV_neg (fun e => ne (by cases e; rfl)), kvF_some (n + 1) i xs h (List.nodup_cons.mp hn).2]
    rw [show n + 1 + i = n + (i + 1) by omega]
theorem kvF_put {y : Str} {n : Nat} {xs : List Str} (h : y ∉ xs) : putK (kvF n xs) (Sum.inr y) (.int ((n + xs.length : Nat) : Int)) = kvF n (xs ++ [y]) := by
  unfold putK
  rw [valV_any, kvF_none n xs h, if_neg (by decide), kvF_app]
theorem kvF_keys : ∀ (n : Nat) (xs : List Str) (p : Key × V), p ∈ kvF n xs → ∃ x ∈ xs, p.1 = Sum.inr x
  | _, [], _, h => by cases h
  | n, x :: xs, p, h => by
    rw [kvF, List.mem_cons] at h
    rcases h with rfl | h
    · exact ⟨x, List.mem_cons_self .., rfl⟩
    · obtain ⟨z, hz, e⟩ := kvF_keys (n + 1) xs p h
      exact ⟨z, List.mem_cons_of_mem _ hz, e⟩
theorem kvF_split : ∀ (n : Nat) (xs ys : List Str), kvF n (xs ++ ys) = kvF n xs ++ kvF (n + xs.length) ys
  | _, [], _ => rfl
  | n, x :: xs, ys => by
    simp only [List.cons_append, kvF, kvF_split (n + 1) xs ys, List.length_cons]
    rw [show n + 1 + xs.length = n + (xs.length + 1) by omega]
theorem kvF_cut {xs : List Str} {c : Nat} : kvF 0 xs = kvF 0 (xs.take c) ++ kvF (c + 0) ((xs.drop c).drop 0) := by
  by_cases h : c ≤ xs.length
  · have e := kvF_split 0 (xs.take c) (xs.drop c)
    rw [List.take_append_drop, List.length_take, Nat.min_eq_left h, Nat.zero_add] at e
    exact e
  · rw [List.drop_eq_nil_of_le (show xs.length ≤ c by omega), List.take_of_length_le (show xs.length ≤ c by omega)]
    simp [kvF]
theorem kvF_has {L : List (Key × V)} {n : Nat} {y : Str} {r : List Str} : (valV (L ++ kvF n (y :: r)) (Sum.inr y)).isSome = true := by
  rw [← valV_any, List.any_append]
  simp [kvF]
/-- the first c stay, and those of the rest from the j-th on -/
theorem kvF_drop {xs : List Str} {c j : Nat} {y : Str} (hn : xs.Nodup) (hy : (xs.drop c)[j]? = some y) :
    dropK (kvF 0 (xs.take c) ++ kvF (c + j) ((xs.drop c).drop j)) (Sum.inr y) = kvF 0 (xs.take c) ++ kvF (c + (j + 1)) ((xs.drop c).drop (j + 1)) := by
  have hj : j < (xs.drop c).length := (List.getElem?_eq_some_iff.mp hy).1
  have e1 : (xs.drop c).drop j = y :: (xs.drop c).drop (j + 1) := by
    rw [List.drop_eq_getElem_cons hj, (List.getElem?_eq_some_iff.mp hy).2]
  have nd : (xs.take c ++ (xs.drop c).take j ++ (y :: (xs.drop c).drop (j + 1))).Nodup := by
    rw [← e1, List.append_assoc, List.take_append_drop, List.take_append_drop]
    exact hn
  rw [List.append_assoc] at nd
  have n1 := List.nodup_append.mp nd
  have n2 := List.nodup_append.mp n1.2.1
  have n3 := List.nodup_cons.mp n2.2.1
  rw [e1, kvF, show c + j + 1 = c + (j + 1) by omega]
  unfold dropK
  rw [List.filter_append, List.filter_cons, if_neg (by simp)]
  congr 1
  · refine List.filter_eq_self.mpr fun p hp => ?_
    obtain ⟨z, hz, e⟩ := kvF_keys _ _ p hp
    rw [e]
    refine decide_eq_true fun h => ?_
    cases h
    exact n1.2.2 y hz y (List.mem_append_right _ (List.mem_cons_self ..)) rfl
  · refine List.filter_eq_self.mpr fun p hp => ?_
    obtain ⟨z, hz, e⟩ := kvF_keys _ _ p hp
    rw [e]
    refine decide_eq_true fun h => ?_
    cases h
    exact n3.1 hz
theorem kvF_mem {x : Str} {xs : List Str} (h : xs.Nodup) : (valV (kvF 0 xs) (Sum.inr x)).isSome = decide (x ∈ xs) := by
  by_cases e : x ∈ xs
  · obtain ⟨i, hi⟩ := List.mem_iff_getElem?.mp e
    rw [kvF_some 0 i xs hi h, decide_eq_true e] <;> rfl
  · rw [kvF_none 0 xs e, decide_eq_false e] <;> rfl
/-- the table at a: the texts xs; the law's own list at tl: ys; what stays as it is: pr -/
structure Iv (A : Ad) (H : Hp) (a tl : Addr) (m : Int) (xs ys : List Str) (pr : List (Addr × HO)) (dx t d : Addr) : Prop where
  ho : H a = some (.ins A.C_Symbols dx (syF m t d))
  ht : H t = some (.lst (xs.map V.str))
  hd : H d = some (.dK (kvF 0 xs))
  hl : H tl = some (.lst (ys.map V.str))
  nd : xs.Nodup
  hn : xs.length ≤ 1000
  hn2 : ys.length ≤ 1000
  ne : t ≠ tl
  hp : ∀ p ∈ pr, H p.1 = some p.2 ∧ p.1 ≠ a ∧ p.1 ≠ t ∧ p.1 ≠ d ∧ p.1 ≠ tl
theorem Iv.same {A H H' a tl m xs ys pr dx t d} (I : Iv A H a tl m xs ys pr dx t d) (s : Same H H') : Iv A H' a tl m xs ys pr dx t d :=
  ⟨s _ _ I.ho, s _ _ I.ht, s _ _ I.hd, s _ _ I.hl, I.nd, I.hn, I.hn2, I.ne, fun p hp => ⟨s _ _ (I.hp p hp).1, (I.hp p hp).2⟩⟩
theorem ne_ho {H : Hp} {a b : Addr} {x y : HO} (h1 : H a = some x) (h2 : H b = some y) (h : x ≠ y) : a ≠ b := fun e => by
  subst e
  rw [h1] at h2
  exact h (Option.some.inj h2)
theorem Iv.law {A H a tl m xs ys pr dx t d} (I : Iv A H a tl m xs ys pr dx t d) (zs : List Str) (hz : zs.length ≤ 1000) : Iv A (upd H tl (.lst (zs.map V.str))) a tl m xs zs pr dx t d :=
  ⟨by rw [upd_ne (ne_ho I.ho I.hl (by simp))]; exact I.ho, by rw [upd_ne I.ne]; exact I.ht, by rw [upd_ne (ne_ho I.hd I.hl (by simp))]; exact I.hd, upd_same, I.nd, I.hn, hz, I.ne,
    fun p hp => ⟨by rw [upd_ne (I.hp p hp).2.2.2.2]; exact (I.hp p hp).1, (I.hp p hp).2⟩⟩
theorem Iv.add {A H a tl m xs ys pr dx t d y} (I : Iv A H a tl m xs ys pr dx t d) (hy : y ∉ xs) (hl : xs.length < 1000) : Iv A (upd (upd H d (.dK (kvF 0 (xs ++ [y])))) t (.lst ((xs ++ [y]).map V.str))) a tl m (xs ++ [y]) ys pr dx t d := by
  have e1 : a ≠ t := ne_ho I.ho I.ht (by simp)
  have e2 : a ≠ d := ne_ho I.ho I.hd (by simp)
  have e3 : d ≠ t := ne_ho I.hd I.ht (by simp)
  have e4 : tl ≠ d := ne_ho I.hl I.hd (by simp)
  refine ⟨by rw [upd_ne e1, upd_ne e2]; exact I.ho, upd_same, by rw [upd_ne e3, upd_same], by rw [upd_ne (Ne.symm I.ne), upd_ne e4]; exact I.hl, ?_, by rw [List.length_append]; exact hl, I.hn2, I.ne, fun p hp => ⟨?_, (I.hp p hp).2⟩⟩
  · refine List.nodup_append.mpr ⟨I.nd, by simp, fun x hx z hz => ?_⟩
    rw [List.mem_singleton] at hz
    subst hz
    exact fun e => hy (e ▸ hx)
  · obtain ⟨h, _, p1, p2, _⟩ := I.hp p hp
    rw [upd_ne p1, upd_ne p2]
    exact h

def sp_mk (C : Addr) : Sp := fun vs H Q _ => ∃ (a dx : Addr) (m : Int), vs = [.ref a, .int m] ∧ H a = some (.ins C dx []) ∧ ∀ t d H', H t = none → H d = none → H' a = some (.ins C dx (syF m t d)) → H' t = some (.lst []) → H' d = some (.dK []) → (∀ b, b ≠ a → b ≠ t → b ≠ d → H' b = H b) → Q .non H'
theorem sp_mk_len {C vs H Q E} (h : sp_mk C vs H Q E) : vs.length = (["self", "most"] : List Str).length := by
  obtain ⟨_, _, _, rfl, _⟩ := h
  rfl
section
variable {P : Program} {w : World} {K : PySem.W.Frag} {mg : Str → Option Value} {base : Heap} {A : Ad}
theorem ok_Symbols___init__ (T : Txt K mg A) : FnOk P w K mg base CX0 1 A.f_Symbols___init__ A.d_Symbols___init__ ["self", "most"] (sp_mk A.C_Symbols) := by
  refine FunD.ok T.F_Symbols___init__ sc_Symbols___init__ (fun vs H Q E h => ?_) (fun cdv Ar outer s H vs Q E hr h => ?_)
  · exact sp_mk_len h
  · have hu := hu_of hr
    refine ⟨_, (pss_cons (ps_fld (pv 0) (pv 1) rfl)
    (pss_cons (ps_fld (pv 0) (pe_lst pa_nil) rfl)
    (pss_one (ps_fld (pv 0) pe_dnewK rfl)))), ?_⟩
    obtain ⟨a, dx, m, rfl, ha, k⟩ := h
    simp (config := { maxSteps := 4000000 }) only [tSeq, tNext, tDrop, tRet, tRetN, tIfS, tAsg, tTest, tAnd, tOr, tNot, tAndV, tOrV, tNotV, tIf, tOp, tUn, tVar, tC, tCB, tCons, tNil, tCall, tPart, tNoPart, tM0, tM1, tTup, tLst, tB, tIsN, tNotN, rI0, rI, rU, rEq, rNe, rAdd, gName, gTup, gCons, gNil, gSub, rSetL, rIxL, rIxT, rIxS, L2.start,
      List.map_cons, List.map_nil, List.cons_append, List.nil_append, List.append_nil, List.length_cons, List.length_nil, List.replicate, List.getElem?_cons_zero, List.getElem?_cons_succ, List.set_cons_zero, List.set_cons_succ, Nat.reduceAdd, Nat.reduceSub, Nat.sub_self, Nat.zero_add,
      Option.some.injEq, V.int.injEq, V.str.injEq, V.bl.injEq, V.ref.injEq, V.ty.injEq, List.cons.injEq, and_true, true_and, exists_eq_left, exists_eq_left', exists_eq_right, exists_and_left, exists_and_right, exists_const, decide_eq_true_eq, decide_eq_false_iff_not, if_true, if_false, reduceIte, Bool.false_eq_true, Bool.not_eq_true', sc_ii, sc_ss, sc_bb, str1, cx_K, lstAt, rIxM, rSetM, rLenM, atI_0, atI_1, atI_2, atI_3, setI_0, setI_1, setI_2, setI_3, upd_same, upd_upd, ite_true, ite_false, exists_eq', eq_self, and_assoc, rIsS, isTy_bb, isTy_bi, isTy_ib, isTy_ii, isTy_ss, isTy_nb, isTy_ni, Bool.not_true, Bool.not_false, not_true_eq_false, not_false_eq_true, tChain, tRz1, tRz2, rIsX, tFx, tMethE, tCallS, tCallZ, tMeth, tMake, tFld, sFld, HO.ins.injEq, HO.lst.injEq, HO.dK.injEq, HO.tup.injEq, dcAt, rDInM, rDGetM, rDSetM, rDLenM, keyOf_int, keyOf_str, rIsBM, plainV_b, plainV_i, plainV_n, plainV_s, rInM, tBMM, tBM0M, tSl, rSlM, rAppend, rPop, rClear, wAs, reduceCtorEq, false_implies, true_implies, implies_true, forall_const, cxH_K, clsV_ref, clsV_ty, HO.xd.injEq, Value.ref.injEq, lkc, lkn, pfn, pfc, List.map_nil, ha, T.cl_Symbols, T.no_Symbols_most, T.no_Symbols__texts, T.no_Symbols__numbers, syF_mk0, syF_mk1, syF_mk2]
    refine ⟨by decide, Nat.zero_le _, fun p hp => ?_⟩
    have ap : a ≠ p := ne_of_none upd_same hp
    have hp0 : H p = none := by
      rw [upd_ne (Ne.symm ap)] at hp
      exact hp
    refine ⟨_, _, _, by rw [upd_ne ap, upd_same], T.cl_Symbols, T.no_Symbols__texts, by show 1 < 1000; decide, ?_⟩
    rw [syF_mk1]
    intro d hd
    have ad : a ≠ d := ne_of_none upd_same hd
    have pd : p ≠ d := ne_of_none (by rw [upd_ne (Ne.symm ap), upd_same]) hd
    have hd0 : H d = none := by
      rw [upd_ne (Ne.symm ad), upd_ne (Ne.symm pd), upd_ne (Ne.symm ad)] at hd
      exact hd
    refine ⟨_, _, _, by rw [upd_ne ad, upd_same], T.cl_Symbols, T.no_Symbols__numbers, by show 2 < 1000; decide, ?_⟩
    rw [syF_mk2]
    refine k p d _ hp0 hd0 upd_same ?_ ?_ ?_
    · rw [upd_ne (Ne.symm ap), upd_ne pd, upd_ne (Ne.symm ap), upd_same]
    · rw [upd_ne (Ne.symm ad), upd_same]
    · intro b b1 b2 b3
      rw [upd_ne b1, upd_ne b3, upd_ne b1, upd_ne b2, upd_ne b1]
end

def sp_count (A : Ad) : Sp := fun vs H Q _ => ∃ a tl m xs ys pr dx t d, vs = [.ref a] ∧ Iv A H a tl m xs ys pr dx t d ∧ Q (.int xs.length) H
theorem sp_count_len {A vs H Q E} (h : sp_count A vs H Q E) : vs.length = (["self"] : List Str).length := by
  obtain ⟨_, _, _, _, _, _, _, _, _, rfl, _⟩ := h
  rfl
section
variable {P : Program} {w : World} {K : PySem.W.Frag} {mg : Str → Option Value} {base : Heap} {A : Ad}
theorem ok_Symbols_count (T : Txt K mg A) : FnOk P w K mg base CX0 1 A.f_Symbols_count A.d_Symbols_count ["self"] (sp_count A) := by
  refine Fun.ok T.F_Symbols_count sc_Symbols_count (fun vs H Q E h => ?_) (fun cdv Ar outer s H vs Q E hr h => ?_)
  · exact sp_count_len h
  · have hu := hu_of hr
    refine ⟨_, (pss_one (ps_ret (pe_callB call_lenM (by rfl) T.z_len PySem.boot_len (pa_cons (pe_fld (pv 0) rfl) pa_nil)))), ?_⟩
    obtain ⟨a, tl, m, xs, ys, pr, dx, t, d, rfl, I, k⟩ := h
    simp (config := { maxSteps := 4000000 }) only [tSeq, tNext, tDrop, tRet, tRetN, tIfS, tAsg, tTest, tAnd, tOr, tNot, tAndV, tOrV, tNotV, tIf, tOp, tUn, tVar, tC, tCB, tCons, tNil, tCall, tPart, tNoPart, tM0, tM1, tTup, tLst, tB, tIsN, tNotN, rI0, rI, rU, rEq, rNe, rAdd, gName, gTup, gCons, gNil, gSub, rSetL, rIxL, rIxT, rIxS, L2.start,
      List.map_cons, List.map_nil, List.cons_append, List.nil_append, List.append_nil, List.length_cons, List.length_nil, List.replicate, List.getElem?_cons_zero, List.getElem?_cons_succ, List.set_cons_zero, List.set_cons_succ, Nat.reduceAdd, Nat.reduceSub, Nat.sub_self, Nat.zero_add,
      Option.some.injEq, V.int.injEq, V.str.injEq, V.bl.injEq, V.ref.injEq, V.ty.injEq, List.cons.injEq, and_true, true_and, exists_eq_left, exists_eq_left', exists_eq_right, exists_and_left, exists_and_right, exists_const, decide_eq_true_eq, decide_eq_false_iff_not, if_true, if_false, reduceIte, Bool.false_eq_true, Bool.not_eq_true', sc_ii, sc_ss, sc_bb, str1, cx_K, lstAt, rIxM, rSetM, rLenM, atI_0, atI_1, atI_2, atI_3, setI_0, setI_1, setI_2, setI_3, upd_same, upd_upd, ite_true, ite_false, exists_eq', eq_self, and_assoc, rIsS, isTy_bb, isTy_bi, isTy_ib, isTy_ii, isTy_ss, isTy_nb, isTy_ni, Bool.not_true, Bool.not_false, not_true_eq_false, not_false_eq_true, tChain, tRz1, tRz2, rIsX, tFx, tMethE, tCallS, tCallZ, tMeth, tMake, tFld, sFld, HO.ins.injEq, HO.lst.injEq, HO.dK.injEq, HO.tup.injEq, dcAt, rDInM, rDGetM, rDSetM, rDLenM, keyOf_int, keyOf_str, rIsBM, plainV_b, plainV_i, plainV_n, plainV_s, rInM, tBMM, tBM0M, tSl, rSlM, rAppend, rPop, rClear, wAs, reduceCtorEq, false_implies, true_implies, implies_true, forall_const, cxH_K, clsV_ref, clsV_ty, HO.xd.injEq, Value.ref.injEq, lkc, lkn, pfn, pfc, List.map_nil, exf_NoSymbol T, T.no_NoSymbol_limit, T.ex_NoSymbol_SaggarError, T.kit_NoSymbol_NoSymbol, T.kit_NoSymbol_ValueError, I.ho, I.ht, I.hd, I.hl, T.cl_Symbols, T.no_Symbols_most, T.no_Symbols__texts, T.no_Symbols__numbers, syF_most, syF_texts, syF_numbers, syF_count, syF_number, syF_knows, syF_text, syF_textsM, syF_cut, syF_put, syF_len, List.length_map]
    exact k
end

def sp_number (A : Ad) : Sp := fun vs H Q E => ∃ a tl m xs ys pr dx t d x, vs = [.ref a, .str x] ∧ Iv A H a tl m xs ys pr dx t d ∧ xs.length < 1000 ∧ (x ∉ xs → x.length ≤ 100000) ∧ (∀ i : Nat, xs[i]? = some x → Q (.int i) H) ∧
  (x ∉ xs → (4000 < x.length → ∀ dd, H dd = none → E (.ref A.C_NoSymbol) (some dd) (upd H dd (.xd [("limit", .int 4000)]))) ∧ (x.length ≤ 4000 → m ≤ xs.length → ∀ dd, H dd = none → E (.ref A.C_NoSymbol) (some dd) (upd H dd (.xd [("limit", .int m)]))) ∧
    (x.length ≤ 4000 → (xs.length : Int) < m → ∀ H', Iv A H' a tl m (xs ++ [x]) ys pr dx t d → Q (.int xs.length) H'))
theorem sp_number_len {A vs H Q E} (h : sp_number A vs H Q E) : vs.length = (["self", "text"] : List Str).length := by
  obtain ⟨_, _, _, _, _, _, _, _, _, _, rfl, _⟩ := h
  rfl
section
variable {P : Program} {w : World} {K : PySem.W.Frag} {mg : Str → Option Value} {base : Heap} {A : Ad}
theorem ok_Symbols_number (T : Txt K mg A) : FnOk P w K mg base (L2N.CX P w) 3 A.f_Symbols_number A.d_Symbols_number ["self", "text"] (sp_number A) := by
  refine okN T.F_Symbols_number sc_Symbols_number (fun vs H Q E h => ?_) (fun cdv Ar outer s H vs Q E hr h => ?_)
  · exact sp_number_len h
  · have hu := hu_of hr
    refine ⟨_, (pss_cons (ps_if (pt_cmpR (op_dinM hu) (pv 1) (pe_fld (pv 0) rfl) (by rfl)) (pss_one (ps_ret (pe_ix (ix_dictM hu) (pe_fld (pv 0) rfl) (pv 1) (fun _ _ => rfl)))) pss_nil)
    (pss_cons (ps_if (pt_cmpR op_gt (pe_callB call_len_str (by rfl) T.z_len PySem.boot_len (pa_cons (pv 1) pa_nil)) (pe_glob (v := .int (4000)) (by rfl) T.c_LONGEST ⟨_, rfl⟩) (nomark _)) (pss_one (ps_rz1 rfl T.x_NoSymbol (ok_NoSymbol___init__ T) (hr.mono (by decide)) T.b_NoSymbol___init__ (L2N.takes_of rfl rfl rfl rfl) (by rfl) T.m_NoSymbol (pa_cons (pe_glob (v := .int (4000)) (by rfl) T.c_LONGEST ⟨_, rfl⟩) pa_nil))) pss_nil)
    (pss_cons (ps_if (pt_cmpR op_ge (pe_meth0 (pv 0) T.cl_Symbols T.me_Symbols_count (ok_Symbols_count T) (hr.mono (by decide)) T.b_Symbols_count .nil pass0) (pe_fld (pv 0) rfl) (nomark _)) (pss_one (ps_rz1 rfl T.x_NoSymbol (ok_NoSymbol___init__ T) (hr.mono (by decide)) T.b_NoSymbol___init__ (L2N.takes_of rfl rfl rfl rfl) (by rfl) T.m_NoSymbol (pa_cons (pe_fld (pv 0) rfl) pa_nil))) pss_nil)
    (pss_cons (ps_asg (pe_meth0 (pv 0) T.cl_Symbols T.me_Symbols_count (ok_Symbols_count T) (hr.mono (by decide)) T.b_Symbols_count .nil pass0) (pg_sub (pe_fld (pv 0) rfl) (pv 1) (set_dictM hu)))
    (pss_cons (ps_expr (pe_bmM PySem.F.slot_list_append PySem.F.type_list_append mt_append (pe_fld (pv 0) rfl) (pa_cons (pv 1) pa_nil)))
    (pss_one (ps_ret (pe_ix (ix_dictM hu) (pe_fld (pv 0) rfl) (pv 1) (fun _ _ => rfl))))))))), ?_⟩
    obtain ⟨a, tl, m, xs, ys, pr, dx, t, d, x, rfl, I, hx, hxl, k1, k2⟩ := h
    simp (config := { maxSteps := 4000000 }) only [tSeq, tNext, tDrop, tRet, tRetN, tIfS, tAsg, tTest, tAnd, tOr, tNot, tAndV, tOrV, tNotV, tIf, tOp, tUn, tVar, tC, tCB, tCons, tNil, tCall, tPart, tNoPart, tM0, tM1, tTup, tLst, tB, tIsN, tNotN, rI0, rI, rU, rEq, rNe, rAdd, gName, gTup, gCons, gNil, gSub, rSetL, rIxL, rIxT, rIxS, L2.start,
      List.map_cons, List.map_nil, List.cons_append, List.nil_append, List.append_nil, List.length_cons, List.length_nil, List.replicate, List.getElem?_cons_zero, List.getElem?_cons_succ, List.set_cons_zero, List.set_cons_succ, Nat.reduceAdd, Nat.reduceSub, Nat.sub_self, Nat.zero_add,
      Option.some.injEq, V.int.injEq, V.str.injEq, V.bl.injEq, V.ref.injEq, V.ty.injEq, List.cons.injEq, and_true, true_and, exists_eq_left, exists_eq_left', exists_eq_right, exists_and_left, exists_and_right, exists_const, decide_eq_true_eq, decide_eq_false_iff_not, if_true, if_false, reduceIte, Bool.false_eq_true, Bool.not_eq_true', sc_ii, sc_ss, sc_bb, str1, cx_K, lstAt, rIxM, rSetM, rLenM, atI_0, atI_1, atI_2, atI_3, setI_0, setI_1, setI_2, setI_3, upd_same, upd_upd, ite_true, ite_false, exists_eq', eq_self, and_assoc, rIsS, isTy_bb, isTy_bi, isTy_ib, isTy_ii, isTy_ss, isTy_nb, isTy_ni, Bool.not_true, Bool.not_false, not_true_eq_false, not_false_eq_true, tChain, tRz1, tRz2, rIsX, tFx, tMethE, tCallS, tCallZ, tMeth, tMake, tFld, sFld, HO.ins.injEq, HO.lst.injEq, HO.dK.injEq, HO.tup.injEq, dcAt, rDInM, rDGetM, rDSetM, rDLenM, keyOf_int, keyOf_str, rIsBM, plainV_b, plainV_i, plainV_n, plainV_s, rInM, tBMM, tBM0M, tSl, rSlM, rAppend, rPop, rClear, wAs, reduceCtorEq, false_implies, true_implies, implies_true, forall_const, cxH_K, clsV_ref, clsV_ty, HO.xd.injEq, Value.ref.injEq, lkc, lkn, pfn, pfc, List.map_nil, exf_NoSymbol T, T.no_NoSymbol_limit, T.ex_NoSymbol_SaggarError, T.kit_NoSymbol_NoSymbol, T.kit_NoSymbol_ValueError, I.ho, I.ht, I.hd, I.hl, T.cl_Symbols, T.no_Symbols_most, T.no_Symbols__texts, T.no_Symbols__numbers, syF_most, syF_texts, syF_numbers, syF_count, syF_number, syF_knows, syF_text, syF_textsM, syF_cut, syF_put, syF_len, List.length_map]
    refine ite2 (fun h => ?_) (fun h => ?_)
    · have hx' : x ∈ xs := of_decide_eq_true (by rw [← kvF_mem I.nd]; exact h)
      obtain ⟨i, hi⟩ := List.mem_iff_getElem?.mp hx'
      exact ⟨_, kvF_some 0 i xs hi I.nd, by rw [Nat.zero_add]; exact k1 i hi⟩
    · have hx' : x ∉ xs := fun e => h (by rw [kvF_mem I.nd]; exact decide_eq_true e)
      obtain ⟨k3, k4, k5⟩ := k2 hx'
      refine ⟨Nat.le_trans (hxl hx') (by decide), ite2 (fun c => ?_) (fun c => ?_)⟩
      · exact k3 (by omega)
      · refine ⟨a, tl, m, xs, ys, pr, dx, t, d, rfl, I, ?_⟩
        simp (config := { maxSteps := 4000000 }) only [tSeq, tNext, tDrop, tRet, tRetN, tIfS, tAsg, tTest, tAnd, tOr, tNot, tAndV, tOrV, tNotV, tIf, tOp, tUn, tVar, tC, tCB, tCons, tNil, tCall, tPart, tNoPart, tM0, tM1, tTup, tLst, tB, tIsN, tNotN, rI0, rI, rU, rEq, rNe, rAdd, gName, gTup, gCons, gNil, gSub, rSetL, rIxL, rIxT, rIxS, L2.start,
      List.map_cons, List.map_nil, List.cons_append, List.nil_append, List.append_nil, List.length_cons, List.length_nil, List.replicate, List.getElem?_cons_zero, List.getElem?_cons_succ, List.set_cons_zero, List.set_cons_succ, Nat.reduceAdd, Nat.reduceSub, Nat.sub_self, Nat.zero_add,
      Option.some.injEq, V.int.injEq, V.str.injEq, V.bl.injEq, V.ref.injEq, V.ty.injEq, List.cons.injEq, and_true, true_and, exists_eq_left, exists_eq_left', exists_eq_right, exists_and_left, exists_and_right, exists_const, decide_eq_true_eq, decide_eq_false_iff_not, if_true, if_false, reduceIte, Bool.false_eq_true, Bool.not_eq_true', sc_ii, sc_ss, sc_bb, str1, cx_K, lstAt, rIxM, rSetM, rLenM, atI_0, atI_1, atI_2, atI_3, setI_0, setI_1, setI_2, setI_3, upd_same, upd_upd, ite_true, ite_false, exists_eq', eq_self, and_assoc, rIsS, isTy_bb, isTy_bi, isTy_ib, isTy_ii, isTy_ss, isTy_nb, isTy_ni, Bool.not_true, Bool.not_false, not_true_eq_false, not_false_eq_true, tChain, tRz1, tRz2, rIsX, tFx, tMethE, tCallS, tCallZ, tMeth, tMake, tFld, sFld, HO.ins.injEq, HO.lst.injEq, HO.dK.injEq, HO.tup.injEq, dcAt, rDInM, rDGetM, rDSetM, rDLenM, keyOf_int, keyOf_str, rIsBM, plainV_b, plainV_i, plainV_n, plainV_s, rInM, tBMM, tBM0M, tSl, rSlM, rAppend, rPop, rClear, wAs, reduceCtorEq, false_implies, true_implies, implies_true, forall_const, cxH_K, clsV_ref, clsV_ty, HO.xd.injEq, Value.ref.injEq, lkc, lkn, pfn, pfc, List.map_nil, exf_NoSymbol T, T.no_NoSymbol_limit, T.ex_NoSymbol_SaggarError, T.kit_NoSymbol_NoSymbol, T.kit_NoSymbol_ValueError, I.ho, I.ht, I.hd, I.hl, T.cl_Symbols, T.no_Symbols_most, T.no_Symbols__texts, T.no_Symbols__numbers, syF_most, syF_texts, syF_numbers, syF_count, syF_number, syF_knows, syF_text, syF_textsM, syF_cut, syF_put, syF_len, List.length_map]
        refine ite2 (fun c2 => ?_) (fun c2 => ?_)
        · exact k4 (by omega) (by omega)
        · refine ⟨a, tl, m, xs, ys, pr, dx, t, d, rfl, I, ?_⟩
          have e1 : a ≠ d := ne_ho I.ho I.hd (by simp)
          have e2 : t ≠ d := ne_ho I.ht I.hd (by simp)
          have e3 : a ≠ t := ne_ho I.ho I.ht (by simp)
          have kp : putK (kvF 0 xs) (Sum.inr x) (.int (xs.length : Int)) = kvF 0 (xs ++ [x]) := by
            have := kvF_put (n := 0) hx'
            rw [Nat.zero_add] at this
            exact this
          simp (config := { maxSteps := 4000000 }) only [tSeq, tNext, tDrop, tRet, tRetN, tIfS, tAsg, tTest, tAnd, tOr, tNot, tAndV, tOrV, tNotV, tIf, tOp, tUn, tVar, tC, tCB, tCons, tNil, tCall, tPart, tNoPart, tM0, tM1, tTup, tLst, tB, tIsN, tNotN, rI0, rI, rU, rEq, rNe, rAdd, gName, gTup, gCons, gNil, gSub, rSetL, rIxL, rIxT, rIxS, L2.start,
      List.map_cons, List.map_nil, List.cons_append, List.nil_append, List.append_nil, List.length_cons, List.length_nil, List.replicate, List.getElem?_cons_zero, List.getElem?_cons_succ, List.set_cons_zero, List.set_cons_succ, Nat.reduceAdd, Nat.reduceSub, Nat.sub_self, Nat.zero_add,
      Option.some.injEq, V.int.injEq, V.str.injEq, V.bl.injEq, V.ref.injEq, V.ty.injEq, List.cons.injEq, and_true, true_and, exists_eq_left, exists_eq_left', exists_eq_right, exists_and_left, exists_and_right, exists_const, decide_eq_true_eq, decide_eq_false_iff_not, if_true, if_false, reduceIte, Bool.false_eq_true, Bool.not_eq_true', sc_ii, sc_ss, sc_bb, str1, cx_K, lstAt, rIxM, rSetM, rLenM, atI_0, atI_1, atI_2, atI_3, setI_0, setI_1, setI_2, setI_3, upd_same, upd_upd, ite_true, ite_false, exists_eq', eq_self, and_assoc, rIsS, isTy_bb, isTy_bi, isTy_ib, isTy_ii, isTy_ss, isTy_nb, isTy_ni, Bool.not_true, Bool.not_false, not_true_eq_false, not_false_eq_true, tChain, tRz1, tRz2, rIsX, tFx, tMethE, tCallS, tCallZ, tMeth, tMake, tFld, sFld, HO.ins.injEq, HO.lst.injEq, HO.dK.injEq, HO.tup.injEq, dcAt, rDInM, rDGetM, rDSetM, rDLenM, keyOf_int, keyOf_str, rIsBM, plainV_b, plainV_i, plainV_n, plainV_s, rInM, tBMM, tBM0M, tSl, rSlM, rAppend, rPop, rClear, wAs, reduceCtorEq, false_implies, true_implies, implies_true, forall_const, cxH_K, clsV_ref, clsV_ty, HO.xd.injEq, Value.ref.injEq, lkc, lkn, pfn, pfc, List.map_nil, exf_NoSymbol T, T.no_NoSymbol_limit, T.ex_NoSymbol_SaggarError, T.kit_NoSymbol_NoSymbol, T.kit_NoSymbol_ValueError, I.ho, I.ht, I.hd, I.hl, T.cl_Symbols, T.no_Symbols_most, T.no_Symbols__texts, T.no_Symbols__numbers, syF_most, syF_texts, syF_numbers, syF_count, syF_number, syF_knows, syF_text, syF_textsM, syF_cut, syF_put, syF_len, List.length_map]
          refine ⟨by rw [kvF_len]; exact Nat.lt_of_lt_of_le hx (by decide), ?_⟩
          rw [kp]
          have f1 : upd H d (.dK (kvF 0 (xs ++ [x]))) a = some (.ins A.C_Symbols dx (syF m t d)) := by rw [upd_ne e1]; exact I.ho
          have f2 : upd H d (.dK (kvF 0 (xs ++ [x]))) t = some (.lst (xs.map V.str)) := by rw [upd_ne e2]; exact I.ht
          simp (config := { maxSteps := 4000000 }) only [tSeq, tNext, tDrop, tRet, tRetN, tIfS, tAsg, tTest, tAnd, tOr, tNot, tAndV, tOrV, tNotV, tIf, tOp, tUn, tVar, tC, tCB, tCons, tNil, tCall, tPart, tNoPart, tM0, tM1, tTup, tLst, tB, tIsN, tNotN, rI0, rI, rU, rEq, rNe, rAdd, gName, gTup, gCons, gNil, gSub, rSetL, rIxL, rIxT, rIxS, L2.start,
      List.map_cons, List.map_nil, List.cons_append, List.nil_append, List.append_nil, List.length_cons, List.length_nil, List.replicate, List.getElem?_cons_zero, List.getElem?_cons_succ, List.set_cons_zero, List.set_cons_succ, Nat.reduceAdd, Nat.reduceSub, Nat.sub_self, Nat.zero_add,
      Option.some.injEq, V.int.injEq, V.str.injEq, V.bl.injEq, V.ref.injEq, V.ty.injEq, List.cons.injEq, and_true, true_and, exists_eq_left, exists_eq_left', exists_eq_right, exists_and_left, exists_and_right, exists_const, decide_eq_true_eq, decide_eq_false_iff_not, if_true, if_false, reduceIte, Bool.false_eq_true, Bool.not_eq_true', sc_ii, sc_ss, sc_bb, str1, cx_K, lstAt, rIxM, rSetM, rLenM, atI_0, atI_1, atI_2, atI_3, setI_0, setI_1, setI_2, setI_3, upd_same, upd_upd, ite_true, ite_false, exists_eq', eq_self, and_assoc, rIsS, isTy_bb, isTy_bi, isTy_ib, isTy_ii, isTy_ss, isTy_nb, isTy_ni, Bool.not_true, Bool.not_false, not_true_eq_false, not_false_eq_true, tChain, tRz1, tRz2, rIsX, tFx, tMethE, tCallS, tCallZ, tMeth, tMake, tFld, sFld, HO.ins.injEq, HO.lst.injEq, HO.dK.injEq, HO.tup.injEq, dcAt, rDInM, rDGetM, rDSetM, rDLenM, keyOf_int, keyOf_str, rIsBM, plainV_b, plainV_i, plainV_n, plainV_s, rInM, tBMM, tBM0M, tSl, rSlM, rAppend, rPop, rClear, wAs, reduceCtorEq, false_implies, true_implies, implies_true, forall_const, cxH_K, clsV_ref, clsV_ty, HO.xd.injEq, Value.ref.injEq, lkc, lkn, pfn, pfc, List.map_nil, f1, f2, T.cl_Symbols, T.no_Symbols_most, T.no_Symbols__texts, T.no_Symbols__numbers, syF_most, syF_texts, syF_numbers, syF_count, syF_number, syF_knows, syF_text, syF_textsM, syF_cut, syF_put, syF_len, List.length_map]
          have J := I.add hx' hx
          have ml : xs.map V.str ++ [V.str x] = (xs ++ [x]).map V.str := by
            rw [List.map_append]
            rfl
          rw [ml]
          refine ⟨Nat.lt_of_lt_of_le hx (by decide), _, _, _, J.ho, T.cl_Symbols, T.no_Symbols__numbers, _, syF_numbers, d, rfl, ?_⟩
          simp only [J.hd]
          refine ⟨_, kvF_some 0 xs.length (xs ++ [x]) (by simp) J.nd, ?_⟩
          rw [Nat.zero_add]
          exact k5 (by omega) (by omega) _ J
end

def sp_knows (A : Ad) : Sp := fun vs H Q _ => ∃ a tl m xs ys pr dx t d x, vs = [.ref a, .str x] ∧ Iv A H a tl m xs ys pr dx t d ∧ Q (.bl (decide (x ∈ xs))) H
theorem sp_knows_len {A vs H Q E} (h : sp_knows A vs H Q E) : vs.length = (["self", "text"] : List Str).length := by
  obtain ⟨_, _, _, _, _, _, _, _, _, _, rfl, _⟩ := h
  rfl
section
variable {P : Program} {w : World} {K : PySem.W.Frag} {mg : Str → Option Value} {base : Heap} {A : Ad}
theorem ok_Symbols_knows (T : Txt K mg A) : FnOk P w K mg base CX0 1 A.f_Symbols_knows A.d_Symbols_knows ["self", "text"] (sp_knows A) := by
  refine Fun.ok T.F_Symbols_knows sc_Symbols_knows (fun vs H Q E h => ?_) (fun cdv Ar outer s H vs Q E hr h => ?_)
  · exact sp_knows_len h
  · have hu := hu_of hr
    refine ⟨_, (pss_one (ps_ret (pe_cmpR (op_dinM hu) (pv 1) (pe_fld (pv 0) rfl) (by rfl)))), ?_⟩
    obtain ⟨a, tl, m, xs, ys, pr, dx, t, d, x, rfl, I, k⟩ := h
    simp (config := { maxSteps := 4000000 }) only [tSeq, tNext, tDrop, tRet, tRetN, tIfS, tAsg, tTest, tAnd, tOr, tNot, tAndV, tOrV, tNotV, tIf, tOp, tUn, tVar, tC, tCB, tCons, tNil, tCall, tPart, tNoPart, tM0, tM1, tTup, tLst, tB, tIsN, tNotN, rI0, rI, rU, rEq, rNe, rAdd, gName, gTup, gCons, gNil, gSub, rSetL, rIxL, rIxT, rIxS, L2.start,
      List.map_cons, List.map_nil, List.cons_append, List.nil_append, List.append_nil, List.length_cons, List.length_nil, List.replicate, List.getElem?_cons_zero, List.getElem?_cons_succ, List.set_cons_zero, List.set_cons_succ, Nat.reduceAdd, Nat.reduceSub, Nat.sub_self, Nat.zero_add,
      Option.some.injEq, V.int.injEq, V.str.injEq, V.bl.injEq, V.ref.injEq, V.ty.injEq, List.cons.injEq, and_true, true_and, exists_eq_left, exists_eq_left', exists_eq_right, exists_and_left, exists_and_right, exists_const, decide_eq_true_eq, decide_eq_false_iff_not, if_true, if_false, reduceIte, Bool.false_eq_true, Bool.not_eq_true', sc_ii, sc_ss, sc_bb, str1, cx_K, lstAt, rIxM, rSetM, rLenM, atI_0, atI_1, atI_2, atI_3, setI_0, setI_1, setI_2, setI_3, upd_same, upd_upd, ite_true, ite_false, exists_eq', eq_self, and_assoc, rIsS, isTy_bb, isTy_bi, isTy_ib, isTy_ii, isTy_ss, isTy_nb, isTy_ni, Bool.not_true, Bool.not_false, not_true_eq_false, not_false_eq_true, tChain, tRz1, tRz2, rIsX, tFx, tMethE, tCallS, tCallZ, tMeth, tMake, tFld, sFld, HO.ins.injEq, HO.lst.injEq, HO.dK.injEq, HO.tup.injEq, dcAt, rDInM, rDGetM, rDSetM, rDLenM, keyOf_int, keyOf_str, rIsBM, plainV_b, plainV_i, plainV_n, plainV_s, rInM, tBMM, tBM0M, tSl, rSlM, rAppend, rPop, rClear, wAs, reduceCtorEq, false_implies, true_implies, implies_true, forall_const, cxH_K, clsV_ref, clsV_ty, HO.xd.injEq, Value.ref.injEq, lkc, lkn, pfn, pfc, List.map_nil, exf_NoSymbol T, T.no_NoSymbol_limit, T.ex_NoSymbol_SaggarError, T.kit_NoSymbol_NoSymbol, T.kit_NoSymbol_ValueError, I.ho, I.ht, I.hd, I.hl, T.cl_Symbols, T.no_Symbols_most, T.no_Symbols__texts, T.no_Symbols__numbers, syF_most, syF_texts, syF_numbers, syF_count, syF_number, syF_knows, syF_text, syF_textsM, syF_cut, syF_put, syF_len, List.length_map]
    rw [kvF_mem I.nd]
    exact k
end

def sp_text (A : Ad) : Sp := fun vs H Q _ => ∃ a tl m xs ys pr dx t d, ∃ (i : Nat) (x : Str), vs = [.ref a, .int i] ∧ Iv A H a tl m xs ys pr dx t d ∧ xs[i]? = some x ∧ Q (.str x) H
theorem sp_text_len {A vs H Q E} (h : sp_text A vs H Q E) : vs.length = (["self", "number"] : List Str).length := by
  obtain ⟨_, _, _, _, _, _, _, _, _, _, _, rfl, _⟩ := h
  rfl
section
variable {P : Program} {w : World} {K : PySem.W.Frag} {mg : Str → Option Value} {base : Heap} {A : Ad}
theorem ok_Symbols_text (T : Txt K mg A) : FnOk P w K mg base CX0 1 A.f_Symbols_text A.d_Symbols_text ["self", "number"] (sp_text A) := by
  refine Fun.ok T.F_Symbols_text sc_Symbols_text (fun vs H Q E h => ?_) (fun cdv Ar outer s H vs Q E hr h => ?_)
  · exact sp_text_len h
  · have hu := hu_of hr
    refine ⟨_, (pss_one (ps_ret (pe_ix ix_lstM (pe_fld (pv 0) rfl) (pv 1) (fun _ _ => rfl)))), ?_⟩
    obtain ⟨a, tl, m, xs, ys, pr, dx, t, d, i, x, rfl, I, hi, k⟩ := h
    have hat : atI (xs.map V.str) (i : Int) = some (.str x) := atI_nat (by rw [List.getElem?_map, hi]; rfl)
    simp (config := { maxSteps := 4000000 }) only [tSeq, tNext, tDrop, tRet, tRetN, tIfS, tAsg, tTest, tAnd, tOr, tNot, tAndV, tOrV, tNotV, tIf, tOp, tUn, tVar, tC, tCB, tCons, tNil, tCall, tPart, tNoPart, tM0, tM1, tTup, tLst, tB, tIsN, tNotN, rI0, rI, rU, rEq, rNe, rAdd, gName, gTup, gCons, gNil, gSub, rSetL, rIxL, rIxT, rIxS, L2.start,
      List.map_cons, List.map_nil, List.cons_append, List.nil_append, List.append_nil, List.length_cons, List.length_nil, List.replicate, List.getElem?_cons_zero, List.getElem?_cons_succ, List.set_cons_zero, List.set_cons_succ, Nat.reduceAdd, Nat.reduceSub, Nat.sub_self, Nat.zero_add,
      Option.some.injEq, V.int.injEq, V.str.injEq, V.bl.injEq, V.ref.injEq, V.ty.injEq, List.cons.injEq, and_true, true_and, exists_eq_left, exists_eq_left', exists_eq_right, exists_and_left, exists_and_right, exists_const, decide_eq_true_eq, decide_eq_false_iff_not, if_true, if_false, reduceIte, Bool.false_eq_true, Bool.not_eq_true', sc_ii, sc_ss, sc_bb, str1, cx_K, lstAt, rIxM, rSetM, rLenM, atI_0, atI_1, atI_2, atI_3, setI_0, setI_1, setI_2, setI_3, upd_same, upd_upd, ite_true, ite_false, exists_eq', eq_self, and_assoc, rIsS, isTy_bb, isTy_bi, isTy_ib, isTy_ii, isTy_ss, isTy_nb, isTy_ni, Bool.not_true, Bool.not_false, not_true_eq_false, not_false_eq_true, tChain, tRz1, tRz2, rIsX, tFx, tMethE, tCallS, tCallZ, tMeth, tMake, tFld, sFld, HO.ins.injEq, HO.lst.injEq, HO.dK.injEq, HO.tup.injEq, dcAt, rDInM, rDGetM, rDSetM, rDLenM, keyOf_int, keyOf_str, rIsBM, plainV_b, plainV_i, plainV_n, plainV_s, rInM, tBMM, tBM0M, tSl, rSlM, rAppend, rPop, rClear, wAs, reduceCtorEq, false_implies, true_implies, implies_true, forall_const, cxH_K, clsV_ref, clsV_ty, HO.xd.injEq, Value.ref.injEq, lkc, lkn, pfn, pfc, List.map_nil, exf_NoSymbol T, T.no_NoSymbol_limit, T.ex_NoSymbol_SaggarError, T.kit_NoSymbol_NoSymbol, T.kit_NoSymbol_ValueError, I.ho, I.ht, I.hd, I.hl, T.cl_Symbols, T.no_Symbols_most, T.no_Symbols__texts, T.no_Symbols__numbers, syF_most, syF_texts, syF_numbers, syF_count, syF_number, syF_knows, syF_text, syF_textsM, syF_cut, syF_put, syF_len, List.length_map]
    exact ⟨_, hat, k⟩
end

def sp_texts (A : Ad) : Sp := fun vs H Q _ => ∃ a tl m xs ys pr dx t d, vs = [.ref a] ∧ Iv A H a tl m xs ys pr dx t d ∧ ∀ p, H p = none → Q (.ref p) (upd H p (.lst (xs.map V.str)))
theorem sp_texts_len {A vs H Q E} (h : sp_texts A vs H Q E) : vs.length = (["self"] : List Str).length := by
  obtain ⟨_, _, _, _, _, _, _, _, _, rfl, _⟩ := h
  rfl
section
variable {P : Program} {w : World} {K : PySem.W.Frag} {mg : Str → Option Value} {base : Heap} {A : Ad}
theorem ok_Symbols_texts (T : Txt K mg A) : FnOk P w K mg base CX0 1 A.f_Symbols_texts A.d_Symbols_texts ["self"] (sp_texts A) := by
  refine Fun.ok T.F_Symbols_texts sc_Symbols_texts (fun vs H Q E h => ?_) (fun cdv Ar outer s H vs Q E hr h => ?_)
  · exact sp_texts_len h
  · have hu := hu_of hr
    refine ⟨_, (pss_one (ps_ret (pe_callTy call_list_of (by rfl) T.z_list (by decide +kernel) (pa_cons (pe_fld (pv 0) rfl) pa_nil)))), ?_⟩
    obtain ⟨a, tl, m, xs, ys, pr, dx, t, d, rfl, I, k⟩ := h
    simp (config := { maxSteps := 4000000 }) only [tSeq, tNext, tDrop, tRet, tRetN, tIfS, tAsg, tTest, tAnd, tOr, tNot, tAndV, tOrV, tNotV, tIf, tOp, tUn, tVar, tC, tCB, tCons, tNil, tCall, tPart, tNoPart, tM0, tM1, tTup, tLst, tB, tIsN, tNotN, rI0, rI, rU, rEq, rNe, rAdd, gName, gTup, gCons, gNil, gSub, rSetL, rIxL, rIxT, rIxS, L2.start,
      List.map_cons, List.map_nil, List.cons_append, List.nil_append, List.append_nil, List.length_cons, List.length_nil, List.replicate, List.getElem?_cons_zero, List.getElem?_cons_succ, List.set_cons_zero, List.set_cons_succ, Nat.reduceAdd, Nat.reduceSub, Nat.sub_self, Nat.zero_add,
      Option.some.injEq, V.int.injEq, V.str.injEq, V.bl.injEq, V.ref.injEq, V.ty.injEq, List.cons.injEq, and_true, true_and, exists_eq_left, exists_eq_left', exists_eq_right, exists_and_left, exists_and_right, exists_const, decide_eq_true_eq, decide_eq_false_iff_not, if_true, if_false, reduceIte, Bool.false_eq_true, Bool.not_eq_true', sc_ii, sc_ss, sc_bb, str1, cx_K, lstAt, rIxM, rSetM, rLenM, atI_0, atI_1, atI_2, atI_3, setI_0, setI_1, setI_2, setI_3, upd_same, upd_upd, ite_true, ite_false, exists_eq', eq_self, and_assoc, rIsS, isTy_bb, isTy_bi, isTy_ib, isTy_ii, isTy_ss, isTy_nb, isTy_ni, Bool.not_true, Bool.not_false, not_true_eq_false, not_false_eq_true, tChain, tRz1, tRz2, rIsX, tFx, tMethE, tCallS, tCallZ, tMeth, tMake, tFld, sFld, HO.ins.injEq, HO.lst.injEq, HO.dK.injEq, HO.tup.injEq, dcAt, rDInM, rDGetM, rDSetM, rDLenM, keyOf_int, keyOf_str, rIsBM, plainV_b, plainV_i, plainV_n, plainV_s, rInM, tBMM, tBM0M, tSl, rSlM, rAppend, rPop, rClear, wAs, reduceCtorEq, false_implies, true_implies, implies_true, forall_const, cxH_K, clsV_ref, clsV_ty, HO.xd.injEq, Value.ref.injEq, lkc, lkn, pfn, pfc, List.map_nil, exf_NoSymbol T, T.no_NoSymbol_limit, T.ex_NoSymbol_SaggarError, T.kit_NoSymbol_NoSymbol, T.kit_NoSymbol_ValueError, I.ho, I.ht, I.hd, I.hl, T.cl_Symbols, T.no_Symbols_most, T.no_Symbols__texts, T.no_Symbols__numbers, syF_most, syF_texts, syF_numbers, syF_count, syF_number, syF_knows, syF_text, syF_textsM, syF_cut, syF_put, syF_len, List.length_map]
    exact ⟨_, .inl (.inl (.inl I.ht)), k⟩
end

def sp_cut (A : Ad) : Sp := fun vs H Q _ => ∃ a tl m xs ys pr dx t d, ∃ c : Nat, vs = [.ref a, .int c] ∧ Iv A H a tl m xs ys pr dx t d ∧ ∀ t' H', Iv A H' a tl m (xs.take c) ys pr dx t' d → Q .non H'
theorem sp_cut_len {A vs H Q E} (h : sp_cut A vs H Q E) : vs.length = (["self", "count"] : List Str).length := by
  obtain ⟨_, _, _, _, _, _, _, _, _, _, rfl, _⟩ := h
  rfl
section
variable {P : Program} {w : World} {K : PySem.W.Frag} {mg : Str → Option Value} {base : Heap} {A : Ad}
theorem ok_Symbols_cut (T : Txt K mg A) : FnOk P w K mg base CX0 1 A.f_Symbols_cut A.d_Symbols_cut ["self", "count"] (sp_cut A) := by
  refine Fun.ok T.F_Symbols_cut sc_Symbols_cut (fun vs H Q E h => ?_) (fun cdv Ar outer s H vs Q E hr h => ?_)
  · exact sp_cut_len h
  · have hu := hu_of hr
    refine ⟨_, (pss_cons (ps_for PassesOwn.never rfl (pi_list (pe_slice sl_listM (pe_fld (pv 0) rfl) (po_some (pv 1)) po_none)) (pg_name (i := 2) sc_Symbols_cut.nd rfl (Or.inl rfl))
      (pss_one (ps_ddel (pe_fld (pv 0) rfl) (pv 2))))
    (pss_one (ps_fld (pv 0) (pe_slice sl_listM (pe_fld (pv 0) rfl) po_none (po_some (pv 1))) rfl))), ?_⟩
    obtain ⟨a, tl, m, xs, ys, pr, dx, t, d, c, rfl, I, k⟩ := h
    have e1 : a ≠ d := ne_ho I.ho I.hd (by simp)
    have e2 : t ≠ d := ne_ho I.ht I.hd (by simp)
    have e4 : tl ≠ d := ne_ho I.hl I.hd (by simp)
    simp (config := { maxSteps := 4000000 }) only [tSeq, tNext, tDrop, tRet, tRetN, tIfS, tAsg, tTest, tAnd, tOr, tNot, tAndV, tOrV, tNotV, tIf, tOp, tUn, tVar, tC, tCB, tCons, tNil, tCall, tPart, tNoPart, tM0, tM1, tTup, tLst, tB, tIsN, tNotN, rI0, rI, rU, rEq, rNe, rAdd, gName, gTup, gCons, gNil, gSub, rSetL, rIxL, rIxT, rIxS, L2.start,
      List.map_cons, List.map_nil, List.cons_append, List.nil_append, List.append_nil, List.length_cons, List.length_nil, List.replicate, List.getElem?_cons_zero, List.getElem?_cons_succ, List.set_cons_zero, List.set_cons_succ, Nat.reduceAdd, Nat.reduceSub, Nat.sub_self, Nat.zero_add,
      Option.some.injEq, V.int.injEq, V.str.injEq, V.bl.injEq, V.ref.injEq, V.ty.injEq, List.cons.injEq, and_true, true_and, exists_eq_left, exists_eq_left', exists_eq_right, exists_and_left, exists_and_right, exists_const, decide_eq_true_eq, decide_eq_false_iff_not, if_true, if_false, reduceIte, Bool.false_eq_true, Bool.not_eq_true', sc_ii, sc_ss, sc_bb, str1, cx_K, lstAt, rIxM, rSetM, rLenM, atI_0, atI_1, atI_2, atI_3, setI_0, setI_1, setI_2, setI_3, upd_same, upd_upd, ite_true, ite_false, exists_eq', eq_self, and_assoc, rIsS, isTy_bb, isTy_bi, isTy_ib, isTy_ii, isTy_ss, isTy_nb, isTy_ni, Bool.not_true, Bool.not_false, not_true_eq_false, not_false_eq_true, tChain, tRz1, tRz2, rIsX, tFx, tMethE, tCallS, tCallZ, tMeth, tMake, tFld, sFld, HO.ins.injEq, HO.lst.injEq, HO.dK.injEq, HO.tup.injEq, dcAt, rDInM, rDGetM, rDSetM, rDLenM, keyOf_int, keyOf_str, rIsBM, plainV_b, plainV_i, plainV_n, plainV_s, rInM, tBMM, tBM0M, tSl, rSlM, rAppend, rPop, rClear, wAs, reduceCtorEq, false_implies, true_implies, implies_true, forall_const, cxH_K, clsV_ref, clsV_ty, HO.xd.injEq, Value.ref.injEq, lkc, lkn, pfn, pfc, List.map_nil, exf_NoSymbol T, T.no_NoSymbol_limit, T.ex_NoSymbol_SaggarError, T.kit_NoSymbol_NoSymbol, T.kit_NoSymbol_ValueError, I.ho, I.ht, I.hd, I.hl, T.cl_Symbols, T.no_Symbols_most, T.no_Symbols__texts, T.no_Symbols__numbers, syF_most, syF_texts, syF_numbers, syF_count, syF_number, syF_knows, syF_text, syF_textsM, syF_cut, syF_put, syF_len, List.length_map]
    refine for_lstN ((xs.drop c).map V.str) (fun R h => ?_) (fun p i σ' H' => ∃ kk : Option V, σ' = [some (.ref a), some (.int c), kk] ∧ (∀ b u, b ≠ d → H b = some u → H' b = some u) ∧ H' d = some (.dK (kvF 0 (xs.take c) ++ kvF (c + i) ((xs.drop c).drop i))) ∧ H' p = some (.lst ((xs.drop c).map V.str))) ?_ ?_ ?_ ?_
    · simp (config := { maxSteps := 4000000 }) only [tSeq, tNext, tDrop, tRet, tRetN, tIfS, tAsg, tTest, tAnd, tOr, tNot, tAndV, tOrV, tNotV, tIf, tOp, tUn, tVar, tC, tCB, tCons, tNil, tCall, tPart, tNoPart, tM0, tM1, tTup, tLst, tB, tIsN, tNotN, rI0, rI, rU, rEq, rNe, rAdd, gName, gTup, gCons, gNil, gSub, rSetL, rIxL, rIxT, rIxS, L2.start,
      List.map_cons, List.map_nil, List.cons_append, List.nil_append, List.append_nil, List.length_cons, List.length_nil, List.replicate, List.getElem?_cons_zero, List.getElem?_cons_succ, List.set_cons_zero, List.set_cons_succ, Nat.reduceAdd, Nat.reduceSub, Nat.sub_self, Nat.zero_add,
      Option.some.injEq, V.int.injEq, V.str.injEq, V.bl.injEq, V.ref.injEq, V.ty.injEq, List.cons.injEq, and_true, true_and, exists_eq_left, exists_eq_left', exists_eq_right, exists_and_left, exists_and_right, exists_const, decide_eq_true_eq, decide_eq_false_iff_not, if_true, if_false, reduceIte, Bool.false_eq_true, Bool.not_eq_true', sc_ii, sc_ss, sc_bb, str1, cx_K, lstAt, rIxM, rSetM, rLenM, atI_0, atI_1, atI_2, atI_3, setI_0, setI_1, setI_2, setI_3, upd_same, upd_upd, ite_true, ite_false, exists_eq', eq_self, and_assoc, rIsS, isTy_bb, isTy_bi, isTy_ib, isTy_ii, isTy_ss, isTy_nb, isTy_ni, Bool.not_true, Bool.not_false, not_true_eq_false, not_false_eq_true, tChain, tRz1, tRz2, rIsX, tFx, tMethE, tCallS, tCallZ, tMeth, tMake, tFld, sFld, HO.ins.injEq, HO.lst.injEq, HO.dK.injEq, HO.tup.injEq, dcAt, rDInM, rDGetM, rDSetM, rDLenM, keyOf_int, keyOf_str, rIsBM, plainV_b, plainV_i, plainV_n, plainV_s, rInM, tBMM, tBM0M, tSl, rSlM, rAppend, rPop, rClear, wAs, reduceCtorEq, false_implies, true_implies, implies_true, forall_const, cxH_K, clsV_ref, clsV_ty, HO.xd.injEq, Value.ref.injEq, lkc, lkn, pfn, pfc, List.map_nil, exf_NoSymbol T, T.no_NoSymbol_limit, T.ex_NoSymbol_SaggarError, T.kit_NoSymbol_NoSymbol, T.kit_NoSymbol_ValueError, I.ho, I.ht, I.hd, I.hl, T.cl_Symbols, T.no_Symbols_most, T.no_Symbols__texts, T.no_Symbols__numbers, syF_most, syF_texts, syF_numbers, syF_count, syF_number, syF_knows, syF_text, syF_textsM, syF_cut, syF_put, syF_len, List.length_map]
      rw [cutV_from, ← List.map_drop]
      exact h
    · intro p hp
      refine ⟨none, rfl, fun b u _ hb => ?_, ?_, upd_same⟩
      · rw [upd_ne (ne_of_none hb hp)]
        exact hb
      · rw [upd_ne (ne_of_none I.hd hp), I.hd, kvF_cut (c := c)]
    · rintro p i σ' H' hp ⟨_, _, _, _, h⟩
      exact h
    · rintro p i x σ' H' hp hx ⟨kk, rfl, fr, h1, h2⟩
      rw [List.getElem?_map] at hx
      obtain ⟨y, hy, rfl⟩ : ∃ y, (xs.drop c)[i]? = some y ∧ x = .str y := by
        cases hz : (xs.drop c)[i]? with
        | none =>
          rw [hz] at hx
          cases hx
        | some z =>
          rw [hz] at hx
          exact ⟨z, rfl, (Option.some.inj hx).symm⟩
      have g1 := fr a _ e1 I.ho
      have g2 := fr t _ e2 I.ht
      have hi : i < (xs.drop c).length := (List.getElem?_eq_some_iff.mp hy).1
      have e5 : (xs.drop c).drop i = y :: (xs.drop c).drop (i + 1) := by
        rw [List.drop_eq_getElem_cons hi, (List.getElem?_eq_some_iff.mp hy).2]
      refine ⟨.ref a, rfl, a, A.C_Symbols, dx, _, _, rfl, g1, T.cl_Symbols, T.no_Symbols__numbers, syF_numbers, .str y, rfl, d, _, Sum.inr y, rfl, h1, rfl, ?_, ?_⟩
      · rw [e5]
        exact kvF_has
      · refine ⟨_, rfl, fun b u hb hu => ?_, ?_, ?_⟩
        · rw [upd_ne hb]
          exact fr b u hb hu
        · rw [upd_same, kvF_drop I.nd hy]
        · rw [upd_ne (Ne.symm (ne_of_none I.hd hp))]
          exact h2
    · rintro p σ' H' hp ⟨kk, rfl, fr, h1, h2⟩
      have g1 := fr a _ e1 I.ho
      have g2 := fr t _ e2 I.ht
      simp (config := { maxSteps := 4000000 }) only [tSeq, tNext, tDrop, tRet, tRetN, tIfS, tAsg, tTest, tAnd, tOr, tNot, tAndV, tOrV, tNotV, tIf, tOp, tUn, tVar, tC, tCB, tCons, tNil, tCall, tPart, tNoPart, tM0, tM1, tTup, tLst, tB, tIsN, tNotN, rI0, rI, rU, rEq, rNe, rAdd, gName, gTup, gCons, gNil, gSub, rSetL, rIxL, rIxT, rIxS, L2.start,
      List.map_cons, List.map_nil, List.cons_append, List.nil_append, List.append_nil, List.length_cons, List.length_nil, List.replicate, List.getElem?_cons_zero, List.getElem?_cons_succ, List.set_cons_zero, List.set_cons_succ, Nat.reduceAdd, Nat.reduceSub, Nat.sub_self, Nat.zero_add,
      Option.some.injEq, V.int.injEq, V.str.injEq, V.bl.injEq, V.ref.injEq, V.ty.injEq, List.cons.injEq, and_true, true_and, exists_eq_left, exists_eq_left', exists_eq_right, exists_and_left, exists_and_right, exists_const, decide_eq_true_eq, decide_eq_false_iff_not, if_true, if_false, reduceIte, Bool.false_eq_true, Bool.not_eq_true', sc_ii, sc_ss, sc_bb, str1, cx_K, lstAt, rIxM, rSetM, rLenM, atI_0, atI_1, atI_2, atI_3, setI_0, setI_1, setI_2, setI_3, upd_same, upd_upd, ite_true, ite_false, exists_eq', eq_self, and_assoc, rIsS, isTy_bb, isTy_bi, isTy_ib, isTy_ii, isTy_ss, isTy_nb, isTy_ni, Bool.not_true, Bool.not_false, not_true_eq_false, not_false_eq_true, tChain, tRz1, tRz2, rIsX, tFx, tMethE, tCallS, tCallZ, tMeth, tMake, tFld, sFld, HO.ins.injEq, HO.lst.injEq, HO.dK.injEq, HO.tup.injEq, dcAt, rDInM, rDGetM, rDSetM, rDLenM, keyOf_int, keyOf_str, rIsBM, plainV_b, plainV_i, plainV_n, plainV_s, rInM, tBMM, tBM0M, tSl, rSlM, rAppend, rPop, rClear, wAs, reduceCtorEq, false_implies, true_implies, implies_true, forall_const, cxH_K, clsV_ref, clsV_ty, HO.xd.injEq, Value.ref.injEq, lkc, lkn, pfn, pfc, List.map_nil, g1, g2, T.cl_Symbols, T.no_Symbols_most, T.no_Symbols__texts, T.no_Symbols__numbers, syF_most, syF_texts, syF_numbers, syF_count, syF_number, syF_knows, syF_text, syF_textsM, syF_cut, syF_put, syF_len]
      intro l hl
      have al : a ≠ l := ne_of_none g1 hl
      refine ⟨_, _, _, by rw [upd_ne al]; exact g1, T.cl_Symbols, T.no_Symbols__texts, by rw [syF_len]; decide, ?_⟩
      rw [syF_put, cutV_to, ← List.map_take]
      have g4 := fr tl _ e4 I.hl
      refine k l _ ⟨upd_same, ?_, ?_, ?_, I.nd.sublist (List.take_sublist ..), by rw [List.length_take]; exact Nat.le_trans (Nat.min_le_right ..) I.hn, I.hn2, Ne.symm (ne_of_none g4 hl), fun q hq => ?_⟩
      · rw [upd_ne (Ne.symm al), upd_same]
      · rw [upd_ne (Ne.symm e1), upd_ne (ne_of_none h1 hl), h1, List.length_map, List.drop_length]
        simp [kvF]
      · rw [upd_ne (ne_ho g4 g1 (by simp)), upd_ne (ne_of_none g4 hl)]
        exact g4
      · obtain ⟨p1, p2, p3, p4, p5⟩ := I.hp q hq
        have p6 := fr q.1 _ p4 p1
        refine ⟨?_, p2, ne_of_none p6 hl, p4, p5⟩
        rw [upd_ne p2, upd_ne (ne_of_none p6 hl)]
        exact p6
end

def sp_lnum : Sp := fun vs H Q _ => ∃ (c k : Int), vs = [.int c, .int k] ∧ ∀ z : Int, Q (.int z) H
theorem sp_lnum_len {vs H Q E} (h : sp_lnum vs H Q E) : vs.length = (["cell", "k"] : List Str).length := by
  obtain ⟨_, _, rfl, _⟩ := h
  rfl
section
variable {P : Program} {w : World} {K : PySem.W.Frag} {mg : Str → Option Value} {base : Heap} {A : Ad}
theorem ok__law_number (T : Txt K mg A) : FnOk P w K mg base CX0 1 A.f__law_number A.d__law_number ["cell", "k"] (sp_lnum) := by
  refine Fun.ok T.F__law_number sc__law_number (fun vs H Q E h => ?_) (fun cdv Ar outer s H vs Q E hr h => ?_)
  · exact sp_lnum_len h
  · have hu := hu_of hr
    refine ⟨_, (pss_cons (ps_if (pt_cmpR op_ge (pv 0) (pe_op op_pow pe_int pe_int) (nomark _)) (pss_one (ps_ret (pv 0))) pss_nil)
    (pss_cons (ps_asg (pe_op op_mod (pe_callTy call_intI (by rfl) T.z_int (by decide +kernel) (pa_cons (pe_op op_add (pe_op op_add (pe_op op_mul (pv 0) pe_int) (pe_op op_mul (pv 1) pe_int)) pe_int) pa_nil)) pe_int) (pg_name (i := 2) sc__law_number.nd rfl (Or.inl rfl)))
    (pss_one (ps_ret (pe_op op_mod (pe_callTy call_intI (by rfl) T.z_int (by decide +kernel) (pa_cons (pe_op op_add (pe_op op_mul (pv 2) (pv 2)) (pe_op op_mul (pv 1) pe_int)) pa_nil)) pe_int))))), ?_⟩
    obtain ⟨c, j, rfl, k⟩ := h
    simp (config := { maxSteps := 4000000 }) only [tSeq, tNext, tDrop, tRet, tRetN, tIfS, tAsg, tTest, tAnd, tOr, tNot, tAndV, tOrV, tNotV, tIf, tOp, tUn, tVar, tC, tCB, tCons, tNil, tCall, tPart, tNoPart, tM0, tM1, tTup, tLst, tB, tIsN, tNotN, rI0, rI, rU, rEq, rNe, rAdd, gName, gTup, gCons, gNil, gSub, rSetL, rIxL, rIxT, rIxS, L2.start,
      List.map_cons, List.map_nil, List.cons_append, List.nil_append, List.append_nil, List.length_cons, List.length_nil, List.replicate, List.getElem?_cons_zero, List.getElem?_cons_succ, List.set_cons_zero, List.set_cons_succ, Nat.reduceAdd, Nat.reduceSub, Nat.sub_self, Nat.zero_add,
      Option.some.injEq, V.int.injEq, V.str.injEq, V.bl.injEq, V.ref.injEq, V.ty.injEq, List.cons.injEq, and_true, true_and, exists_eq_left, exists_eq_left', exists_eq_right, exists_and_left, exists_and_right, exists_const, decide_eq_true_eq, decide_eq_false_iff_not, if_true, if_false, reduceIte, Bool.false_eq_true, Bool.not_eq_true', sc_ii, sc_ss, sc_bb, str1, cx_K, lstAt, rIxM, rSetM, rLenM, atI_0, atI_1, atI_2, atI_3, setI_0, setI_1, setI_2, setI_3, upd_same, upd_upd, ite_true, ite_false, exists_eq', eq_self, and_assoc, rIsS, isTy_bb, isTy_bi, isTy_ib, isTy_ii, isTy_ss, isTy_nb, isTy_ni, Bool.not_true, Bool.not_false, not_true_eq_false, not_false_eq_true, tChain, tRz1, tRz2, rIsX, tFx, tMethE, tCallS, tCallZ, tMeth, tMake, tFld, sFld, HO.ins.injEq, HO.lst.injEq, HO.dK.injEq, HO.tup.injEq, dcAt, rDInM, rDGetM, rDSetM, rDLenM, keyOf_int, keyOf_str, rIsBM, plainV_b, plainV_i, plainV_n, plainV_s, rInM, tBMM, tBM0M, tSl, rSlM, rAppend, rPop, rClear, wAs, reduceCtorEq, false_implies, true_implies, implies_true, forall_const, cxH_K, clsV_ref, clsV_ty, HO.xd.injEq, Value.ref.injEq, lkc, lkn, pfn, pfc, List.map_nil, exf_NoSymbol T, T.no_NoSymbol_limit, T.ex_NoSymbol_SaggarError, T.kit_NoSymbol_NoSymbol, T.kit_NoSymbol_ValueError, isTy_si, isTy_is, isTy_sb, rIsL, rRepS]
    refine ⟨⟨by decide, by decide, by decide⟩, ite2 (fun _ => k _) (fun _ => ⟨.inr ⟨by decide, by decide⟩, .inr ⟨by decide, by decide⟩, by decide, .inl ⟨?_, ?_⟩, .inr ⟨by decide, by decide⟩, by decide, k _⟩)⟩
    · have := Int.emod_nonneg (c * 48271 + j * 69621 + 11) (show (2147483647 : Int) ≠ 0 by decide)
      omega
    · have := Int.emod_lt_of_pos (c * 48271 + j * 69621 + 11) (show (0 : Int) < 2147483647 by decide)
      omega
end

def sp_ltext : Sp := fun vs H Q _ => ∃ (x : Int), vs = [.int x] ∧ ∀ z : Str, z.length ≤ 5000 → Q (.str z) H
theorem sp_ltext_len {vs H Q E} (h : sp_ltext vs H Q E) : vs.length = (["x"] : List Str).length := by
  obtain ⟨_, rfl, _⟩ := h
  rfl
section
variable {P : Program} {w : World} {K : PySem.W.Frag} {mg : Str → Option Value} {base : Heap} {A : Ad}
theorem ok__law_text (T : Txt K mg A) : FnOk P w K mg base CX0 1 A.f__law_text A.d__law_text ["x"] (sp_ltext) := by
  refine Fun.ok T.F__law_text sc__law_text (fun vs H Q E h => ?_) (fun cdv Ar outer s H vs Q E hr h => ?_)
  · exact sp_ltext_len h
  · have hu := hu_of hr
    refine ⟨_, (pss_cons (ps_if (pt_cmpR op_eq (pe_op op_mod (pe_callTy call_intI (by rfl) T.z_int (by decide +kernel) (pa_cons (pv 0) pa_nil)) pe_int) pe_int (nomark _)) (pss_cons (ps_if (pt_cmpR op_eq (pe_op op_mod (pe_op op_fdiv (pv 0) pe_int) pe_int) pe_int (nomark _)) (pss_one (ps_ret (pe_op op_repS pe_str (pe_op op_add pe_int (pe_op op_mod (pe_op op_fdiv (pv 0) pe_int) pe_int))))) pss_nil)
    (pss_one (ps_ret (pe_op op_repS pe_str (pe_op op_add pe_int (pe_op op_mod (pe_op op_fdiv (pv 0) pe_int) pe_int)))))) pss_nil)
    (pss_cons (ps_asg pe_str (pg_name (i := 1) sc__law_text.nd rfl (Or.inl rfl)))
    (pss_cons (ps_asg (pe_op op_mod (pe_op op_fdiv (pv 0) pe_int) pe_int) (pg_name (i := 2) sc__law_text.nd rfl (Or.inl rfl)))
    (Evl.pss_cut (ps_if (pt_cmpR op_eq (pe_op op_mod (pe_op op_mod (pe_callTy call_intI (by rfl) T.z_int (by decide +kernel) (pa_cons (pv 0) pa_nil)) pe_int) pe_int) pe_int (nomark _)) (pss_cons (ps_asg pe_str (pg_name (i := 1) sc__law_text.nd rfl (Or.inl rfl)))
    (pss_cons (ps_asg (pe_op op_add_str (pv 1) pe_str) (pg_name (i := 1) sc__law_text.nd rfl (Or.inl rfl)))
    (pss_one (ps_asg (pe_op op_mod (pe_op op_fdiv (pv 0) pe_int) pe_int) (pg_name (i := 2) sc__law_text.nd rfl (Or.inl rfl)))))) pss_nil)
    (pss_cons (ps_asg (pe_op op_fdiv (pv 0) pe_int) (pg_name (i := 3) sc__law_text.nd rfl (Or.inl rfl)))
    (pss_cons (ps_asg pe_str (pg_name (i := 4) sc__law_text.nd rfl (Or.inl rfl)))
    (pss_cons (ps_for PassesOwn.never rfl (pi_range1 (by rfl) T.z_range (pa_cons (pv 2) pa_nil)) (pg_name (i := 5) sc__law_text.nd rfl (Or.inl rfl))
      (pss_cons (ps_asg (pe_op op_add_str (pv 4) (pe_item_str (pv 1) (pe_op op_mod (pe_callTy call_intI (by rfl) T.z_int (by decide +kernel) (pa_cons (pv 3) pa_nil)) (pe_callB call_len_str (by rfl) T.z_len PySem.boot_len (pa_cons (pv 1) pa_nil))) (fun _ _ => rfl))) (pg_name (i := 4) sc__law_text.nd rfl (Or.inl rfl)))
    (pss_one (ps_asg (pe_op op_fdiv (pv 3) (pe_callB call_len_str (by rfl) T.z_len PySem.boot_len (pa_cons (pv 1) pa_nil))) (pg_name (i := 3) sc__law_text.nd rfl (Or.inl rfl))))))
    (pss_one (ps_ret (pv 4)))))))))), ?_⟩
    obtain ⟨x, rfl, k⟩ := h
    simp (config := { maxSteps := 4000000 }) only [tSeq, tNext, tDrop, tRet, tRetN, tIfS, tAsg, tTest, tAnd, tOr, tNot, tAndV, tOrV, tNotV, tIf, tOp, tUn, tVar, tC, tCB, tCons, tNil, tCall, tPart, tNoPart, tM0, tM1, tTup, tLst, tB, tIsN, tNotN, rI0, rI, rU, rEq, rNe, rAdd, gName, gTup, gCons, gNil, gSub, rSetL, rIxL, rIxT, rIxS, L2.start,
      List.map_cons, List.map_nil, List.cons_append, List.nil_append, List.append_nil, List.length_cons, List.length_nil, List.replicate, List.getElem?_cons_zero, List.getElem?_cons_succ, List.set_cons_zero, List.set_cons_succ, Nat.reduceAdd, Nat.reduceSub, Nat.sub_self, Nat.zero_add,
      Option.some.injEq, V.int.injEq, V.str.injEq, V.bl.injEq, V.ref.injEq, V.ty.injEq, List.cons.injEq, and_true, true_and, exists_eq_left, exists_eq_left', exists_eq_right, exists_and_left, exists_and_right, exists_const, decide_eq_true_eq, decide_eq_false_iff_not, if_true, if_false, reduceIte, Bool.false_eq_true, Bool.not_eq_true', sc_ii, sc_ss, sc_bb, str1, cx_K, lstAt, rIxM, rSetM, rLenM, atI_0, atI_1, atI_2, atI_3, setI_0, setI_1, setI_2, setI_3, upd_same, upd_upd, ite_true, ite_false, exists_eq', eq_self, and_assoc, rIsS, isTy_bb, isTy_bi, isTy_ib, isTy_ii, isTy_ss, isTy_nb, isTy_ni, Bool.not_true, Bool.not_false, not_true_eq_false, not_false_eq_true, tChain, tRz1, tRz2, rIsX, tFx, tMethE, tCallS, tCallZ, tMeth, tMake, tFld, sFld, HO.ins.injEq, HO.lst.injEq, HO.dK.injEq, HO.tup.injEq, dcAt, rDInM, rDGetM, rDSetM, rDLenM, keyOf_int, keyOf_str, rIsBM, plainV_b, plainV_i, plainV_n, plainV_s, rInM, tBMM, tBM0M, tSl, rSlM, rAppend, rPop, rClear, wAs, reduceCtorEq, false_implies, true_implies, implies_true, forall_const, cxH_K, clsV_ref, clsV_ty, HO.xd.injEq, Value.ref.injEq, lkc, lkn, pfn, pfc, List.map_nil, exf_NoSymbol T, T.no_NoSymbol_limit, T.ex_NoSymbol_SaggarError, T.kit_NoSymbol_NoSymbol, T.kit_NoSymbol_ValueError, isTy_si, isTy_is, isTy_sb, rIsL, rRepS]
    have la : (Str.ofString "a").length = 1 := by decide
    have lb : (Str.ofString "b").length = 1 := by decide
    refine ⟨by decide, ite2 (fun _ => ⟨⟨by decide, by decide⟩, by decide, ite2 (fun _ => ?_) (fun _ => ?_)⟩) (fun _ => ⟨⟨by decide, by decide⟩, by decide, ?_⟩)⟩
    · refine ⟨⟨by decide, by decide⟩, by decide, by omega, by omega, by decide, by decide, fun z hz => k z ?_⟩
      rw [la] at hz
      omega
    · refine ⟨⟨by decide, by decide⟩, by decide, by omega, by omega, by decide, by decide, fun z hz => k z ?_⟩
      rw [lb] at hz
      omega
    · refine ⟨fun σ2 H2 => ∃ (ch : Str) (n : Int), σ2 = [some (.int x), some (.str ch), some (.int n), none, none, none] ∧ 0 < ch.length ∧ ch.length ≤ 1000 ∧ 0 ≤ n ∧ n ≤ 6 ∧ H = H2, ?_, ?_⟩
      · simp (config := { maxSteps := 4000000 }) only [tSeq, tNext, tDrop, tRet, tRetN, tIfS, tAsg, tTest, tAnd, tOr, tNot, tAndV, tOrV, tNotV, tIf, tOp, tUn, tVar, tC, tCB, tCons, tNil, tCall, tPart, tNoPart, tM0, tM1, tTup, tLst, tB, tIsN, tNotN, rI0, rI, rU, rEq, rNe, rAdd, gName, gTup, gCons, gNil, gSub, rSetL, rIxL, rIxT, rIxS, L2.start,
      List.map_cons, List.map_nil, List.cons_append, List.nil_append, List.append_nil, List.length_cons, List.length_nil, List.replicate, List.getElem?_cons_zero, List.getElem?_cons_succ, List.set_cons_zero, List.set_cons_succ, Nat.reduceAdd, Nat.reduceSub, Nat.sub_self, Nat.zero_add,
      Option.some.injEq, V.int.injEq, V.str.injEq, V.bl.injEq, V.ref.injEq, V.ty.injEq, List.cons.injEq, and_true, true_and, exists_eq_left, exists_eq_left', exists_eq_right, exists_and_left, exists_and_right, exists_const, decide_eq_true_eq, decide_eq_false_iff_not, if_true, if_false, reduceIte, Bool.false_eq_true, Bool.not_eq_true', sc_ii, sc_ss, sc_bb, str1, cx_K, lstAt, rIxM, rSetM, rLenM, atI_0, atI_1, atI_2, atI_3, setI_0, setI_1, setI_2, setI_3, upd_same, upd_upd, ite_true, ite_false, exists_eq', eq_self, and_assoc, rIsS, isTy_bb, isTy_bi, isTy_ib, isTy_ii, isTy_ss, isTy_nb, isTy_ni, Bool.not_true, Bool.not_false, not_true_eq_false, not_false_eq_true, tChain, tRz1, tRz2, rIsX, tFx, tMethE, tCallS, tCallZ, tMeth, tMake, tFld, sFld, HO.ins.injEq, HO.lst.injEq, HO.dK.injEq, HO.tup.injEq, dcAt, rDInM, rDGetM, rDSetM, rDLenM, keyOf_int, keyOf_str, rIsBM, plainV_b, plainV_i, plainV_n, plainV_s, rInM, tBMM, tBM0M, tSl, rSlM, rAppend, rPop, rClear, wAs, reduceCtorEq, false_implies, true_implies, implies_true, forall_const, cxH_K, clsV_ref, clsV_ty, HO.xd.injEq, Value.ref.injEq, lkc, lkn, pfn, pfc, List.map_nil, exf_NoSymbol T, T.no_NoSymbol_limit, T.ex_NoSymbol_SaggarError, T.kit_NoSymbol_NoSymbol, T.kit_NoSymbol_ValueError, isTy_si, isTy_is, isTy_sb, rIsL, rRepS]
        refine ⟨by decide, by decide, ite2 (fun _ => ?_) (fun _ => ?_)⟩
        · exact ⟨by decide, ⟨by decide, by decide⟩, by decide, by decide, by decide, by omega, by omega⟩
        · exact ⟨by decide, by decide, by omega, by omega⟩
      · rintro σ2 H2 ⟨ch, n, rfl, c0, c1, n0, n1, rfl⟩
        simp (config := { maxSteps := 4000000 }) only [tSeq, tNext, tDrop, tRet, tRetN, tIfS, tAsg, tTest, tAnd, tOr, tNot, tAndV, tOrV, tNotV, tIf, tOp, tUn, tVar, tC, tCB, tCons, tNil, tCall, tPart, tNoPart, tM0, tM1, tTup, tLst, tB, tIsN, tNotN, rI0, rI, rU, rEq, rNe, rAdd, gName, gTup, gCons, gNil, gSub, rSetL, rIxL, rIxT, rIxS, L2.start,
      List.map_cons, List.map_nil, List.cons_append, List.nil_append, List.append_nil, List.length_cons, List.length_nil, List.replicate, List.getElem?_cons_zero, List.getElem?_cons_succ, List.set_cons_zero, List.set_cons_succ, Nat.reduceAdd, Nat.reduceSub, Nat.sub_self, Nat.zero_add,
      Option.some.injEq, V.int.injEq, V.str.injEq, V.bl.injEq, V.ref.injEq, V.ty.injEq, List.cons.injEq, and_true, true_and, exists_eq_left, exists_eq_left', exists_eq_right, exists_and_left, exists_and_right, exists_const, decide_eq_true_eq, decide_eq_false_iff_not, if_true, if_false, reduceIte, Bool.false_eq_true, Bool.not_eq_true', sc_ii, sc_ss, sc_bb, str1, cx_K, lstAt, rIxM, rSetM, rLenM, atI_0, atI_1, atI_2, atI_3, setI_0, setI_1, setI_2, setI_3, upd_same, upd_upd, ite_true, ite_false, exists_eq', eq_self, and_assoc, rIsS, isTy_bb, isTy_bi, isTy_ib, isTy_ii, isTy_ss, isTy_nb, isTy_ni, Bool.not_true, Bool.not_false, not_true_eq_false, not_false_eq_true, tChain, tRz1, tRz2, rIsX, tFx, tMethE, tCallS, tCallZ, tMeth, tMake, tFld, sFld, HO.ins.injEq, HO.lst.injEq, HO.dK.injEq, HO.tup.injEq, dcAt, rDInM, rDGetM, rDSetM, rDLenM, keyOf_int, keyOf_str, rIsBM, plainV_b, plainV_i, plainV_n, plainV_s, rInM, tBMM, tBM0M, tSl, rSlM, rAppend, rPop, rClear, wAs, reduceCtorEq, false_implies, true_implies, implies_true, forall_const, cxH_K, clsV_ref, clsV_ty, HO.xd.injEq, Value.ref.injEq, lkc, lkn, pfn, pfc, List.map_nil, exf_NoSymbol T, T.no_NoSymbol_limit, T.ex_NoSymbol_SaggarError, T.kit_NoSymbol_NoSymbol, T.kit_NoSymbol_ValueError, isTy_si, isTy_is, isTy_sb, rIsL, rRepS]
        refine ⟨⟨by decide, by decide⟩, ?_⟩
        refine for_rng n (fun R h => ⟨_, rfl, h⟩) n0 (by omega) (fun i σ' H' => ∃ (y : Str) (r : Int) (kk : Option V), σ' = [some (.int x), some (.str ch), some (.int n), some (.int r), some (.str y), kk] ∧ y.length ≤ i ∧ H = H') ⟨_, _, none, rfl, by decide, rfl⟩ ?_ ?_
        · rintro i σ' H' hi ⟨y, r, kk, rfl, hy, rfl⟩
          simp (config := { maxSteps := 4000000 }) only [tSeq, tNext, tDrop, tRet, tRetN, tIfS, tAsg, tTest, tAnd, tOr, tNot, tAndV, tOrV, tNotV, tIf, tOp, tUn, tVar, tC, tCB, tCons, tNil, tCall, tPart, tNoPart, tM0, tM1, tTup, tLst, tB, tIsN, tNotN, rI0, rI, rU, rEq, rNe, rAdd, gName, gTup, gCons, gNil, gSub, rSetL, rIxL, rIxT, rIxS, L2.start,
      List.map_cons, List.map_nil, List.cons_append, List.nil_append, List.append_nil, List.length_cons, List.length_nil, List.replicate, List.getElem?_cons_zero, List.getElem?_cons_succ, List.set_cons_zero, List.set_cons_succ, Nat.reduceAdd, Nat.reduceSub, Nat.sub_self, Nat.zero_add,
      Option.some.injEq, V.int.injEq, V.str.injEq, V.bl.injEq, V.ref.injEq, V.ty.injEq, List.cons.injEq, and_true, true_and, exists_eq_left, exists_eq_left', exists_eq_right, exists_and_left, exists_and_right, exists_const, decide_eq_true_eq, decide_eq_false_iff_not, if_true, if_false, reduceIte, Bool.false_eq_true, Bool.not_eq_true', sc_ii, sc_ss, sc_bb, str1, cx_K, lstAt, rIxM, rSetM, rLenM, atI_0, atI_1, atI_2, atI_3, setI_0, setI_1, setI_2, setI_3, upd_same, upd_upd, ite_true, ite_false, exists_eq', eq_self, and_assoc, rIsS, isTy_bb, isTy_bi, isTy_ib, isTy_ii, isTy_ss, isTy_nb, isTy_ni, Bool.not_true, Bool.not_false, not_true_eq_false, not_false_eq_true, tChain, tRz1, tRz2, rIsX, tFx, tMethE, tCallS, tCallZ, tMeth, tMake, tFld, sFld, HO.ins.injEq, HO.lst.injEq, HO.dK.injEq, HO.tup.injEq, dcAt, rDInM, rDGetM, rDSetM, rDLenM, keyOf_int, keyOf_str, rIsBM, plainV_b, plainV_i, plainV_n, plainV_s, rInM, tBMM, tBM0M, tSl, rSlM, rAppend, rPop, rClear, wAs, reduceCtorEq, false_implies, true_implies, implies_true, forall_const, cxH_K, clsV_ref, clsV_ty, HO.xd.injEq, Value.ref.injEq, lkc, lkn, pfn, pfc, List.map_nil, exf_NoSymbol T, T.no_NoSymbol_limit, T.ex_NoSymbol_SaggarError, T.kit_NoSymbol_NoSymbol, T.kit_NoSymbol_ValueError, isTy_si, isTy_is, isTy_sb, rIsL, rRepS]
          have q0 := Int.emod_nonneg r (show (ch.length : Int) ≠ 0 by omega)
          have q1 := Int.emod_lt_of_pos r (show (0 : Int) < (ch.length : Int) by omega)
          have hlt : (r % (ch.length : Int)).toNat < (cl ch).length := by
            rw [← len_cl]
            omega
          have hat : ch.cps[(r % (ch.length : Int)).toNat]? = some ((cl ch)[(r % (ch.length : Int)).toNat]) := by rw [at_cl, List.getElem?_eq_getElem hlt]
          have sz : (100000 : Nat) ≤ sizeLine := by decide
          refine ⟨by omega, by omega, q0, by omega, q1, _, hat, ?_, by omega, ⟨by omega, by omega⟩, ?_⟩
          · show y.length + 1 ≤ sizeLine
            omega
          · rw [len_cl, cl_append, List.length_append, ← len_cl]
            show y.length + 1 ≤ i + 1
            omega
        · rintro σ' H' ⟨y, r, kk, rfl, hy, rfl⟩
          simp (config := { maxSteps := 4000000 }) only [tSeq, tNext, tDrop, tRet, tRetN, tIfS, tAsg, tTest, tAnd, tOr, tNot, tAndV, tOrV, tNotV, tIf, tOp, tUn, tVar, tC, tCB, tCons, tNil, tCall, tPart, tNoPart, tM0, tM1, tTup, tLst, tB, tIsN, tNotN, rI0, rI, rU, rEq, rNe, rAdd, gName, gTup, gCons, gNil, gSub, rSetL, rIxL, rIxT, rIxS, L2.start,
      List.map_cons, List.map_nil, List.cons_append, List.nil_append, List.append_nil, List.length_cons, List.length_nil, List.replicate, List.getElem?_cons_zero, List.getElem?_cons_succ, List.set_cons_zero, List.set_cons_succ, Nat.reduceAdd, Nat.reduceSub, Nat.sub_self, Nat.zero_add,
      Option.some.injEq, V.int.injEq, V.str.injEq, V.bl.injEq, V.ref.injEq, V.ty.injEq, List.cons.injEq, and_true, true_and, exists_eq_left, exists_eq_left', exists_eq_right, exists_and_left, exists_and_right, exists_const, decide_eq_true_eq, decide_eq_false_iff_not, if_true, if_false, reduceIte, Bool.false_eq_true, Bool.not_eq_true', sc_ii, sc_ss, sc_bb, str1, cx_K, lstAt, rIxM, rSetM, rLenM, atI_0, atI_1, atI_2, atI_3, setI_0, setI_1, setI_2, setI_3, upd_same, upd_upd, ite_true, ite_false, exists_eq', eq_self, and_assoc, rIsS, isTy_bb, isTy_bi, isTy_ib, isTy_ii, isTy_ss, isTy_nb, isTy_ni, Bool.not_true, Bool.not_false, not_true_eq_false, not_false_eq_true, tChain, tRz1, tRz2, rIsX, tFx, tMethE, tCallS, tCallZ, tMeth, tMake, tFld, sFld, HO.ins.injEq, HO.lst.injEq, HO.dK.injEq, HO.tup.injEq, dcAt, rDInM, rDGetM, rDSetM, rDLenM, keyOf_int, keyOf_str, rIsBM, plainV_b, plainV_i, plainV_n, plainV_s, rInM, tBMM, tBM0M, tSl, rSlM, rAppend, rPop, rClear, wAs, reduceCtorEq, false_implies, true_implies, implies_true, forall_const, cxH_K, clsV_ref, clsV_ty, HO.xd.injEq, Value.ref.injEq, lkc, lkn, pfn, pfc, List.map_nil, exf_NoSymbol T, T.no_NoSymbol_limit, T.ex_NoSymbol_SaggarError, T.kit_NoSymbol_NoSymbol, T.kit_NoSymbol_ValueError, isTy_si, isTy_is, isTy_sb, rIsL, rRepS]
          exact k y (by omega)
end

def sp_lis : Sp := fun vs H Q _ => (∃ a b : Str, vs = [.str a, .str b] ∧ Q (.bl (decide (a = b))) H) ∨ ∃ i j : Int, vs = [.int i, .int j] ∧ Q (.bl (decide (i = j))) H
theorem sp_lis_len {vs H Q E} (h : sp_lis vs H Q E) : vs.length = (["actual", "due"] : List Str).length := by
  obtain ⟨_, _, rfl, _⟩ | ⟨_, _, rfl, _⟩ := h <;> rfl
section
variable {P : Program} {w : World} {K : PySem.W.Frag} {mg : Str → Option Value} {base : Heap} {A : Ad}
theorem ok__law_is (T : Txt K mg A) : FnOk P w K mg base CX0 1 A.f__law_is A.d__law_is ["actual", "due"] (sp_lis) := by
  refine Fun.ok T.F__law_is sc__law_is (fun vs H Q E h => ?_) (fun cdv Ar outer s H vs Q E hr h => ?_)
  · exact sp_lis_len h
  · have hu := hu_of hr
    refine ⟨_, (pss_cons (ps_if (pt_val (pe_callB call_isS (by rfl) T.z_isinstance (by decide +kernel) (pa_cons (pv 1) (pa_cons (pe_bltn (v := .ty "str") (by rfl) T.z_str (by decide +kernel) rfl) pa_nil)))) (pss_one (ps_ret (pe_and (pe_callB call_isS (by rfl) T.z_isinstance (by decide +kernel) (pa_cons (pv 0) (pa_cons (pe_bltn (v := .ty "str") (by rfl) T.z_str (by decide +kernel) rfl) pa_nil))) (pe_one (pe_cmpR op_eq (pv 0) (pv 1) (nomark _)))))) pss_nil)
    (pss_one (ps_ret (pe_and (pe_callB call_isS (by rfl) T.z_isinstance (by decide +kernel) (pa_cons (pv 0) (pa_cons (pe_bltn (v := .ty "int") (by rfl) T.z_int (by decide +kernel) rfl) pa_nil))) (pe_and (pe_not (pe_callB call_isS (by rfl) T.z_isinstance (by decide +kernel) (pa_cons (pv 0) (pa_cons (pe_bltn (v := .ty "bool") (by rfl) T.z_bool (by decide +kernel) rfl) pa_nil)))) (pe_one (pe_cmpR op_eq (pv 0) (pv 1) (nomark _)))))))), ?_⟩
    obtain ⟨a, b, rfl, k⟩ | ⟨a, b, rfl, k⟩ := h
    · simp (config := { maxSteps := 4000000 }) only [tSeq, tNext, tDrop, tRet, tRetN, tIfS, tAsg, tTest, tAnd, tOr, tNot, tAndV, tOrV, tNotV, tIf, tOp, tUn, tVar, tC, tCB, tCons, tNil, tCall, tPart, tNoPart, tM0, tM1, tTup, tLst, tB, tIsN, tNotN, rI0, rI, rU, rEq, rNe, rAdd, gName, gTup, gCons, gNil, gSub, rSetL, rIxL, rIxT, rIxS, L2.start,
      List.map_cons, List.map_nil, List.cons_append, List.nil_append, List.append_nil, List.length_cons, List.length_nil, List.replicate, List.getElem?_cons_zero, List.getElem?_cons_succ, List.set_cons_zero, List.set_cons_succ, Nat.reduceAdd, Nat.reduceSub, Nat.sub_self, Nat.zero_add,
      Option.some.injEq, V.int.injEq, V.str.injEq, V.bl.injEq, V.ref.injEq, V.ty.injEq, List.cons.injEq, and_true, true_and, exists_eq_left, exists_eq_left', exists_eq_right, exists_and_left, exists_and_right, exists_const, decide_eq_true_eq, decide_eq_false_iff_not, if_true, if_false, reduceIte, Bool.false_eq_true, Bool.not_eq_true', sc_ii, sc_ss, sc_bb, str1, cx_K, lstAt, rIxM, rSetM, rLenM, atI_0, atI_1, atI_2, atI_3, setI_0, setI_1, setI_2, setI_3, upd_same, upd_upd, ite_true, ite_false, exists_eq', eq_self, and_assoc, rIsS, isTy_bb, isTy_bi, isTy_ib, isTy_ii, isTy_ss, isTy_nb, isTy_ni, Bool.not_true, Bool.not_false, not_true_eq_false, not_false_eq_true, tChain, tRz1, tRz2, rIsX, tFx, tMethE, tCallS, tCallZ, tMeth, tMake, tFld, sFld, HO.ins.injEq, HO.lst.injEq, HO.dK.injEq, HO.tup.injEq, dcAt, rDInM, rDGetM, rDSetM, rDLenM, keyOf_int, keyOf_str, rIsBM, plainV_b, plainV_i, plainV_n, plainV_s, rInM, tBMM, tBM0M, tSl, rSlM, rAppend, rPop, rClear, wAs, reduceCtorEq, false_implies, true_implies, implies_true, forall_const, cxH_K, clsV_ref, clsV_ty, HO.xd.injEq, Value.ref.injEq, lkc, lkn, pfn, pfc, List.map_nil, exf_NoSymbol T, T.no_NoSymbol_limit, T.ex_NoSymbol_SaggarError, T.kit_NoSymbol_NoSymbol, T.kit_NoSymbol_ValueError, isTy_si, isTy_is, isTy_sb, rIsL, rRepS]
      exact k
    · simp (config := { maxSteps := 4000000 }) only [tSeq, tNext, tDrop, tRet, tRetN, tIfS, tAsg, tTest, tAnd, tOr, tNot, tAndV, tOrV, tNotV, tIf, tOp, tUn, tVar, tC, tCB, tCons, tNil, tCall, tPart, tNoPart, tM0, tM1, tTup, tLst, tB, tIsN, tNotN, rI0, rI, rU, rEq, rNe, rAdd, gName, gTup, gCons, gNil, gSub, rSetL, rIxL, rIxT, rIxS, L2.start,
      List.map_cons, List.map_nil, List.cons_append, List.nil_append, List.append_nil, List.length_cons, List.length_nil, List.replicate, List.getElem?_cons_zero, List.getElem?_cons_succ, List.set_cons_zero, List.set_cons_succ, Nat.reduceAdd, Nat.reduceSub, Nat.sub_self, Nat.zero_add,
      Option.some.injEq, V.int.injEq, V.str.injEq, V.bl.injEq, V.ref.injEq, V.ty.injEq, List.cons.injEq, and_true, true_and, exists_eq_left, exists_eq_left', exists_eq_right, exists_and_left, exists_and_right, exists_const, decide_eq_true_eq, decide_eq_false_iff_not, if_true, if_false, reduceIte, Bool.false_eq_true, Bool.not_eq_true', sc_ii, sc_ss, sc_bb, str1, cx_K, lstAt, rIxM, rSetM, rLenM, atI_0, atI_1, atI_2, atI_3, setI_0, setI_1, setI_2, setI_3, upd_same, upd_upd, ite_true, ite_false, exists_eq', eq_self, and_assoc, rIsS, isTy_bb, isTy_bi, isTy_ib, isTy_ii, isTy_ss, isTy_nb, isTy_ni, Bool.not_true, Bool.not_false, not_true_eq_false, not_false_eq_true, tChain, tRz1, tRz2, rIsX, tFx, tMethE, tCallS, tCallZ, tMeth, tMake, tFld, sFld, HO.ins.injEq, HO.lst.injEq, HO.dK.injEq, HO.tup.injEq, dcAt, rDInM, rDGetM, rDSetM, rDLenM, keyOf_int, keyOf_str, rIsBM, plainV_b, plainV_i, plainV_n, plainV_s, rInM, tBMM, tBM0M, tSl, rSlM, rAppend, rPop, rClear, wAs, reduceCtorEq, false_implies, true_implies, implies_true, forall_const, cxH_K, clsV_ref, clsV_ty, HO.xd.injEq, Value.ref.injEq, lkc, lkn, pfn, pfc, List.map_nil, exf_NoSymbol T, T.no_NoSymbol_limit, T.ex_NoSymbol_SaggarError, T.kit_NoSymbol_NoSymbol, T.kit_NoSymbol_ValueError, isTy_si, isTy_is, isTy_sb, rIsL, rRepS]
      exact k
end

theorem inV_str {x : Str} {xs : List Str} : inV (.str x) (xs.map V.str) = decide (x ∈ xs) := by
  unfold inV
  rw [Bool.eq_iff_iff, List.any_map, List.any_eq_true, decide_eq_true_eq]
  constructor
  · rintro ⟨y, hy, e⟩
    have e2 : y = x := eq_of_beq e
    exact e2 ▸ hy
  · exact fun h => ⟨x, h, beq_self_eq_true x⟩
theorem flat_strs {xs : List Str} : (xs.map V.str).all flatV = true := by
  rw [List.all_map, List.all_eq_true]
  exact fun _ _ => rfl
def CaseY (m : Int) (xs : List Str) (x : Str) (kd : Str) (n : Int) (ys : List Str) : Prop :=
  (x ∈ xs ∧ kd = "number" ∧ (∀ i : Nat, xs[i]? = some x → n = i) ∧ ys = xs) ∨ (x ∉ xs ∧ 4000 < x.length ∧ kd = "error" ∧ n = 4000 ∧ ys = xs) ∨
  (x ∉ xs ∧ x.length ≤ 4000 ∧ m ≤ xs.length ∧ kd = "error" ∧ n = m ∧ ys = xs) ∨ (x ∉ xs ∧ x.length ≤ 4000 ∧ (xs.length : Int) < m ∧ kd = "number" ∧ n = xs.length ∧ ys = xs ++ [x])
theorem idx_nd {xs : List Str} {x : Str} {i j : Nat} (hn : xs.Nodup) (hi : xs[i]? = some x) (hj : xs[j]? = some x) : i = j := by
  have li := (List.getElem?_eq_some_iff.mp hi).1
  exact (List.getElem?_inj li hn).mp (hi.trans hj.symm)
def sp_asked (A : Ad) : Sp := fun vs H Q _ => ∃ a tl m xs pr dx t d x, vs = [.ref a, .ref tl, .int m, .str x] ∧ Iv A H a tl m xs xs pr dx t d ∧ xs.length < 900 ∧ x.length ≤ 10000 ∧ ∀ H' ys, ys.length ≤ xs.length + 1 → Iv A H' a tl m ys ys pr dx t d → Q (.bl true) H'
theorem sp_asked_len {A vs H Q E} (h : sp_asked A vs H Q E) : vs.length = (["symbols", "texts", "most", "text"] : List Str).length := by
  obtain ⟨_, _, _, _, _, _, _, _, _, rfl, _⟩ := h
  rfl
section
variable {P : Program} {w : World} {K : PySem.W.Frag} {mg : Str → Option Value} {base : Heap} {A : Ad}
theorem ok__law_asked (T : Txt K mg A) : FnOk P w K mg base CX0 4 A.f__law_asked A.d__law_asked ["symbols", "texts", "most", "text"] (sp_asked A) := by
  refine Fun.ok T.F__law_asked sc__law_asked (fun vs H Q E h => ?_) (fun cdv Ar outer s H vs Q E hr h => ?_)
  · exact sp_asked_len h
  · have hu := hu_of hr
    refine ⟨_, (pss_cons (ps_asg (pe_tup (pa_cons pe_str (pa_cons (pe_callB call_lenM (by rfl) T.z_len PySem.boot_len (pa_cons (pv 1) pa_nil)) pa_nil))) (pg_name (i := 4) sc__law_asked.nd rfl (Or.inl rfl)))
    (Evl.pss_cut (ps_if (pt_cmpR op_inM (pv 3) (pv 1) (by rfl)) (pss_one (ps_asg (pe_tup (pa_cons pe_str (pa_cons (pe_bmM PySem.F.slot_list_index PySem.F.type_list_index mt_index (pv 1) (pa_cons (pv 3) pa_nil)) pa_nil))) (pg_name (i := 4) sc__law_asked.nd rfl (Or.inl rfl)))) (pss_one (ps_if (pt_cmpR op_gt (pe_callB call_len_str (by rfl) T.z_len PySem.boot_len (pa_cons (pv 3) pa_nil)) pe_int (nomark _)) (pss_one (ps_asg (pe_tup (pa_cons pe_str (pa_cons pe_int pa_nil))) (pg_name (i := 4) sc__law_asked.nd rfl (Or.inl rfl)))) (pss_one (ps_if (pt_cmpR op_ge (pe_callB call_lenM (by rfl) T.z_len PySem.boot_len (pa_cons (pv 1) pa_nil)) (pv 2) (nomark _)) (pss_one (ps_asg (pe_tup (pa_cons pe_str (pa_cons (pv 2) pa_nil))) (pg_name (i := 4) sc__law_asked.nd rfl (Or.inl rfl)))) (pss_one (ps_expr (pe_bmM PySem.F.slot_list_append PySem.F.type_list_append mt_append (pv 1) (pa_cons (pv 3) pa_nil)))))))))
    (pss_cons (L2N.ps_try_as (i := 6) rfl rfl sc__law_asked.nd rfl rfl ⟨rfl, by decide, Or.inl T.m_SaggarError⟩ takesN (fun W pn xe tk _ => (pss_one (ps_asg (pe_tup (pa_cons pe_str (pa_cons (pe_methE (pv 0) T.cl_Symbols T.me_Symbols_number (ok_Symbols_number T) (hr.mono (by decide)) T.b_Symbols_number (fun σ => L2N.passAt tk σ) (pa_cons (pv 3) pa_nil)) pa_nil))) (pg_name (i := 5) sc__law_asked.nd rfl (Or.inl rfl)))))
      (fun a oe cls d pn hz hf => (pss_cons (ps_if (PW.pt (pw_or (pt_not (pt_val (pe_callB (call_isXs hz hf) (by rfl) T.z_isinstance (by decide +kernel) (pa_cons (pv 6) (pa_cons (pe_glob (v := .ref A.C_NoSymbol) (by rfl) T.m_NoSymbol rfl) pa_nil))))) (pw_or1 (pt_not (pt_val (pe_callB (call_isXs hz hf) (by rfl) T.z_isinstance (by decide +kernel) (pa_cons (pv 6) (pa_cons (pe_bltn (v := .ty "ValueError") (by rfl) T.z_ValueError (by decide +kernel) rfl) pa_nil)))))))) (pss_one (ps_ret pe_bl)) pss_nil)
    (pss_one (ps_asg (pe_tup (pa_cons pe_str (pa_cons (pe_fxs hz hf (pv 6)) pa_nil))) (pg_name (i := 5) sc__law_asked.nd rfl (Or.inl rfl)))))))
    (pss_one (ps_ret (pe_and (pe_cmpR op_eq (pe_ix ix_tup (pv 5) pe_int (fun _ _ => rfl)) (pe_ix ix_tup (pv 4) pe_int (fun _ _ => rfl)) (nomark _)) (pe_one (pe_call (ok__law_is T) (hr.mono (by decide)) (by rfl) T.g__law_is T.k__law_is T.b__law_is .nil pass0 (pa_cons (pe_ix ix_tup (pv 5) pe_int (fun _ _ => rfl)) (pa_cons (pe_ix ix_tup (pv 4) pe_int (fun _ _ => rfl)) pa_nil)))))))))), ?_⟩
    obtain ⟨a, tl, m, xs, pr, dx, t, d, x, rfl, I, hl, hx, k⟩ := h
    simp (config := { maxSteps := 4000000 }) only [tSeq, tNext, tDrop, tRet, tRetN, tIfS, tAsg, tTest, tAnd, tOr, tNot, tAndV, tOrV, tNotV, tIf, tOp, tUn, tVar, tC, tCB, tCons, tNil, tCall, tPart, tNoPart, tM0, tM1, tTup, tLst, tB, tIsN, tNotN, rI0, rI, rU, rEq, rNe, rAdd, gName, gTup, gCons, gNil, gSub, rSetL, rIxL, rIxT, rIxS, L2.start,
      List.map_cons, List.map_nil, List.cons_append, List.nil_append, List.append_nil, List.length_cons, List.length_nil, List.replicate, List.getElem?_cons_zero, List.getElem?_cons_succ, List.set_cons_zero, List.set_cons_succ, Nat.reduceAdd, Nat.reduceSub, Nat.sub_self, Nat.zero_add,
      Option.some.injEq, V.int.injEq, V.str.injEq, V.bl.injEq, V.ref.injEq, V.ty.injEq, List.cons.injEq, and_true, true_and, exists_eq_left, exists_eq_left', exists_eq_right, exists_and_left, exists_and_right, exists_const, decide_eq_true_eq, decide_eq_false_iff_not, if_true, if_false, reduceIte, Bool.false_eq_true, Bool.not_eq_true', sc_ii, sc_ss, sc_bb, str1, cx_K, lstAt, rIxM, rSetM, rLenM, atI_0, atI_1, atI_2, atI_3, setI_0, setI_1, setI_2, setI_3, upd_same, upd_upd, ite_true, ite_false, exists_eq', eq_self, and_assoc, rIsS, isTy_bb, isTy_bi, isTy_ib, isTy_ii, isTy_ss, isTy_nb, isTy_ni, Bool.not_true, Bool.not_false, not_true_eq_false, not_false_eq_true, tChain, tRz1, tRz2, rIsX, tFx, tMethE, tCallS, tCallZ, tMeth, tMake, tFld, sFld, HO.ins.injEq, HO.lst.injEq, HO.dK.injEq, HO.tup.injEq, dcAt, rDInM, rDGetM, rDSetM, rDLenM, keyOf_int, keyOf_str, rIsBM, plainV_b, plainV_i, plainV_n, plainV_s, rInM, tBMM, tBM0M, tSl, rSlM, rAppend, rPop, rClear, wAs, reduceCtorEq, false_implies, true_implies, implies_true, forall_const, cxH_K, clsV_ref, clsV_ty, HO.xd.injEq, Value.ref.injEq, lkc, lkn, pfn, pfc, List.map_nil, exf_NoSymbol T, T.no_NoSymbol_limit, T.ex_NoSymbol_SaggarError, T.kit_NoSymbol_NoSymbol, T.kit_NoSymbol_ValueError, I.ho, I.ht, I.hd, I.hl, T.cl_Symbols, T.no_Symbols_most, T.no_Symbols__texts, T.no_Symbols__numbers, syF_most, syF_texts, syF_numbers, syF_count, syF_number, syF_knows, syF_text, syF_textsM, syF_cut, syF_put, syF_len, List.length_map]
    refine ⟨by decide, fun p hp => ?_⟩
    have I1 := I.same (same_new (o := HO.tup [V.str (Str.ofString "number"), V.int xs.length]) hp)
    have hp1 : upd H p (HO.tup [V.str (Str.ofString "number"), V.int xs.length]) p = some (HO.tup [V.str (Str.ofString "number"), V.int xs.length]) := upd_same
    generalize upd H p (HO.tup [V.str (Str.ofString "number"), V.int xs.length]) = H1 at I1 hp1 ⊢
    clear I hp
    have I := I1
    have sz : (100000 : Nat) ≤ sizeLine := by decide
    have chain : ∀ (kd : Str) (n : Int) (p pd : Addr) (H4 : Hp), H4 p = some (.tup [.str kd, .int n]) → H4 pd = some (.tup [.str kd, .int n]) → Q (.bl true) H4 →
        ∃ x_1, SqT K H4 p x_1 ∧ ∃ x_2, atI x_1 0 = some x_2 ∧ ∃ x_3, SqT K H4 pd x_3 ∧ ∃ x_4, atI x_3 0 = some x_4 ∧ scal x_2 x_4 = true ∧ if x_2 = x_4 then ∃ x_5, SqT K H4 p x_5 ∧ ∃ x_6, atI x_5 1 = some x_6 ∧ ∃ x_7, SqT K H4 pd x_7 ∧ ∃ x_8, atI x_7 1 = some x_8 ∧
          sp_lis [x_6, x_8] H4 Q E0 else Q (V.bl false) H4 :=
      fun kd n p pd H4 h1 h2 q => ⟨_, .inl (.inl h1), .str kd, atI_0, _, .inl (.inl h2), .str kd, atI_0, rfl, by rw [if_pos rfl]; exact ⟨_, .inl (.inl h1), .int n, atI_1, _, .inl (.inl h2), .int n, atI_1, .inr ⟨n, n, rfl, by rw [decide_eq_true rfl]; exact q⟩⟩⟩
    refine ⟨fun σ2 H2 => ∃ (pd : Addr) (kd : Str) (n : Int) (ys : List Str), σ2 = [some (.ref a), some (.ref tl), some (.int m), some (.str x), some (.ref pd), none, none] ∧ H2 pd = some (.tup [.str kd, .int n]) ∧ Iv A H2 a tl m xs ys pr dx t d ∧ CaseY m xs x kd n ys, ?_, ?_⟩
    · simp (config := { maxSteps := 4000000 }) only [tSeq, tNext, tDrop, tRet, tRetN, tIfS, tAsg, tTest, tAnd, tOr, tNot, tAndV, tOrV, tNotV, tIf, tOp, tUn, tVar, tC, tCB, tCons, tNil, tCall, tPart, tNoPart, tM0, tM1, tTup, tLst, tB, tIsN, tNotN, rI0, rI, rU, rEq, rNe, rAdd, gName, gTup, gCons, gNil, gSub, rSetL, rIxL, rIxT, rIxS, L2.start,
      List.map_cons, List.map_nil, List.cons_append, List.nil_append, List.append_nil, List.length_cons, List.length_nil, List.replicate, List.getElem?_cons_zero, List.getElem?_cons_succ, List.set_cons_zero, List.set_cons_succ, Nat.reduceAdd, Nat.reduceSub, Nat.sub_self, Nat.zero_add,
      Option.some.injEq, V.int.injEq, V.str.injEq, V.bl.injEq, V.ref.injEq, V.ty.injEq, List.cons.injEq, and_true, true_and, exists_eq_left, exists_eq_left', exists_eq_right, exists_and_left, exists_and_right, exists_const, decide_eq_true_eq, decide_eq_false_iff_not, if_true, if_false, reduceIte, Bool.false_eq_true, Bool.not_eq_true', sc_ii, sc_ss, sc_bb, str1, cx_K, lstAt, rIxM, rSetM, rLenM, atI_0, atI_1, atI_2, atI_3, setI_0, setI_1, setI_2, setI_3, upd_same, upd_upd, ite_true, ite_false, exists_eq', eq_self, and_assoc, rIsS, isTy_bb, isTy_bi, isTy_ib, isTy_ii, isTy_ss, isTy_nb, isTy_ni, Bool.not_true, Bool.not_false, not_true_eq_false, not_false_eq_true, tChain, tRz1, tRz2, rIsX, tFx, tMethE, tCallS, tCallZ, tMeth, tMake, tFld, sFld, HO.ins.injEq, HO.lst.injEq, HO.dK.injEq, HO.tup.injEq, dcAt, rDInM, rDGetM, rDSetM, rDLenM, keyOf_int, keyOf_str, rIsBM, plainV_b, plainV_i, plainV_n, plainV_s, rInM, tBMM, tBM0M, tSl, rSlM, rAppend, rPop, rClear, wAs, reduceCtorEq, false_implies, true_implies, implies_true, forall_const, cxH_K, clsV_ref, clsV_ty, HO.xd.injEq, Value.ref.injEq, lkc, lkn, pfn, pfc, List.map_nil, exf_NoSymbol T, T.no_NoSymbol_limit, T.ex_NoSymbol_SaggarError, T.kit_NoSymbol_NoSymbol, T.kit_NoSymbol_ValueError, I.ho, I.ht, I.hd, I.hl, T.cl_Symbols, T.no_Symbols_most, T.no_Symbols__texts, T.no_Symbols__numbers, syF_most, syF_texts, syF_numbers, syF_count, syF_number, syF_knows, syF_text, syF_textsM, syF_cut, syF_put, syF_len, List.length_map]
      rw [inV_str]
      refine ⟨rfl, flat_strs, ite2 (fun c => ?_) (fun c => ?_)⟩
      · rw [decide_eq_true_eq] at c
        obtain ⟨i, hi⟩ := List.mem_iff_getElem?.mp c
        refine ⟨tl, xs.map V.str, .str x, i, .str x, rfl, rfl, .inl (.inl I.hl), rfl, flat_strs, by rw [List.getElem?_map, hi]; rfl, beq_self_eq_true x, fun j z' hj hz => ?_, ?_⟩
        · rw [List.getElem?_map] at hz
          cases hw : xs[j]? with
          | none =>
            rw [hw] at hz
            cases hz
          | some w2 =>
            rw [hw] at hz
            have e : V.str w2 = z' := Option.some.inj hz
            subst e
            show (w2 == x) = false
            refine beq_false_of_ne fun e => ?_
            subst e
            exact absurd (idx_nd I.nd hw hi) (by omega)
        · refine ⟨by decide, fun p2 hp2 => ⟨i, rfl, xs, I.same (same_new hp2), .inl ⟨c, rfl, fun j hj => ?_, rfl⟩⟩⟩
          rw [idx_nd I.nd hj hi]
      · rw [decide_eq_true_eq] at c
        refine ⟨by omega, ite2 (fun c2 => ?_) (fun c2 => ite2 (fun c3 => ?_) (fun c3 => ?_))⟩
        · exact ⟨by decide, fun p2 hp2 => ⟨xs, I.same (same_new hp2), .inr (.inl ⟨c, by omega, rfl, rfl, rfl⟩)⟩⟩
        · exact ⟨by decide, fun p2 hp2 => ⟨xs, I.same (same_new hp2), .inr (.inr (.inl ⟨c, by omega, c3, rfl, rfl, rfl⟩))⟩⟩
        · have ml : xs.map V.str ++ [V.str x] = (xs ++ [x]).map V.str := by
            rw [List.map_append]
            rfl
          rw [ml]
          refine ⟨by omega, "number", xs.length, ?_, xs ++ [x], I.law _ (by rw [List.length_append]; show xs.length + 1 ≤ 1000; omega), .inr (.inr (.inr ⟨c, by omega, by omega, rfl, rfl, rfl⟩))⟩
          rw [upd_ne (ne_ho hp1 I.hl (by simp))]
          exact hp1
    · rintro σ2 H2 ⟨pd, kd, n, ys, rfl, hpd, I2, cy⟩
      have I3 : Iv A H2 a tl m xs ys ((pd, .tup [.str kd, .int n]) :: pr) dx t d := ⟨I2.ho, I2.ht, I2.hd, I2.hl, I2.nd, I2.hn, I2.hn2, I2.ne, fun q hq => by
        rw [List.mem_cons] at hq
        rcases hq with rfl | hq
        · exact ⟨hpd, ne_ho hpd I2.ho (by simp), ne_ho hpd I2.ht (by simp), ne_ho hpd I2.hd (by simp), ne_ho hpd I2.hl (by simp)⟩
        · exact I2.hp q hq⟩
      have I := I2
      simp (config := { maxSteps := 4000000 }) only [tSeq, tNext, tDrop, tRet, tRetN, tIfS, tAsg, tTest, tAnd, tOr, tNot, tAndV, tOrV, tNotV, tIf, tOp, tUn, tVar, tC, tCB, tCons, tNil, tCall, tPart, tNoPart, tM0, tM1, tTup, tLst, tB, tIsN, tNotN, rI0, rI, rU, rEq, rNe, rAdd, gName, gTup, gCons, gNil, gSub, rSetL, rIxL, rIxT, rIxS, L2.start,
      List.map_cons, List.map_nil, List.cons_append, List.nil_append, List.append_nil, List.length_cons, List.length_nil, List.replicate, List.getElem?_cons_zero, List.getElem?_cons_succ, List.set_cons_zero, List.set_cons_succ, Nat.reduceAdd, Nat.reduceSub, Nat.sub_self, Nat.zero_add,
      Option.some.injEq, V.int.injEq, V.str.injEq, V.bl.injEq, V.ref.injEq, V.ty.injEq, List.cons.injEq, and_true, true_and, exists_eq_left, exists_eq_left', exists_eq_right, exists_and_left, exists_and_right, exists_const, decide_eq_true_eq, decide_eq_false_iff_not, if_true, if_false, reduceIte, Bool.false_eq_true, Bool.not_eq_true', sc_ii, sc_ss, sc_bb, str1, cx_K, lstAt, rIxM, rSetM, rLenM, atI_0, atI_1, atI_2, atI_3, setI_0, setI_1, setI_2, setI_3, upd_same, upd_upd, ite_true, ite_false, exists_eq', eq_self, and_assoc, rIsS, isTy_bb, isTy_bi, isTy_ib, isTy_ii, isTy_ss, isTy_nb, isTy_ni, Bool.not_true, Bool.not_false, not_true_eq_false, not_false_eq_true, tChain, tRz1, tRz2, rIsX, tFx, tMethE, tCallS, tCallZ, tMeth, tMake, tFld, sFld, HO.ins.injEq, HO.lst.injEq, HO.dK.injEq, HO.tup.injEq, dcAt, rDInM, rDGetM, rDSetM, rDLenM, keyOf_int, keyOf_str, rIsBM, plainV_b, plainV_i, plainV_n, plainV_s, rInM, tBMM, tBM0M, tSl, rSlM, rAppend, rPop, rClear, wAs, reduceCtorEq, false_implies, true_implies, implies_true, forall_const, cxH_K, clsV_ref, clsV_ty, HO.xd.injEq, Value.ref.injEq, lkc, lkn, pfn, pfc, List.map_nil, exf_NoSymbol T, T.no_NoSymbol_limit, T.ex_NoSymbol_SaggarError, T.kit_NoSymbol_NoSymbol, T.kit_NoSymbol_ValueError, hpd, I.ho, I.ht, I.hd, I.hl, T.cl_Symbols, T.no_Symbols_most, T.no_Symbols__texts, T.no_Symbols__numbers, syF_most, syF_texts, syF_numbers, syF_count, syF_number, syF_knows, syF_text, syF_textsM, syF_cut, syF_put, syF_len]
      refine ⟨a, tl, m, xs, ys, _, dx, t, d, x, rfl, I3, by omega, fun _ => by omega, fun i hi => ?_, fun hx' => ⟨fun c dd hdd => ?_, fun c c2 dd hdd => ?_, fun c c2 H3 J => ?_⟩⟩
      · rcases cy with ⟨c1, rfl, c2, rfl⟩ | ⟨c1, _⟩ | ⟨c1, _⟩ | ⟨c1, _⟩
        · have e := c2 i hi
          subst e
          refine ⟨by decide, fun p2 hp2 => chain _ i p2 pd _ upd_same ?_ (k _ _ (by omega) (I2.same (same_new hp2)))⟩
          rw [upd_ne (ne_of_none hpd hp2)]
          exact hpd
        · exact absurd (List.mem_of_getElem? hi) c1
        · exact absurd (List.mem_of_getElem? hi) c1
        · exact absurd (List.mem_of_getElem? hi) c1
      · have I4 := I2.same (same_new (o := HO.xd [(Str.ofString "limit", V.int 4000)]) hdd)
        have g : upd H2 dd (HO.xd [(Str.ofString "limit", V.int 4000)]) pd = some (.tup [.str kd, .int n]) := by
          rw [upd_ne (ne_of_none hpd hdd)]
          exact hpd
        simp (config := { maxSteps := 4000000 }) only [tSeq, tNext, tDrop, tRet, tRetN, tIfS, tAsg, tTest, tAnd, tOr, tNot, tAndV, tOrV, tNotV, tIf, tOp, tUn, tVar, tC, tCB, tCons, tNil, tCall, tPart, tNoPart, tM0, tM1, tTup, tLst, tB, tIsN, tNotN, rI0, rI, rU, rEq, rNe, rAdd, gName, gTup, gCons, gNil, gSub, rSetL, rIxL, rIxT, rIxS, L2.start,
      List.map_cons, List.map_nil, List.cons_append, List.nil_append, List.append_nil, List.length_cons, List.length_nil, List.replicate, List.getElem?_cons_zero, List.getElem?_cons_succ, List.set_cons_zero, List.set_cons_succ, Nat.reduceAdd, Nat.reduceSub, Nat.sub_self, Nat.zero_add,
      Option.some.injEq, V.int.injEq, V.str.injEq, V.bl.injEq, V.ref.injEq, V.ty.injEq, List.cons.injEq, and_true, true_and, exists_eq_left, exists_eq_left', exists_eq_right, exists_and_left, exists_and_right, exists_const, decide_eq_true_eq, decide_eq_false_iff_not, if_true, if_false, reduceIte, Bool.false_eq_true, Bool.not_eq_true', sc_ii, sc_ss, sc_bb, str1, cx_K, lstAt, rIxM, rSetM, rLenM, atI_0, atI_1, atI_2, atI_3, setI_0, setI_1, setI_2, setI_3, upd_same, upd_upd, ite_true, ite_false, exists_eq', eq_self, and_assoc, rIsS, isTy_bb, isTy_bi, isTy_ib, isTy_ii, isTy_ss, isTy_nb, isTy_ni, Bool.not_true, Bool.not_false, not_true_eq_false, not_false_eq_true, tChain, tRz1, tRz2, rIsX, tFx, tMethE, tCallS, tCallZ, tMeth, tMake, tFld, sFld, HO.ins.injEq, HO.lst.injEq, HO.dK.injEq, HO.tup.injEq, dcAt, rDInM, rDGetM, rDSetM, rDLenM, keyOf_int, keyOf_str, rIsBM, plainV_b, plainV_i, plainV_n, plainV_s, rInM, tBMM, tBM0M, tSl, rSlM, rAppend, rPop, rClear, wAs, reduceCtorEq, false_implies, true_implies, implies_true, forall_const, cxH_K, clsV_ref, clsV_ty, HO.xd.injEq, Value.ref.injEq, lkc, lkn, pfn, pfc, List.map_nil, exf_NoSymbol T, T.no_NoSymbol_limit, T.ex_NoSymbol_SaggarError, T.kit_NoSymbol_NoSymbol, T.kit_NoSymbol_ValueError, WE]
        intro b hb
        refine ⟨by decide, fun p2 hp2 => ?_⟩
        have I5 := I4.same (same_new (o := HO.tup [V.str (Str.ofString "error"), V.int 4000]) hp2)
        rcases cy with ⟨c1, _⟩ | ⟨_, c1, e1, e2, e3⟩ | ⟨_, c0, c1, e1, e2, e3⟩ | ⟨_, c0, c1, _⟩
        · exact absurd c1 hx'
        · subst e1 e2 e3
          refine chain _ 4000 p2 pd _ upd_same ?_ (k _ _ (by omega) I5)
          rw [upd_ne (ne_of_none g hp2)]
          exact g
        · omega
        · omega
      · have I4 := I2.same (same_new (o := HO.xd [(Str.ofString "limit", V.int m)]) hdd)
        have g : upd H2 dd (HO.xd [(Str.ofString "limit", V.int m)]) pd = some (.tup [.str kd, .int n]) := by
          rw [upd_ne (ne_of_none hpd hdd)]
          exact hpd
        simp (config := { maxSteps := 4000000 }) only [tSeq, tNext, tDrop, tRet, tRetN, tIfS, tAsg, tTest, tAnd, tOr, tNot, tAndV, tOrV, tNotV, tIf, tOp, tUn, tVar, tC, tCB, tCons, tNil, tCall, tPart, tNoPart, tM0, tM1, tTup, tLst, tB, tIsN, tNotN, rI0, rI, rU, rEq, rNe, rAdd, gName, gTup, gCons, gNil, gSub, rSetL, rIxL, rIxT, rIxS, L2.start,
      List.map_cons, List.map_nil, List.cons_append, List.nil_append, List.append_nil, List.length_cons, List.length_nil, List.replicate, List.getElem?_cons_zero, List.getElem?_cons_succ, List.set_cons_zero, List.set_cons_succ, Nat.reduceAdd, Nat.reduceSub, Nat.sub_self, Nat.zero_add,
      Option.some.injEq, V.int.injEq, V.str.injEq, V.bl.injEq, V.ref.injEq, V.ty.injEq, List.cons.injEq, and_true, true_and, exists_eq_left, exists_eq_left', exists_eq_right, exists_and_left, exists_and_right, exists_const, decide_eq_true_eq, decide_eq_false_iff_not, if_true, if_false, reduceIte, Bool.false_eq_true, Bool.not_eq_true', sc_ii, sc_ss, sc_bb, str1, cx_K, lstAt, rIxM, rSetM, rLenM, atI_0, atI_1, atI_2, atI_3, setI_0, setI_1, setI_2, setI_3, upd_same, upd_upd, ite_true, ite_false, exists_eq', eq_self, and_assoc, rIsS, isTy_bb, isTy_bi, isTy_ib, isTy_ii, isTy_ss, isTy_nb, isTy_ni, Bool.not_true, Bool.not_false, not_true_eq_false, not_false_eq_true, tChain, tRz1, tRz2, rIsX, tFx, tMethE, tCallS, tCallZ, tMeth, tMake, tFld, sFld, HO.ins.injEq, HO.lst.injEq, HO.dK.injEq, HO.tup.injEq, dcAt, rDInM, rDGetM, rDSetM, rDLenM, keyOf_int, keyOf_str, rIsBM, plainV_b, plainV_i, plainV_n, plainV_s, rInM, tBMM, tBM0M, tSl, rSlM, rAppend, rPop, rClear, wAs, reduceCtorEq, false_implies, true_implies, implies_true, forall_const, cxH_K, clsV_ref, clsV_ty, HO.xd.injEq, Value.ref.injEq, lkc, lkn, pfn, pfc, List.map_nil, exf_NoSymbol T, T.no_NoSymbol_limit, T.ex_NoSymbol_SaggarError, T.kit_NoSymbol_NoSymbol, T.kit_NoSymbol_ValueError, WE]
        intro b hb
        refine ⟨by decide, fun p2 hp2 => ?_⟩
        have I5 := I4.same (same_new (o := HO.tup [V.str (Str.ofString "error"), V.int m]) hp2)
        rcases cy with ⟨c1, _⟩ | ⟨_, c1, e1, e2, e3⟩ | ⟨_, c0, c1, e1, e2, e3⟩ | ⟨_, c0, c1, _⟩
        · exact absurd c1 hx'
        · omega
        · subst e1 e2 e3
          refine chain _ n p2 pd _ upd_same ?_ (k _ _ (by omega) I5)
          rw [upd_ne (ne_of_none g hp2)]
          exact g
        · omega
      · rcases cy with ⟨c1, _⟩ | ⟨_, c1, _⟩ | ⟨_, _, c1, _⟩ | ⟨_, _, _, rfl, rfl, rfl⟩
        · exact absurd c1 hx'
        · omega
        · omega
        · have g := (J.hp _ (List.mem_cons_self ..)).1
          have J2 : Iv A H3 a tl m (xs ++ [x]) (xs ++ [x]) pr dx t d := ⟨J.ho, J.ht, J.hd, J.hl, J.nd, J.hn, J.hn2, J.ne, fun q hq => J.hp q (List.mem_cons_of_mem _ hq)⟩
          refine ⟨by decide, fun p2 hp2 => chain _ _ p2 pd _ upd_same ?_ (k _ _ (by rw [List.length_append]; exact Nat.le_refl _) (J2.same (same_new hp2)))⟩
          rw [upd_ne (ne_of_none g hp2)]
          exact g
end

def sp_agrees (A : Ad) : Sp := fun vs H Q _ => ∃ a tl m xs pr dx t d, vs = [.ref a, .ref tl] ∧ Iv A H a tl m xs xs pr dx t d ∧ xs.length < 990 ∧ ∀ H', Iv A H' a tl m xs xs pr dx t d → Q (.bl true) H'
theorem sp_agrees_len {A vs H Q E} (h : sp_agrees A vs H Q E) : vs.length = (["symbols", "texts"] : List Str).length := by
  obtain ⟨_, _, _, _, _, _, _, _, rfl, _⟩ := h
  rfl
section
variable {P : Program} {w : World} {K : PySem.W.Frag} {mg : Str → Option Value} {base : Heap} {A : Ad}
theorem ok__law_agrees (T : Txt K mg A) : FnOk P w K mg base CX0 4 A.f__law_agrees A.d__law_agrees ["symbols", "texts"] (sp_agrees A) := by
  refine Fun.ok T.F__law_agrees sc__law_agrees (fun vs H Q E h => ?_) (fun cdv Ar outer s H vs Q E hr h => ?_)
  · exact sp_agrees_len h
  · have hu := hu_of hr
    refine ⟨_, (pss_cons (ps_asg (pe_meth0 (pv 0) T.cl_Symbols T.me_Symbols_texts (ok_Symbols_texts T) (hr.mono (by decide)) T.b_Symbols_texts .nil pass0) (pg_name (i := 2) sc__law_agrees.nd rfl (Or.inl rfl)))
    (pss_cons (ps_if (PW.pt (pw_or (pt_not (pt_val (pe_call (ok__law_is T) (hr.mono (by decide)) (by rfl) T.g__law_is T.k__law_is T.b__law_is .nil pass0 (pa_cons (pe_meth0 (pv 0) T.cl_Symbols T.me_Symbols_count (ok_Symbols_count T) (hr.mono (by decide)) T.b_Symbols_count .nil pass0) (pa_cons (pe_callB call_lenM (by rfl) T.z_len PySem.boot_len (pa_cons (pv 1) pa_nil)) pa_nil))))) (pw_or (pt_not (pt_val (pe_callB call_isL (by rfl) T.z_isinstance (by decide +kernel) (pa_cons (pv 2) (pa_cons (pe_bltn (v := .ty "list") (by rfl) T.z_list (by decide +kernel) rfl) pa_nil))))) (pw_or1 (pt_cmpR op_ne (pe_callB call_lenM (by rfl) T.z_len PySem.boot_len (pa_cons (pv 2) pa_nil)) (pe_callB call_lenM (by rfl) T.z_len PySem.boot_len (pa_cons (pv 1) pa_nil)) (nomark _)))))) (pss_one (ps_ret pe_bl)) pss_nil)
    (pss_cons (ps_for PassesOwn.never rfl (pi_range1 (by rfl) T.z_range (pa_cons (pe_callB call_lenM (by rfl) T.z_len PySem.boot_len (pa_cons (pv 1) pa_nil)) pa_nil)) (pg_name (i := 3) sc__law_agrees.nd rfl (Or.inl rfl))
      (pss_cons (ps_if (PW.pt (pw_or (pt_not (pt_val (pe_call (ok__law_is T) (hr.mono (by decide)) (by rfl) T.g__law_is T.k__law_is T.b__law_is .nil pass0 (pa_cons (pe_ix ix_lstM (pv 2) (pv 3) (fun _ _ => rfl)) (pa_cons (pe_ix ix_lstM (pv 1) (pv 3) (fun _ _ => rfl)) pa_nil))))) (pw_or1 (pt_not (pt_val (pe_call (ok__law_is T) (hr.mono (by decide)) (by rfl) T.g__law_is T.k__law_is T.b__law_is .nil pass0 (pa_cons (pe_meth (pv 0) T.cl_Symbols T.me_Symbols_text (ok_Symbols_text T) (hr.mono (by decide)) T.b_Symbols_text .nil pass0 (pa_cons (pv 3) pa_nil)) (pa_cons (pe_ix ix_lstM (pv 1) (pv 3) (fun _ _ => rfl)) pa_nil)))))))) (pss_one (ps_ret pe_bl)) pss_nil)
    (pss_one (ps_if (PW.pt (pw_or (pt_not (pt_val (pe_call (ok__law_is T) (hr.mono (by decide)) (by rfl) T.g__law_is T.k__law_is T.b__law_is .nil pass0 (pa_cons (pe_meth (pv 0) T.cl_Symbols T.me_Symbols_number (ok_Symbols_number T) (hr.mono (by decide)) T.b_Symbols_number .nil passN0 (pa_cons (pe_ix ix_lstM (pv 1) (pv 3) (fun _ _ => rfl)) pa_nil)) (pa_cons (pv 3) pa_nil))))) (pw_or1 (pt_cmpR op_isnot_bl (pe_meth (pv 0) T.cl_Symbols T.me_Symbols_knows (ok_Symbols_knows T) (hr.mono (by decide)) T.b_Symbols_knows .nil pass0 (pa_cons (pe_ix ix_lstM (pv 1) (pv 3) (fun _ _ => rfl)) pa_nil)) pe_bl (nomark _))))) (pss_one (ps_ret pe_bl)) pss_nil))))
    (pss_one (ps_ret pe_bl))))), ?_⟩
    obtain ⟨a, tl, m, xs, pr, dx, t, d, rfl, I, hl, k⟩ := h
    have sz : (100000 : Nat) ≤ sizeLine := by decide
    have lis : ∀ (i : Int) (R : VK) (H : Hp), R (.bl true) H → sp_lis [.int i, .int i] H R E0 := fun i R H h => .inr ⟨i, i, rfl, by rw [decide_eq_true rfl]; exact h⟩
    have liss : ∀ (i : Str) (R : VK) (H : Hp), R (.bl true) H → sp_lis [.str i, .str i] H R E0 := fun i R H h => .inl ⟨i, i, rfl, by rw [decide_eq_true rfl]; exact h⟩
    simp (config := { maxSteps := 4000000 }) only [tSeq, tNext, tDrop, tRet, tRetN, tIfS, tAsg, tTest, tAnd, tOr, tNot, tAndV, tOrV, tNotV, tIf, tOp, tUn, tVar, tC, tCB, tCons, tNil, tCall, tPart, tNoPart, tM0, tM1, tTup, tLst, tB, tIsN, tNotN, rI0, rI, rU, rEq, rNe, rAdd, gName, gTup, gCons, gNil, gSub, rSetL, rIxL, rIxT, rIxS, L2.start,
      List.map_cons, List.map_nil, List.cons_append, List.nil_append, List.append_nil, List.length_cons, List.length_nil, List.replicate, List.getElem?_cons_zero, List.getElem?_cons_succ, List.set_cons_zero, List.set_cons_succ, Nat.reduceAdd, Nat.reduceSub, Nat.sub_self, Nat.zero_add,
      Option.some.injEq, V.int.injEq, V.str.injEq, V.bl.injEq, V.ref.injEq, V.ty.injEq, List.cons.injEq, and_true, true_and, exists_eq_left, exists_eq_left', exists_eq_right, exists_and_left, exists_and_right, exists_const, decide_eq_true_eq, decide_eq_false_iff_not, if_true, if_false, reduceIte, Bool.false_eq_true, Bool.not_eq_true', sc_ii, sc_ss, sc_bb, str1, cx_K, lstAt, rIxM, rSetM, rLenM, atI_0, atI_1, atI_2, atI_3, setI_0, setI_1, setI_2, setI_3, upd_same, upd_upd, ite_true, ite_false, exists_eq', eq_self, and_assoc, rIsS, isTy_bb, isTy_bi, isTy_ib, isTy_ii, isTy_ss, isTy_nb, isTy_ni, Bool.not_true, Bool.not_false, not_true_eq_false, not_false_eq_true, tChain, tRz1, tRz2, rIsX, tFx, tMethE, tCallS, tCallZ, tMeth, tMake, tFld, sFld, HO.ins.injEq, HO.lst.injEq, HO.dK.injEq, HO.tup.injEq, dcAt, rDInM, rDGetM, rDSetM, rDLenM, keyOf_int, keyOf_str, rIsBM, plainV_b, plainV_i, plainV_n, plainV_s, rInM, tBMM, tBM0M, tSl, rSlM, rAppend, rPop, rClear, wAs, reduceCtorEq, false_implies, true_implies, implies_true, forall_const, cxH_K, clsV_ref, clsV_ty, HO.xd.injEq, Value.ref.injEq, lkc, lkn, pfn, pfc, List.map_nil, exf_NoSymbol T, T.no_NoSymbol_limit, T.ex_NoSymbol_SaggarError, T.kit_NoSymbol_NoSymbol, T.kit_NoSymbol_ValueError, I.ho, I.ht, I.hd, I.hl, T.cl_Symbols, T.no_Symbols_most, T.no_Symbols__texts, T.no_Symbols__numbers, syF_most, syF_texts, syF_numbers, syF_count, syF_number, syF_knows, syF_text, syF_textsM, syF_cut, syF_put, syF_len, List.length_map]
    refine ⟨a, tl, m, xs, xs, pr, dx, t, d, rfl, I, fun p hp => ?_⟩
    have I1 := I.same (same_new (o := HO.lst (xs.map V.str)) hp)
    have hp1 : upd H p (HO.lst (xs.map V.str)) p = some (HO.lst (xs.map V.str)) := upd_same
    generalize upd H p (HO.lst (xs.map V.str)) = H1 at I1 hp1 ⊢
    clear I hp
    have I := I1
    simp (config := { maxSteps := 4000000 }) only [tSeq, tNext, tDrop, tRet, tRetN, tIfS, tAsg, tTest, tAnd, tOr, tNot, tAndV, tOrV, tNotV, tIf, tOp, tUn, tVar, tC, tCB, tCons, tNil, tCall, tPart, tNoPart, tM0, tM1, tTup, tLst, tB, tIsN, tNotN, rI0, rI, rU, rEq, rNe, rAdd, gName, gTup, gCons, gNil, gSub, rSetL, rIxL, rIxT, rIxS, L2.start,
      List.map_cons, List.map_nil, List.cons_append, List.nil_append, List.append_nil, List.length_cons, List.length_nil, List.replicate, List.getElem?_cons_zero, List.getElem?_cons_succ, List.set_cons_zero, List.set_cons_succ, Nat.reduceAdd, Nat.reduceSub, Nat.sub_self, Nat.zero_add,
      Option.some.injEq, V.int.injEq, V.str.injEq, V.bl.injEq, V.ref.injEq, V.ty.injEq, List.cons.injEq, and_true, true_and, exists_eq_left, exists_eq_left', exists_eq_right, exists_and_left, exists_and_right, exists_const, decide_eq_true_eq, decide_eq_false_iff_not, if_true, if_false, reduceIte, Bool.false_eq_true, Bool.not_eq_true', sc_ii, sc_ss, sc_bb, str1, cx_K, lstAt, rIxM, rSetM, rLenM, atI_0, atI_1, atI_2, atI_3, setI_0, setI_1, setI_2, setI_3, upd_same, upd_upd, ite_true, ite_false, exists_eq', eq_self, and_assoc, rIsS, isTy_bb, isTy_bi, isTy_ib, isTy_ii, isTy_ss, isTy_nb, isTy_ni, Bool.not_true, Bool.not_false, not_true_eq_false, not_false_eq_true, tChain, tRz1, tRz2, rIsX, tFx, tMethE, tCallS, tCallZ, tMeth, tMake, tFld, sFld, HO.ins.injEq, HO.lst.injEq, HO.dK.injEq, HO.tup.injEq, dcAt, rDInM, rDGetM, rDSetM, rDLenM, keyOf_int, keyOf_str, rIsBM, plainV_b, plainV_i, plainV_n, plainV_s, rInM, tBMM, tBM0M, tSl, rSlM, rAppend, rPop, rClear, wAs, reduceCtorEq, false_implies, true_implies, implies_true, forall_const, cxH_K, clsV_ref, clsV_ty, HO.xd.injEq, Value.ref.injEq, lkc, lkn, pfn, pfc, List.map_nil, exf_NoSymbol T, T.no_NoSymbol_limit, T.ex_NoSymbol_SaggarError, T.kit_NoSymbol_NoSymbol, T.kit_NoSymbol_ValueError, hp1, I.ho, I.ht, I.hd, I.hl, T.cl_Symbols, T.no_Symbols_most, T.no_Symbols__texts, T.no_Symbols__numbers, syF_most, syF_texts, syF_numbers, syF_count, syF_number, syF_knows, syF_text, syF_textsM, syF_cut, syF_put, syF_len, List.length_map]
    refine ⟨a, tl, m, xs, xs, pr, dx, t, d, rfl, I, ?_⟩
    simp (config := { maxSteps := 4000000 }) only [tSeq, tNext, tDrop, tRet, tRetN, tIfS, tAsg, tTest, tAnd, tOr, tNot, tAndV, tOrV, tNotV, tIf, tOp, tUn, tVar, tC, tCB, tCons, tNil, tCall, tPart, tNoPart, tM0, tM1, tTup, tLst, tB, tIsN, tNotN, rI0, rI, rU, rEq, rNe, rAdd, gName, gTup, gCons, gNil, gSub, rSetL, rIxL, rIxT, rIxS, L2.start,
      List.map_cons, List.map_nil, List.cons_append, List.nil_append, List.append_nil, List.length_cons, List.length_nil, List.replicate, List.getElem?_cons_zero, List.getElem?_cons_succ, List.set_cons_zero, List.set_cons_succ, Nat.reduceAdd, Nat.reduceSub, Nat.sub_self, Nat.zero_add,
      Option.some.injEq, V.int.injEq, V.str.injEq, V.bl.injEq, V.ref.injEq, V.ty.injEq, List.cons.injEq, and_true, true_and, exists_eq_left, exists_eq_left', exists_eq_right, exists_and_left, exists_and_right, exists_const, decide_eq_true_eq, decide_eq_false_iff_not, if_true, if_false, reduceIte, Bool.false_eq_true, Bool.not_eq_true', sc_ii, sc_ss, sc_bb, str1, cx_K, lstAt, rIxM, rSetM, rLenM, atI_0, atI_1, atI_2, atI_3, setI_0, setI_1, setI_2, setI_3, upd_same, upd_upd, ite_true, ite_false, exists_eq', eq_self, and_assoc, rIsS, isTy_bb, isTy_bi, isTy_ib, isTy_ii, isTy_ss, isTy_nb, isTy_ni, Bool.not_true, Bool.not_false, not_true_eq_false, not_false_eq_true, tChain, tRz1, tRz2, rIsX, tFx, tMethE, tCallS, tCallZ, tMeth, tMake, tFld, sFld, HO.ins.injEq, HO.lst.injEq, HO.dK.injEq, HO.tup.injEq, dcAt, rDInM, rDGetM, rDSetM, rDLenM, keyOf_int, keyOf_str, rIsBM, plainV_b, plainV_i, plainV_n, plainV_s, rInM, tBMM, tBM0M, tSl, rSlM, rAppend, rPop, rClear, wAs, reduceCtorEq, false_implies, true_implies, implies_true, forall_const, cxH_K, clsV_ref, clsV_ty, HO.xd.injEq, Value.ref.injEq, lkc, lkn, pfn, pfc, List.map_nil, exf_NoSymbol T, T.no_NoSymbol_limit, T.ex_NoSymbol_SaggarError, T.kit_NoSymbol_NoSymbol, T.kit_NoSymbol_ValueError, hp1, I.ho, I.ht, I.hd, I.hl, T.cl_Symbols, T.no_Symbols_most, T.no_Symbols__texts, T.no_Symbols__numbers, syF_most, syF_texts, syF_numbers, syF_count, syF_number, syF_knows, syF_text, syF_textsM, syF_cut, syF_put, syF_len, List.length_map]
    refine lis _ _ _ ⟨true, rfl, ?_⟩
    simp (config := { maxSteps := 4000000 }) only [tSeq, tNext, tDrop, tRet, tRetN, tIfS, tAsg, tTest, tAnd, tOr, tNot, tAndV, tOrV, tNotV, tIf, tOp, tUn, tVar, tC, tCB, tCons, tNil, tCall, tPart, tNoPart, tM0, tM1, tTup, tLst, tB, tIsN, tNotN, rI0, rI, rU, rEq, rNe, rAdd, gName, gTup, gCons, gNil, gSub, rSetL, rIxL, rIxT, rIxS, L2.start,
      List.map_cons, List.map_nil, List.cons_append, List.nil_append, List.append_nil, List.length_cons, List.length_nil, List.replicate, List.getElem?_cons_zero, List.getElem?_cons_succ, List.set_cons_zero, List.set_cons_succ, Nat.reduceAdd, Nat.reduceSub, Nat.sub_self, Nat.zero_add,
      Option.some.injEq, V.int.injEq, V.str.injEq, V.bl.injEq, V.ref.injEq, V.ty.injEq, List.cons.injEq, and_true, true_and, exists_eq_left, exists_eq_left', exists_eq_right, exists_and_left, exists_and_right, exists_const, decide_eq_true_eq, decide_eq_false_iff_not, if_true, if_false, reduceIte, Bool.false_eq_true, Bool.not_eq_true', sc_ii, sc_ss, sc_bb, str1, cx_K, lstAt, rIxM, rSetM, rLenM, atI_0, atI_1, atI_2, atI_3, setI_0, setI_1, setI_2, setI_3, upd_same, upd_upd, ite_true, ite_false, exists_eq', eq_self, and_assoc, rIsS, isTy_bb, isTy_bi, isTy_ib, isTy_ii, isTy_ss, isTy_nb, isTy_ni, Bool.not_true, Bool.not_false, not_true_eq_false, not_false_eq_true, tChain, tRz1, tRz2, rIsX, tFx, tMethE, tCallS, tCallZ, tMeth, tMake, tFld, sFld, HO.ins.injEq, HO.lst.injEq, HO.dK.injEq, HO.tup.injEq, dcAt, rDInM, rDGetM, rDSetM, rDLenM, keyOf_int, keyOf_str, rIsBM, plainV_b, plainV_i, plainV_n, plainV_s, rInM, tBMM, tBM0M, tSl, rSlM, rAppend, rPop, rClear, wAs, reduceCtorEq, false_implies, true_implies, implies_true, forall_const, cxH_K, clsV_ref, clsV_ty, HO.xd.injEq, Value.ref.injEq, lkc, lkn, pfn, pfc, List.map_nil, exf_NoSymbol T, T.no_NoSymbol_limit, T.ex_NoSymbol_SaggarError, T.kit_NoSymbol_NoSymbol, T.kit_NoSymbol_ValueError, hp1, I.ho, I.ht, I.hd, I.hl, T.cl_Symbols, T.no_Symbols_most, T.no_Symbols__texts, T.no_Symbols__numbers, syF_most, syF_texts, syF_numbers, syF_count, syF_number, syF_knows, syF_text, syF_textsM, syF_cut, syF_put, syF_len, List.length_map, rIsL]
    refine for_rng (xs.length : Int) (fun R h => ?_) (by omega) (by omega) (fun i σ' H' => ∃ kk : Option V, σ' = [some (.ref a), some (.ref tl), some (.ref p), kk] ∧ Iv A H' a tl m xs xs pr dx t d ∧ H' p = some (.lst (xs.map V.str))) ⟨none, rfl, I, hp1⟩ ?_ ?_
    · simp (config := { maxSteps := 4000000 }) only [tSeq, tNext, tDrop, tRet, tRetN, tIfS, tAsg, tTest, tAnd, tOr, tNot, tAndV, tOrV, tNotV, tIf, tOp, tUn, tVar, tC, tCB, tCons, tNil, tCall, tPart, tNoPart, tM0, tM1, tTup, tLst, tB, tIsN, tNotN, rI0, rI, rU, rEq, rNe, rAdd, gName, gTup, gCons, gNil, gSub, rSetL, rIxL, rIxT, rIxS, L2.start,
      List.map_cons, List.map_nil, List.cons_append, List.nil_append, List.append_nil, List.length_cons, List.length_nil, List.replicate, List.getElem?_cons_zero, List.getElem?_cons_succ, List.set_cons_zero, List.set_cons_succ, Nat.reduceAdd, Nat.reduceSub, Nat.sub_self, Nat.zero_add,
      Option.some.injEq, V.int.injEq, V.str.injEq, V.bl.injEq, V.ref.injEq, V.ty.injEq, List.cons.injEq, and_true, true_and, exists_eq_left, exists_eq_left', exists_eq_right, exists_and_left, exists_and_right, exists_const, decide_eq_true_eq, decide_eq_false_iff_not, if_true, if_false, reduceIte, Bool.false_eq_true, Bool.not_eq_true', sc_ii, sc_ss, sc_bb, str1, cx_K, lstAt, rIxM, rSetM, rLenM, atI_0, atI_1, atI_2, atI_3, setI_0, setI_1, setI_2, setI_3, upd_same, upd_upd, ite_true, ite_false, exists_eq', eq_self, and_assoc, rIsS, isTy_bb, isTy_bi, isTy_ib, isTy_ii, isTy_ss, isTy_nb, isTy_ni, Bool.not_true, Bool.not_false, not_true_eq_false, not_false_eq_true, tChain, tRz1, tRz2, rIsX, tFx, tMethE, tCallS, tCallZ, tMeth, tMake, tFld, sFld, HO.ins.injEq, HO.lst.injEq, HO.dK.injEq, HO.tup.injEq, dcAt, rDInM, rDGetM, rDSetM, rDLenM, keyOf_int, keyOf_str, rIsBM, plainV_b, plainV_i, plainV_n, plainV_s, rInM, tBMM, tBM0M, tSl, rSlM, rAppend, rPop, rClear, wAs, reduceCtorEq, false_implies, true_implies, implies_true, forall_const, cxH_K, clsV_ref, clsV_ty, HO.xd.injEq, Value.ref.injEq, lkc, lkn, pfn, pfc, List.map_nil, exf_NoSymbol T, T.no_NoSymbol_limit, T.ex_NoSymbol_SaggarError, T.kit_NoSymbol_NoSymbol, T.kit_NoSymbol_ValueError, I.ho, I.ht, I.hd, I.hl, T.cl_Symbols, T.no_Symbols_most, T.no_Symbols__texts, T.no_Symbols__numbers, syF_most, syF_texts, syF_numbers, syF_count, syF_number, syF_knows, syF_text, syF_textsM, syF_cut, syF_put, syF_len, List.length_map]
      exact h
    · rintro i σ' H2 hi ⟨kk, rfl, I, h1⟩
      have hlt : i < xs.length := by omega
      have hy : xs[i]? = some xs[i] := List.getElem?_eq_getElem hlt
      generalize xs[i] = y at hy
      have hat : atI (xs.map V.str) (i : Int) = some (.str y) := atI_nat (by rw [List.getElem?_map, hy]; rfl)
      simp (config := { maxSteps := 4000000 }) only [tSeq, tNext, tDrop, tRet, tRetN, tIfS, tAsg, tTest, tAnd, tOr, tNot, tAndV, tOrV, tNotV, tIf, tOp, tUn, tVar, tC, tCB, tCons, tNil, tCall, tPart, tNoPart, tM0, tM1, tTup, tLst, tB, tIsN, tNotN, rI0, rI, rU, rEq, rNe, rAdd, gName, gTup, gCons, gNil, gSub, rSetL, rIxL, rIxT, rIxS, L2.start,
      List.map_cons, List.map_nil, List.cons_append, List.nil_append, List.append_nil, List.length_cons, List.length_nil, List.replicate, List.getElem?_cons_zero, List.getElem?_cons_succ, List.set_cons_zero, List.set_cons_succ, Nat.reduceAdd, Nat.reduceSub, Nat.sub_self, Nat.zero_add,
      Option.some.injEq, V.int.injEq, V.str.injEq, V.bl.injEq, V.ref.injEq, V.ty.injEq, List.cons.injEq, and_true, true_and, exists_eq_left, exists_eq_left', exists_eq_right, exists_and_left, exists_and_right, exists_const, decide_eq_true_eq, decide_eq_false_iff_not, if_true, if_false, reduceIte, Bool.false_eq_true, Bool.not_eq_true', sc_ii, sc_ss, sc_bb, str1, cx_K, lstAt, rIxM, rSetM, rLenM, atI_0, atI_1, atI_2, atI_3, setI_0, setI_1, setI_2, setI_3, upd_same, upd_upd, ite_true, ite_false, exists_eq', eq_self, and_assoc, rIsS, isTy_bb, isTy_bi, isTy_ib, isTy_ii, isTy_ss, isTy_nb, isTy_ni, Bool.not_true, Bool.not_false, not_true_eq_false, not_false_eq_true, tChain, tRz1, tRz2, rIsX, tFx, tMethE, tCallS, tCallZ, tMeth, tMake, tFld, sFld, HO.ins.injEq, HO.lst.injEq, HO.dK.injEq, HO.tup.injEq, dcAt, rDInM, rDGetM, rDSetM, rDLenM, keyOf_int, keyOf_str, rIsBM, plainV_b, plainV_i, plainV_n, plainV_s, rInM, tBMM, tBM0M, tSl, rSlM, rAppend, rPop, rClear, wAs, reduceCtorEq, false_implies, true_implies, implies_true, forall_const, cxH_K, clsV_ref, clsV_ty, HO.xd.injEq, Value.ref.injEq, lkc, lkn, pfn, pfc, List.map_nil, exf_NoSymbol T, T.no_NoSymbol_limit, T.ex_NoSymbol_SaggarError, T.kit_NoSymbol_NoSymbol, T.kit_NoSymbol_ValueError, h1, hat, I.ho, I.ht, I.hd, I.hl, T.cl_Symbols, T.no_Symbols_most, T.no_Symbols__texts, T.no_Symbols__numbers, syF_most, syF_texts, syF_numbers, syF_count, syF_number, syF_knows, syF_text, syF_textsM, syF_cut, syF_put, syF_len, List.length_map]
      refine liss _ _ _ ⟨true, rfl, ?_⟩
      simp (config := { maxSteps := 4000000 }) only [tSeq, tNext, tDrop, tRet, tRetN, tIfS, tAsg, tTest, tAnd, tOr, tNot, tAndV, tOrV, tNotV, tIf, tOp, tUn, tVar, tC, tCB, tCons, tNil, tCall, tPart, tNoPart, tM0, tM1, tTup, tLst, tB, tIsN, tNotN, rI0, rI, rU, rEq, rNe, rAdd, gName, gTup, gCons, gNil, gSub, rSetL, rIxL, rIxT, rIxS, L2.start,
      List.map_cons, List.map_nil, List.cons_append, List.nil_append, List.append_nil, List.length_cons, List.length_nil, List.replicate, List.getElem?_cons_zero, List.getElem?_cons_succ, List.set_cons_zero, List.set_cons_succ, Nat.reduceAdd, Nat.reduceSub, Nat.sub_self, Nat.zero_add,
      Option.some.injEq, V.int.injEq, V.str.injEq, V.bl.injEq, V.ref.injEq, V.ty.injEq, List.cons.injEq, and_true, true_and, exists_eq_left, exists_eq_left', exists_eq_right, exists_and_left, exists_and_right, exists_const, decide_eq_true_eq, decide_eq_false_iff_not, if_true, if_false, reduceIte, Bool.false_eq_true, Bool.not_eq_true', sc_ii, sc_ss, sc_bb, str1, cx_K, lstAt, rIxM, rSetM, rLenM, atI_0, atI_1, atI_2, atI_3, setI_0, setI_1, setI_2, setI_3, upd_same, upd_upd, ite_true, ite_false, exists_eq', eq_self, and_assoc, rIsS, isTy_bb, isTy_bi, isTy_ib, isTy_ii, isTy_ss, isTy_nb, isTy_ni, Bool.not_true, Bool.not_false, not_true_eq_false, not_false_eq_true, tChain, tRz1, tRz2, rIsX, tFx, tMethE, tCallS, tCallZ, tMeth, tMake, tFld, sFld, HO.ins.injEq, HO.lst.injEq, HO.dK.injEq, HO.tup.injEq, dcAt, rDInM, rDGetM, rDSetM, rDLenM, keyOf_int, keyOf_str, rIsBM, plainV_b, plainV_i, plainV_n, plainV_s, rInM, tBMM, tBM0M, tSl, rSlM, rAppend, rPop, rClear, wAs, reduceCtorEq, false_implies, true_implies, implies_true, forall_const, cxH_K, clsV_ref, clsV_ty, HO.xd.injEq, Value.ref.injEq, lkc, lkn, pfn, pfc, List.map_nil, exf_NoSymbol T, T.no_NoSymbol_limit, T.ex_NoSymbol_SaggarError, T.kit_NoSymbol_NoSymbol, T.kit_NoSymbol_ValueError, h1, hat, I.ho, I.ht, I.hd, I.hl, T.cl_Symbols, T.no_Symbols_most, T.no_Symbols__texts, T.no_Symbols__numbers, syF_most, syF_texts, syF_numbers, syF_count, syF_number, syF_knows, syF_text, syF_textsM, syF_cut, syF_put, syF_len, List.length_map]
      refine ⟨a, tl, m, xs, xs, pr, dx, t, d, i, y, rfl, I, hy, ?_⟩
      simp (config := { maxSteps := 4000000 }) only [tSeq, tNext, tDrop, tRet, tRetN, tIfS, tAsg, tTest, tAnd, tOr, tNot, tAndV, tOrV, tNotV, tIf, tOp, tUn, tVar, tC, tCB, tCons, tNil, tCall, tPart, tNoPart, tM0, tM1, tTup, tLst, tB, tIsN, tNotN, rI0, rI, rU, rEq, rNe, rAdd, gName, gTup, gCons, gNil, gSub, rSetL, rIxL, rIxT, rIxS, L2.start,
      List.map_cons, List.map_nil, List.cons_append, List.nil_append, List.append_nil, List.length_cons, List.length_nil, List.replicate, List.getElem?_cons_zero, List.getElem?_cons_succ, List.set_cons_zero, List.set_cons_succ, Nat.reduceAdd, Nat.reduceSub, Nat.sub_self, Nat.zero_add,
      Option.some.injEq, V.int.injEq, V.str.injEq, V.bl.injEq, V.ref.injEq, V.ty.injEq, List.cons.injEq, and_true, true_and, exists_eq_left, exists_eq_left', exists_eq_right, exists_and_left, exists_and_right, exists_const, decide_eq_true_eq, decide_eq_false_iff_not, if_true, if_false, reduceIte, Bool.false_eq_true, Bool.not_eq_true', sc_ii, sc_ss, sc_bb, str1, cx_K, lstAt, rIxM, rSetM, rLenM, atI_0, atI_1, atI_2, atI_3, setI_0, setI_1, setI_2, setI_3, upd_same, upd_upd, ite_true, ite_false, exists_eq', eq_self, and_assoc, rIsS, isTy_bb, isTy_bi, isTy_ib, isTy_ii, isTy_ss, isTy_nb, isTy_ni, Bool.not_true, Bool.not_false, not_true_eq_false, not_false_eq_true, tChain, tRz1, tRz2, rIsX, tFx, tMethE, tCallS, tCallZ, tMeth, tMake, tFld, sFld, HO.ins.injEq, HO.lst.injEq, HO.dK.injEq, HO.tup.injEq, dcAt, rDInM, rDGetM, rDSetM, rDLenM, keyOf_int, keyOf_str, rIsBM, plainV_b, plainV_i, plainV_n, plainV_s, rInM, tBMM, tBM0M, tSl, rSlM, rAppend, rPop, rClear, wAs, reduceCtorEq, false_implies, true_implies, implies_true, forall_const, cxH_K, clsV_ref, clsV_ty, HO.xd.injEq, Value.ref.injEq, lkc, lkn, pfn, pfc, List.map_nil, exf_NoSymbol T, T.no_NoSymbol_limit, T.ex_NoSymbol_SaggarError, T.kit_NoSymbol_NoSymbol, T.kit_NoSymbol_ValueError, h1, hat, I.ho, I.ht, I.hd, I.hl, T.cl_Symbols, T.no_Symbols_most, T.no_Symbols__texts, T.no_Symbols__numbers, syF_most, syF_texts, syF_numbers, syF_count, syF_number, syF_knows, syF_text, syF_textsM, syF_cut, syF_put, syF_len, List.length_map]
      refine liss _ _ _ ⟨true, rfl, ?_⟩
      simp (config := { maxSteps := 4000000 }) only [tSeq, tNext, tDrop, tRet, tRetN, tIfS, tAsg, tTest, tAnd, tOr, tNot, tAndV, tOrV, tNotV, tIf, tOp, tUn, tVar, tC, tCB, tCons, tNil, tCall, tPart, tNoPart, tM0, tM1, tTup, tLst, tB, tIsN, tNotN, rI0, rI, rU, rEq, rNe, rAdd, gName, gTup, gCons, gNil, gSub, rSetL, rIxL, rIxT, rIxS, L2.start,
      List.map_cons, List.map_nil, List.cons_append, List.nil_append, List.append_nil, List.length_cons, List.length_nil, List.replicate, List.getElem?_cons_zero, List.getElem?_cons_succ, List.set_cons_zero, List.set_cons_succ, Nat.reduceAdd, Nat.reduceSub, Nat.sub_self, Nat.zero_add,
      Option.some.injEq, V.int.injEq, V.str.injEq, V.bl.injEq, V.ref.injEq, V.ty.injEq, List.cons.injEq, and_true, true_and, exists_eq_left, exists_eq_left', exists_eq_right, exists_and_left, exists_and_right, exists_const, decide_eq_true_eq, decide_eq_false_iff_not, if_true, if_false, reduceIte, Bool.false_eq_true, Bool.not_eq_true', sc_ii, sc_ss, sc_bb, str1, cx_K, lstAt, rIxM, rSetM, rLenM, atI_0, atI_1, atI_2, atI_3, setI_0, setI_1, setI_2, setI_3, upd_same, upd_upd, ite_true, ite_false, exists_eq', eq_self, and_assoc, rIsS, isTy_bb, isTy_bi, isTy_ib, isTy_ii, isTy_ss, isTy_nb, isTy_ni, Bool.not_true, Bool.not_false, not_true_eq_false, not_false_eq_true, tChain, tRz1, tRz2, rIsX, tFx, tMethE, tCallS, tCallZ, tMeth, tMake, tFld, sFld, HO.ins.injEq, HO.lst.injEq, HO.dK.injEq, HO.tup.injEq, dcAt, rDInM, rDGetM, rDSetM, rDLenM, keyOf_int, keyOf_str, rIsBM, plainV_b, plainV_i, plainV_n, plainV_s, rInM, tBMM, tBM0M, tSl, rSlM, rAppend, rPop, rClear, wAs, reduceCtorEq, false_implies, true_implies, implies_true, forall_const, cxH_K, clsV_ref, clsV_ty, HO.xd.injEq, Value.ref.injEq, lkc, lkn, pfn, pfc, List.map_nil, exf_NoSymbol T, T.no_NoSymbol_limit, T.ex_NoSymbol_SaggarError, T.kit_NoSymbol_NoSymbol, T.kit_NoSymbol_ValueError, h1, hat, I.ho, I.ht, I.hd, I.hl, T.cl_Symbols, T.no_Symbols_most, T.no_Symbols__texts, T.no_Symbols__numbers, syF_most, syF_texts, syF_numbers, syF_count, syF_number, syF_knows, syF_text, syF_textsM, syF_cut, syF_put, syF_len, List.length_map]
      refine ⟨a, tl, m, xs, xs, pr, dx, t, d, y, rfl, I, by omega, fun hn => absurd (List.mem_of_getElem? hy) hn, fun j hj => ?_, fun hn => absurd (List.mem_of_getElem? hy) hn⟩
      rw [idx_nd I.nd hj hy]
      refine lis _ _ _ ⟨true, rfl, ?_⟩
      simp (config := { maxSteps := 4000000 }) only [tSeq, tNext, tDrop, tRet, tRetN, tIfS, tAsg, tTest, tAnd, tOr, tNot, tAndV, tOrV, tNotV, tIf, tOp, tUn, tVar, tC, tCB, tCons, tNil, tCall, tPart, tNoPart, tM0, tM1, tTup, tLst, tB, tIsN, tNotN, rI0, rI, rU, rEq, rNe, rAdd, gName, gTup, gCons, gNil, gSub, rSetL, rIxL, rIxT, rIxS, L2.start,
      List.map_cons, List.map_nil, List.cons_append, List.nil_append, List.append_nil, List.length_cons, List.length_nil, List.replicate, List.getElem?_cons_zero, List.getElem?_cons_succ, List.set_cons_zero, List.set_cons_succ, Nat.reduceAdd, Nat.reduceSub, Nat.sub_self, Nat.zero_add,
      Option.some.injEq, V.int.injEq, V.str.injEq, V.bl.injEq, V.ref.injEq, V.ty.injEq, List.cons.injEq, and_true, true_and, exists_eq_left, exists_eq_left', exists_eq_right, exists_and_left, exists_and_right, exists_const, decide_eq_true_eq, decide_eq_false_iff_not, if_true, if_false, reduceIte, Bool.false_eq_true, Bool.not_eq_true', sc_ii, sc_ss, sc_bb, str1, cx_K, lstAt, rIxM, rSetM, rLenM, atI_0, atI_1, atI_2, atI_3, setI_0, setI_1, setI_2, setI_3, upd_same, upd_upd, ite_true, ite_false, exists_eq', eq_self, and_assoc, rIsS, isTy_bb, isTy_bi, isTy_ib, isTy_ii, isTy_ss, isTy_nb, isTy_ni, Bool.not_true, Bool.not_false, not_true_eq_false, not_false_eq_true, tChain, tRz1, tRz2, rIsX, tFx, tMethE, tCallS, tCallZ, tMeth, tMake, tFld, sFld, HO.ins.injEq, HO.lst.injEq, HO.dK.injEq, HO.tup.injEq, dcAt, rDInM, rDGetM, rDSetM, rDLenM, keyOf_int, keyOf_str, rIsBM, plainV_b, plainV_i, plainV_n, plainV_s, rInM, tBMM, tBM0M, tSl, rSlM, rAppend, rPop, rClear, wAs, reduceCtorEq, false_implies, true_implies, implies_true, forall_const, cxH_K, clsV_ref, clsV_ty, HO.xd.injEq, Value.ref.injEq, lkc, lkn, pfn, pfc, List.map_nil, exf_NoSymbol T, T.no_NoSymbol_limit, T.ex_NoSymbol_SaggarError, T.kit_NoSymbol_NoSymbol, T.kit_NoSymbol_ValueError, h1, hat, I.ho, I.ht, I.hd, I.hl, T.cl_Symbols, T.no_Symbols_most, T.no_Symbols__texts, T.no_Symbols__numbers, syF_most, syF_texts, syF_numbers, syF_count, syF_number, syF_knows, syF_text, syF_textsM, syF_cut, syF_put, syF_len, List.length_map]
      refine ⟨a, tl, m, xs, xs, pr, dx, t, d, y, rfl, I, ?_⟩
      rw [decide_eq_true (List.mem_of_getElem? hy)]
      simp (config := { maxSteps := 4000000 }) only [tSeq, tNext, tDrop, tRet, tRetN, tIfS, tAsg, tTest, tAnd, tOr, tNot, tAndV, tOrV, tNotV, tIf, tOp, tUn, tVar, tC, tCB, tCons, tNil, tCall, tPart, tNoPart, tM0, tM1, tTup, tLst, tB, tIsN, tNotN, rI0, rI, rU, rEq, rNe, rAdd, gName, gTup, gCons, gNil, gSub, rSetL, rIxL, rIxT, rIxS, L2.start,
      List.map_cons, List.map_nil, List.cons_append, List.nil_append, List.append_nil, List.length_cons, List.length_nil, List.replicate, List.getElem?_cons_zero, List.getElem?_cons_succ, List.set_cons_zero, List.set_cons_succ, Nat.reduceAdd, Nat.reduceSub, Nat.sub_self, Nat.zero_add,
      Option.some.injEq, V.int.injEq, V.str.injEq, V.bl.injEq, V.ref.injEq, V.ty.injEq, List.cons.injEq, and_true, true_and, exists_eq_left, exists_eq_left', exists_eq_right, exists_and_left, exists_and_right, exists_const, decide_eq_true_eq, decide_eq_false_iff_not, if_true, if_false, reduceIte, Bool.false_eq_true, Bool.not_eq_true', sc_ii, sc_ss, sc_bb, str1, cx_K, lstAt, rIxM, rSetM, rLenM, atI_0, atI_1, atI_2, atI_3, setI_0, setI_1, setI_2, setI_3, upd_same, upd_upd, ite_true, ite_false, exists_eq', eq_self, and_assoc, rIsS, isTy_bb, isTy_bi, isTy_ib, isTy_ii, isTy_ss, isTy_nb, isTy_ni, Bool.not_true, Bool.not_false, not_true_eq_false, not_false_eq_true, tChain, tRz1, tRz2, rIsX, tFx, tMethE, tCallS, tCallZ, tMeth, tMake, tFld, sFld, HO.ins.injEq, HO.lst.injEq, HO.dK.injEq, HO.tup.injEq, dcAt, rDInM, rDGetM, rDSetM, rDLenM, keyOf_int, keyOf_str, rIsBM, plainV_b, plainV_i, plainV_n, plainV_s, rInM, tBMM, tBM0M, tSl, rSlM, rAppend, rPop, rClear, wAs, reduceCtorEq, false_implies, true_implies, implies_true, forall_const, cxH_K, clsV_ref, clsV_ty, HO.xd.injEq, Value.ref.injEq, lkc, lkn, pfn, pfc, List.map_nil, exf_NoSymbol T, T.no_NoSymbol_limit, T.ex_NoSymbol_SaggarError, T.kit_NoSymbol_NoSymbol, T.kit_NoSymbol_ValueError, h1, hat, I.ho, I.ht, I.hd, I.hl, T.cl_Symbols, T.no_Symbols_most, T.no_Symbols__texts, T.no_Symbols__numbers, syF_most, syF_texts, syF_numbers, syF_count, syF_number, syF_knows, syF_text, syF_textsM, syF_cut, syF_put, syF_len, List.length_map]
      exact I
    · rintro σ' H2 ⟨kk, rfl, I, h1⟩
      simp (config := { maxSteps := 4000000 }) only [tSeq, tNext, tDrop, tRet, tRetN, tIfS, tAsg, tTest, tAnd, tOr, tNot, tAndV, tOrV, tNotV, tIf, tOp, tUn, tVar, tC, tCB, tCons, tNil, tCall, tPart, tNoPart, tM0, tM1, tTup, tLst, tB, tIsN, tNotN, rI0, rI, rU, rEq, rNe, rAdd, gName, gTup, gCons, gNil, gSub, rSetL, rIxL, rIxT, rIxS, L2.start,
      List.map_cons, List.map_nil, List.cons_append, List.nil_append, List.append_nil, List.length_cons, List.length_nil, List.replicate, List.getElem?_cons_zero, List.getElem?_cons_succ, List.set_cons_zero, List.set_cons_succ, Nat.reduceAdd, Nat.reduceSub, Nat.sub_self, Nat.zero_add,
      Option.some.injEq, V.int.injEq, V.str.injEq, V.bl.injEq, V.ref.injEq, V.ty.injEq, List.cons.injEq, and_true, true_and, exists_eq_left, exists_eq_left', exists_eq_right, exists_and_left, exists_and_right, exists_const, decide_eq_true_eq, decide_eq_false_iff_not, if_true, if_false, reduceIte, Bool.false_eq_true, Bool.not_eq_true', sc_ii, sc_ss, sc_bb, str1, cx_K, lstAt, rIxM, rSetM, rLenM, atI_0, atI_1, atI_2, atI_3, setI_0, setI_1, setI_2, setI_3, upd_same, upd_upd, ite_true, ite_false, exists_eq', eq_self, and_assoc, rIsS, isTy_bb, isTy_bi, isTy_ib, isTy_ii, isTy_ss, isTy_nb, isTy_ni, Bool.not_true, Bool.not_false, not_true_eq_false, not_false_eq_true, tChain, tRz1, tRz2, rIsX, tFx, tMethE, tCallS, tCallZ, tMeth, tMake, tFld, sFld, HO.ins.injEq, HO.lst.injEq, HO.dK.injEq, HO.tup.injEq, dcAt, rDInM, rDGetM, rDSetM, rDLenM, keyOf_int, keyOf_str, rIsBM, plainV_b, plainV_i, plainV_n, plainV_s, rInM, tBMM, tBM0M, tSl, rSlM, rAppend, rPop, rClear, wAs, reduceCtorEq, false_implies, true_implies, implies_true, forall_const, cxH_K, clsV_ref, clsV_ty, HO.xd.injEq, Value.ref.injEq, lkc, lkn, pfn, pfc, List.map_nil, exf_NoSymbol T, T.no_NoSymbol_limit, T.ex_NoSymbol_SaggarError, T.kit_NoSymbol_NoSymbol, T.kit_NoSymbol_ValueError, h1, I.ho, I.ht, I.hd, I.hl, T.cl_Symbols, T.no_Symbols_most, T.no_Symbols__texts, T.no_Symbols__numbers, syF_most, syF_texts, syF_numbers, syF_count, syF_number, syF_knows, syF_text, syF_textsM, syF_cut, syF_put, syF_len, List.length_map]
      exact k _ I
end

def sp_deed (A : Ad) : Sp := fun vs H Q _ => ∃ a tl m xs pr dx t d x, vs = [.ref a, .ref tl, .int m, .int x] ∧ Iv A H a tl m xs xs pr dx t d ∧ xs.length < 900 ∧ ∀ H' t' ys, ys.length ≤ xs.length + 1 → Iv A H' a tl m ys ys pr dx t' d → Q (.bl true) H'
theorem sp_deed_len {A vs H Q E} (h : sp_deed A vs H Q E) : vs.length = (["symbols", "texts", "most", "x"] : List Str).length := by
  obtain ⟨_, _, _, _, _, _, _, _, _, rfl, _⟩ := h
  rfl
section
variable {P : Program} {w : World} {K : PySem.W.Frag} {mg : Str → Option Value} {base : Heap} {A : Ad}
theorem ok__law_deed (T : Txt K mg A) : FnOk P w K mg base CX0 5 A.f__law_deed A.d__law_deed ["symbols", "texts", "most", "x"] (sp_deed A) := by
  refine Fun.ok T.F__law_deed sc__law_deed (fun vs H Q E h => ?_) (fun cdv Ar outer s H vs Q E hr h => ?_)
  · exact sp_deed_len h
  · have hu := hu_of hr
    refine ⟨_, (pss_cons (ps_asg (pe_op op_mod (pe_callTy call_intI (by rfl) T.z_int (by decide +kernel) (pa_cons (pv 3) pa_nil)) pe_int) (pg_name (i := 4) sc__law_deed.nd rfl (Or.inl rfl)))
    (pss_cons (ps_asg (pe_op op_fdiv (pv 3) pe_int) (pg_name (i := 5) sc__law_deed.nd rfl (Or.inl rfl)))
    (pss_cons (ps_if (pt_cmpR op_lt (pv 4) pe_int (nomark _)) (pss_one (ps_ret (pe_call (ok__law_asked T) (hr.mono (by decide)) (by rfl) T.g__law_asked T.k__law_asked T.b__law_asked .nil pass0 (pa_cons (pv 0) (pa_cons (pv 1) (pa_cons (pv 2) (pa_cons (pe_call (ok__law_text T) (hr.mono (by decide)) (by rfl) T.g__law_text T.k__law_text T.b__law_text .nil pass0 (pa_cons (pv 5) pa_nil)) pa_nil))))))) pss_nil)
    (pss_cons (ps_if (pt_cmpR op_eq (pv 4) pe_int (nomark _)) (pss_cons (ps_asg (pe_call (ok__law_text T) (hr.mono (by decide)) (by rfl) T.g__law_text T.k__law_text T.b__law_text .nil pass0 (pa_cons (pv 5) pa_nil)) (pg_name (i := 6) sc__law_deed.nd rfl (Or.inl rfl)))
    (pss_cons (ps_if (pt_cmpR op_inM (pv 6) (pv 1) (by rfl)) (pss_one (ps_ret (pe_cmpR op_is_bl (pe_meth (pv 0) T.cl_Symbols T.me_Symbols_knows (ok_Symbols_knows T) (hr.mono (by decide)) T.b_Symbols_knows .nil pass0 (pa_cons (pv 6) pa_nil)) pe_bl (nomark _)))) pss_nil)
    (pss_one (ps_ret (pe_cmpR op_is_bl (pe_meth (pv 0) T.cl_Symbols T.me_Symbols_knows (ok_Symbols_knows T) (hr.mono (by decide)) T.b_Symbols_knows .nil pass0 (pa_cons (pv 6) pa_nil)) pe_bl (nomark _)))))) pss_nil)
    (pss_cons (ps_if (pt_cmpR op_eq (pv 4) pe_int (nomark _)) (pss_cons (ps_if (pt_not (pt_truth (pv 1) (by intro _; rfl))) (pss_one (ps_ret pe_bl)) pss_nil)
    (pss_one (ps_ret (pe_call (ok__law_is T) (hr.mono (by decide)) (by rfl) T.g__law_is T.k__law_is T.b__law_is .nil pass0 (pa_cons (pe_meth (pv 0) T.cl_Symbols T.me_Symbols_text (ok_Symbols_text T) (hr.mono (by decide)) T.b_Symbols_text .nil pass0 (pa_cons (pe_op op_mod (pe_callTy call_intI (by rfl) T.z_int (by decide +kernel) (pa_cons (pv 5) pa_nil)) (pe_callB call_lenM (by rfl) T.z_len PySem.boot_len (pa_cons (pv 1) pa_nil))) pa_nil)) (pa_cons (pe_ix ix_lstM (pv 1) (pe_op op_mod (pe_callTy call_intI (by rfl) T.z_int (by decide +kernel) (pa_cons (pv 5) pa_nil)) (pe_callB call_lenM (by rfl) T.z_len PySem.boot_len (pa_cons (pv 1) pa_nil))) (fun _ _ => rfl)) pa_nil)))))) pss_nil)
    (pss_cons (ps_if (pt_cmpR op_eq (pv 4) pe_int (nomark _)) (pss_cons (ps_asg (pe_op op_mod (pe_callTy call_intI (by rfl) T.z_int (by decide +kernel) (pa_cons (pv 5) pa_nil)) (pe_op op_add (pe_callB call_lenM (by rfl) T.z_len PySem.boot_len (pa_cons (pv 1) pa_nil)) pe_int)) (pg_name (i := 7) sc__law_deed.nd rfl (Or.inl rfl)))
    (pss_cons (ps_expr (pe_meth (pv 0) T.cl_Symbols T.me_Symbols_cut (ok_Symbols_cut T) (hr.mono (by decide)) T.b_Symbols_cut .nil pass0 (pa_cons (pv 7) pa_nil)))
    (pss_cons (ps_for PassesOwn.never rfl (pi_range1 (by rfl) T.z_range (pa_cons (pe_op op_sub (pe_callB call_lenM (by rfl) T.z_len PySem.boot_len (pa_cons (pv 1) pa_nil)) (pv 7)) pa_nil)) (pg_name (i := 8) sc__law_deed.nd rfl (Or.inl rfl))
      (pss_one (ps_expr (pe_bm0M PySem.F.slot_list_pop PySem.F.type_list_pop mt_pop (pv 1)))))
    (pss_one (ps_ret pe_bl))))) pss_nil)
    (pss_cons (ps_expr (pe_bmM PySem.F.slot_list_append PySem.F.type_list_append mt_append (pe_meth0 (pv 0) T.cl_Symbols T.me_Symbols_texts (ok_Symbols_texts T) (hr.mono (by decide)) T.b_Symbols_texts .nil pass0) (pa_cons pe_str pa_nil)))
    (pss_cons (ps_expr (pe_bm0M PySem.F.slot_list_clear PySem.F.type_list_clear mt_clear (pe_meth0 (pv 0) T.cl_Symbols T.me_Symbols_texts (ok_Symbols_texts T) (hr.mono (by decide)) T.b_Symbols_texts .nil pass0)))
    (pss_one (ps_ret pe_bl)))))))))), ?_⟩
    obtain ⟨a, tl, m, xs, pr, dx, t, d, x, rfl, I, hl, k⟩ := h
    simp (config := { maxSteps := 4000000 }) only [tSeq, tNext, tDrop, tRet, tRetN, tIfS, tAsg, tTest, tAnd, tOr, tNot, tAndV, tOrV, tNotV, tIf, tOp, tUn, tVar, tC, tCB, tCons, tNil, tCall, tPart, tNoPart, tM0, tM1, tTup, tLst, tB, tIsN, tNotN, rI0, rI, rU, rEq, rNe, rAdd, gName, gTup, gCons, gNil, gSub, rSetL, rIxL, rIxT, rIxS, L2.start,
      List.map_cons, List.map_nil, List.cons_append, List.nil_append, List.append_nil, List.length_cons, List.length_nil, List.replicate, List.getElem?_cons_zero, List.getElem?_cons_succ, List.set_cons_zero, List.set_cons_succ, Nat.reduceAdd, Nat.reduceSub, Nat.sub_self, Nat.zero_add,
      Option.some.injEq, V.int.injEq, V.str.injEq, V.bl.injEq, V.ref.injEq, V.ty.injEq, List.cons.injEq, and_true, true_and, exists_eq_left, exists_eq_left', exists_eq_right, exists_and_left, exists_and_right, exists_const, decide_eq_true_eq, decide_eq_false_iff_not, if_true, if_false, reduceIte, Bool.false_eq_true, Bool.not_eq_true', sc_ii, sc_ss, sc_bb, str1, cx_K, lstAt, rIxM, rSetM, rLenM, atI_0, atI_1, atI_2, atI_3, setI_0, setI_1, setI_2, setI_3, upd_same, upd_upd, ite_true, ite_false, exists_eq', eq_self, and_assoc, rIsS, isTy_bb, isTy_bi, isTy_ib, isTy_ii, isTy_ss, isTy_nb, isTy_ni, Bool.not_true, Bool.not_false, not_true_eq_false, not_false_eq_true, tChain, tRz1, tRz2, rIsX, tFx, tMethE, tCallS, tCallZ, tMeth, tMake, tFld, sFld, HO.ins.injEq, HO.lst.injEq, HO.dK.injEq, HO.tup.injEq, dcAt, rDInM, rDGetM, rDSetM, rDLenM, keyOf_int, keyOf_str, rIsBM, plainV_b, plainV_i, plainV_n, plainV_s, rInM, tBMM, tBM0M, tSl, rSlM, rAppend, rPop, rClear, wAs, reduceCtorEq, false_implies, true_implies, implies_true, forall_const, cxH_K, clsV_ref, clsV_ty, HO.xd.injEq, Value.ref.injEq, lkc, lkn, pfn, pfc, List.map_nil, exf_NoSymbol T, T.no_NoSymbol_limit, T.ex_NoSymbol_SaggarError, T.kit_NoSymbol_NoSymbol, T.kit_NoSymbol_ValueError, I.ho, I.ht, I.hd, I.hl, T.cl_Symbols, T.no_Symbols_most, T.no_Symbols__texts, T.no_Symbols__numbers, syF_most, syF_texts, syF_numbers, syF_count, syF_number, syF_knows, syF_text, syF_textsM, syF_cut, syF_put, syF_len, List.length_map]
    refine ⟨by decide, ⟨by decide, by decide⟩, ite2 (fun c => ?_) (fun c => ite2 (fun c2 => ?_) (fun c2 => ite2 (fun c3 => ?_) (fun c3 => ite2 (fun c4 => ?_) (fun c4 => ?_))))⟩
    · exact ⟨_, rfl, fun z hz => ⟨a, tl, m, xs, pr, dx, t, d, z, rfl, I, hl, by omega, fun H' ys hy J => k H' t ys hy J⟩⟩
    · refine ⟨_, rfl, fun z hz => ?_⟩
      simp (config := { maxSteps := 4000000 }) only [tSeq, tNext, tDrop, tRet, tRetN, tIfS, tAsg, tTest, tAnd, tOr, tNot, tAndV, tOrV, tNotV, tIf, tOp, tUn, tVar, tC, tCB, tCons, tNil, tCall, tPart, tNoPart, tM0, tM1, tTup, tLst, tB, tIsN, tNotN, rI0, rI, rU, rEq, rNe, rAdd, gName, gTup, gCons, gNil, gSub, rSetL, rIxL, rIxT, rIxS, L2.start,
      List.map_cons, List.map_nil, List.cons_append, List.nil_append, List.append_nil, List.length_cons, List.length_nil, List.replicate, List.getElem?_cons_zero, List.getElem?_cons_succ, List.set_cons_zero, List.set_cons_succ, Nat.reduceAdd, Nat.reduceSub, Nat.sub_self, Nat.zero_add,
      Option.some.injEq, V.int.injEq, V.str.injEq, V.bl.injEq, V.ref.injEq, V.ty.injEq, List.cons.injEq, and_true, true_and, exists_eq_left, exists_eq_left', exists_eq_right, exists_and_left, exists_and_right, exists_const, decide_eq_true_eq, decide_eq_false_iff_not, if_true, if_false, reduceIte, Bool.false_eq_true, Bool.not_eq_true', sc_ii, sc_ss, sc_bb, str1, cx_K, lstAt, rIxM, rSetM, rLenM, atI_0, atI_1, atI_2, atI_3, setI_0, setI_1, setI_2, setI_3, upd_same, upd_upd, ite_true, ite_false, exists_eq', eq_self, and_assoc, rIsS, isTy_bb, isTy_bi, isTy_ib, isTy_ii, isTy_ss, isTy_nb, isTy_ni, Bool.not_true, Bool.not_false, not_true_eq_false, not_false_eq_true, tChain, tRz1, tRz2, rIsX, tFx, tMethE, tCallS, tCallZ, tMeth, tMake, tFld, sFld, HO.ins.injEq, HO.lst.injEq, HO.dK.injEq, HO.tup.injEq, dcAt, rDInM, rDGetM, rDSetM, rDLenM, keyOf_int, keyOf_str, rIsBM, plainV_b, plainV_i, plainV_n, plainV_s, rInM, tBMM, tBM0M, tSl, rSlM, rAppend, rPop, rClear, wAs, reduceCtorEq, false_implies, true_implies, implies_true, forall_const, cxH_K, clsV_ref, clsV_ty, HO.xd.injEq, Value.ref.injEq, lkc, lkn, pfn, pfc, List.map_nil, exf_NoSymbol T, T.no_NoSymbol_limit, T.ex_NoSymbol_SaggarError, T.kit_NoSymbol_NoSymbol, T.kit_NoSymbol_ValueError, I.ho, I.ht, I.hd, I.hl, T.cl_Symbols, T.no_Symbols_most, T.no_Symbols__texts, T.no_Symbols__numbers, syF_most, syF_texts, syF_numbers, syF_count, syF_number, syF_knows, syF_text, syF_textsM, syF_cut, syF_put, syF_len, List.length_map]
      rw [inV_str]
      refine ⟨rfl, flat_strs, ite2 (fun e => ?_) (fun e => ?_)⟩
      · refine ⟨a, tl, m, xs, xs, pr, dx, t, d, z, rfl, I, ?_⟩
        rw [e]
        exact ⟨true, rfl, k H t xs (by omega) I⟩
      · have e : decide (z ∈ xs) = false := by simpa using e
        refine ⟨a, tl, m, xs, xs, pr, dx, t, d, z, rfl, I, ?_⟩
        rw [e]
        exact ⟨false, rfl, k H t xs (by omega) I⟩
    · refine ⟨_, .inl ⟨_, .inl (.inl I.hl), rfl⟩, ite2 (fun _ => k H t xs (by omega) I) (fun e => ?_)⟩
      have pos : 0 < xs.length := by
        cases xs with
        | nil => exact absurd rfl e
        | cons _ _ => exact Nat.succ_pos _
      have q0 := Int.emod_nonneg (x / 7) (show (xs.length : Int) ≠ 0 by omega)
      have q1 := Int.emod_lt_of_pos (x / 7) (show (0 : Int) < (xs.length : Int) by omega)
      obtain ⟨j, hj⟩ : ∃ j : Nat, x / 7 % (xs.length : Int) = j := ⟨_, (Int.toNat_of_nonneg q0).symm⟩
      rw [hj]
      have hlt : j < xs.length := by omega
      have hy : xs[j]? = some xs[j] := List.getElem?_eq_getElem hlt
      generalize xs[j] = y at hy
      have hat : atI (xs.map V.str) (j : Int) = some (.str y) := atI_nat (by rw [List.getElem?_map, hy]; rfl)
      refine ⟨by omega, a, tl, m, xs, xs, pr, dx, t, d, j, y, rfl, I, hy, ?_⟩
      simp (config := { maxSteps := 4000000 }) only [tSeq, tNext, tDrop, tRet, tRetN, tIfS, tAsg, tTest, tAnd, tOr, tNot, tAndV, tOrV, tNotV, tIf, tOp, tUn, tVar, tC, tCB, tCons, tNil, tCall, tPart, tNoPart, tM0, tM1, tTup, tLst, tB, tIsN, tNotN, rI0, rI, rU, rEq, rNe, rAdd, gName, gTup, gCons, gNil, gSub, rSetL, rIxL, rIxT, rIxS, L2.start,
      List.map_cons, List.map_nil, List.cons_append, List.nil_append, List.append_nil, List.length_cons, List.length_nil, List.replicate, List.getElem?_cons_zero, List.getElem?_cons_succ, List.set_cons_zero, List.set_cons_succ, Nat.reduceAdd, Nat.reduceSub, Nat.sub_self, Nat.zero_add,
      Option.some.injEq, V.int.injEq, V.str.injEq, V.bl.injEq, V.ref.injEq, V.ty.injEq, List.cons.injEq, and_true, true_and, exists_eq_left, exists_eq_left', exists_eq_right, exists_and_left, exists_and_right, exists_const, decide_eq_true_eq, decide_eq_false_iff_not, if_true, if_false, reduceIte, Bool.false_eq_true, Bool.not_eq_true', sc_ii, sc_ss, sc_bb, str1, cx_K, lstAt, rIxM, rSetM, rLenM, atI_0, atI_1, atI_2, atI_3, setI_0, setI_1, setI_2, setI_3, upd_same, upd_upd, ite_true, ite_false, exists_eq', eq_self, and_assoc, rIsS, isTy_bb, isTy_bi, isTy_ib, isTy_ii, isTy_ss, isTy_nb, isTy_ni, Bool.not_true, Bool.not_false, not_true_eq_false, not_false_eq_true, tChain, tRz1, tRz2, rIsX, tFx, tMethE, tCallS, tCallZ, tMeth, tMake, tFld, sFld, HO.ins.injEq, HO.lst.injEq, HO.dK.injEq, HO.tup.injEq, dcAt, rDInM, rDGetM, rDSetM, rDLenM, keyOf_int, keyOf_str, rIsBM, plainV_b, plainV_i, plainV_n, plainV_s, rInM, tBMM, tBM0M, tSl, rSlM, rAppend, rPop, rClear, wAs, reduceCtorEq, false_implies, true_implies, implies_true, forall_const, cxH_K, clsV_ref, clsV_ty, HO.xd.injEq, Value.ref.injEq, lkc, lkn, pfn, pfc, List.map_nil, exf_NoSymbol T, T.no_NoSymbol_limit, T.ex_NoSymbol_SaggarError, T.kit_NoSymbol_NoSymbol, T.kit_NoSymbol_ValueError, hat, hj, I.ho, I.ht, I.hd, I.hl, T.cl_Symbols, T.no_Symbols_most, T.no_Symbols__texts, T.no_Symbols__numbers, syF_most, syF_texts, syF_numbers, syF_count, syF_number, syF_knows, syF_text, syF_textsM, syF_cut, syF_put, syF_len, List.length_map]
      refine ⟨by omega, .inl ⟨y, y, rfl, ?_⟩⟩
      rw [decide_eq_true rfl]
      exact k H t xs (by omega) I
    · have q0 := Int.emod_nonneg (x / 7) (show (xs.length : Int) + 3 ≠ 0 by omega)
      have q1 := Int.emod_lt_of_pos (x / 7) (show (0 : Int) < (xs.length : Int) + 3 by omega)
      generalize x / 7 % ((xs.length : Int) + 3) = r at q0 q1 ⊢
      obtain ⟨j, rfl⟩ : ∃ j : Nat, r = j := ⟨_, (Int.toNat_of_nonneg q0).symm⟩
      refine ⟨by omega, a, tl, m, xs, xs, pr, dx, t, d, j, rfl, I, fun t' H1 J => ?_⟩
      refine for_rngT ((xs.length : Int) - j) (fun R h => ?_) (by omega) (by omega) (fun i σ' H' => ∃ kk : Option V, σ' = [some (V.ref a), some (V.ref tl), some (V.int m), some (V.int x), some (V.int (x % 7)), some (V.int (x / 7)), none, some (V.int j), kk] ∧
        Iv A H' a tl m (xs.take j) (xs.take (xs.length - i)) pr dx t' d) ⟨none, rfl, by rw [Nat.sub_zero, List.take_length]; exact J⟩ ?_ ?_
      · simp (config := { maxSteps := 4000000 }) only [tSeq, tNext, tDrop, tRet, tRetN, tIfS, tAsg, tTest, tAnd, tOr, tNot, tAndV, tOrV, tNotV, tIf, tOp, tUn, tVar, tC, tCB, tCons, tNil, tCall, tPart, tNoPart, tM0, tM1, tTup, tLst, tB, tIsN, tNotN, rI0, rI, rU, rEq, rNe, rAdd, gName, gTup, gCons, gNil, gSub, rSetL, rIxL, rIxT, rIxS, L2.start,
      List.map_cons, List.map_nil, List.cons_append, List.nil_append, List.append_nil, List.length_cons, List.length_nil, List.replicate, List.getElem?_cons_zero, List.getElem?_cons_succ, List.set_cons_zero, List.set_cons_succ, Nat.reduceAdd, Nat.reduceSub, Nat.sub_self, Nat.zero_add,
      Option.some.injEq, V.int.injEq, V.str.injEq, V.bl.injEq, V.ref.injEq, V.ty.injEq, List.cons.injEq, and_true, true_and, exists_eq_left, exists_eq_left', exists_eq_right, exists_and_left, exists_and_right, exists_const, decide_eq_true_eq, decide_eq_false_iff_not, if_true, if_false, reduceIte, Bool.false_eq_true, Bool.not_eq_true', sc_ii, sc_ss, sc_bb, str1, cx_K, lstAt, rIxM, rSetM, rLenM, atI_0, atI_1, atI_2, atI_3, setI_0, setI_1, setI_2, setI_3, upd_same, upd_upd, ite_true, ite_false, exists_eq', eq_self, and_assoc, rIsS, isTy_bb, isTy_bi, isTy_ib, isTy_ii, isTy_ss, isTy_nb, isTy_ni, Bool.not_true, Bool.not_false, not_true_eq_false, not_false_eq_true, tChain, tRz1, tRz2, rIsX, tFx, tMethE, tCallS, tCallZ, tMeth, tMake, tFld, sFld, HO.ins.injEq, HO.lst.injEq, HO.dK.injEq, HO.tup.injEq, dcAt, rDInM, rDGetM, rDSetM, rDLenM, keyOf_int, keyOf_str, rIsBM, plainV_b, plainV_i, plainV_n, plainV_s, rInM, tBMM, tBM0M, tSl, rSlM, rAppend, rPop, rClear, wAs, reduceCtorEq, false_implies, true_implies, implies_true, forall_const, cxH_K, clsV_ref, clsV_ty, HO.xd.injEq, Value.ref.injEq, lkc, lkn, pfn, pfc, List.map_nil, exf_NoSymbol T, T.no_NoSymbol_limit, T.ex_NoSymbol_SaggarError, T.kit_NoSymbol_NoSymbol, T.kit_NoSymbol_ValueError, J.ho, J.ht, J.hd, J.hl, T.cl_Symbols, T.no_Symbols_most, T.no_Symbols__texts, T.no_Symbols__numbers, syF_most, syF_texts, syF_numbers, syF_count, syF_number, syF_knows, syF_text, syF_textsM, syF_cut, syF_put, syF_len, List.length_map]
        exact h
      · rintro i σ' H2 hi ⟨kk, rfl, J⟩
        simp (config := { maxSteps := 4000000 }) only [tSeq, tNext, tDrop, tRet, tRetN, tIfS, tAsg, tTest, tAnd, tOr, tNot, tAndV, tOrV, tNotV, tIf, tOp, tUn, tVar, tC, tCB, tCons, tNil, tCall, tPart, tNoPart, tM0, tM1, tTup, tLst, tB, tIsN, tNotN, rI0, rI, rU, rEq, rNe, rAdd, gName, gTup, gCons, gNil, gSub, rSetL, rIxL, rIxT, rIxS, L2.start,
      List.map_cons, List.map_nil, List.cons_append, List.nil_append, List.append_nil, List.length_cons, List.length_nil, List.replicate, List.getElem?_cons_zero, List.getElem?_cons_succ, List.set_cons_zero, List.set_cons_succ, Nat.reduceAdd, Nat.reduceSub, Nat.sub_self, Nat.zero_add,
      Option.some.injEq, V.int.injEq, V.str.injEq, V.bl.injEq, V.ref.injEq, V.ty.injEq, List.cons.injEq, and_true, true_and, exists_eq_left, exists_eq_left', exists_eq_right, exists_and_left, exists_and_right, exists_const, decide_eq_true_eq, decide_eq_false_iff_not, if_true, if_false, reduceIte, Bool.false_eq_true, Bool.not_eq_true', sc_ii, sc_ss, sc_bb, str1, cx_K, lstAt, rIxM, rSetM, rLenM, atI_0, atI_1, atI_2, atI_3, setI_0, setI_1, setI_2, setI_3, upd_same, upd_upd, ite_true, ite_false, exists_eq', eq_self, and_assoc, rIsS, isTy_bb, isTy_bi, isTy_ib, isTy_ii, isTy_ss, isTy_nb, isTy_ni, Bool.not_true, Bool.not_false, not_true_eq_false, not_false_eq_true, tChain, tRz1, tRz2, rIsX, tFx, tMethE, tCallS, tCallZ, tMeth, tMake, tFld, sFld, HO.ins.injEq, HO.lst.injEq, HO.dK.injEq, HO.tup.injEq, dcAt, rDInM, rDGetM, rDSetM, rDLenM, keyOf_int, keyOf_str, rIsBM, plainV_b, plainV_i, plainV_n, plainV_s, rInM, tBMM, tBM0M, tSl, rSlM, rAppend, rPop, rClear, wAs, reduceCtorEq, false_implies, true_implies, implies_true, forall_const, cxH_K, clsV_ref, clsV_ty, HO.xd.injEq, Value.ref.injEq, lkc, lkn, pfn, pfc, List.map_nil, exf_NoSymbol T, T.no_NoSymbol_limit, T.ex_NoSymbol_SaggarError, T.kit_NoSymbol_NoSymbol, T.kit_NoSymbol_ValueError, J.ho, J.ht, J.hd, J.hl, T.cl_Symbols, T.no_Symbols_most, T.no_Symbols__texts, T.no_Symbols__numbers, syF_most, syF_texts, syF_numbers, syF_count, syF_number, syF_knows, syF_text, syF_textsM, syF_cut, syF_put, syF_len, List.length_map]
        have e1 : (xs.take (xs.length - i)).length = xs.length - i := by
          rw [List.length_take]
          omega
        have e2 : ((xs.take (xs.length - i)).map V.str).dropLast = (xs.take (xs.length - (i + 1))).map V.str := by
          rw [List.dropLast_eq_take, List.length_map, e1, ← List.map_take, List.take_take, show min (xs.length - i - 1) (xs.length - i) = xs.length - (i + 1) by omega]
        refine ⟨⟨_, List.getElem?_eq_getElem (by rw [List.length_map, e1]; omega)⟩, ?_⟩
        rw [e2]
        exact J.law _ (by rw [List.length_take]; omega)
      · rintro σ' H2 ⟨kk, rfl, J⟩
        have e : xs.take (xs.length - ((xs.length : Int) - (j : Int)).toNat) = xs.take j := by
          by_cases h : j ≤ xs.length
          · rw [show xs.length - ((xs.length : Int) - (j : Int)).toNat = j by omega]
          · rw [show xs.length - ((xs.length : Int) - (j : Int)).toNat = xs.length by omega, List.take_length, List.take_of_length_le (by omega)]
        rw [e] at J
        simp (config := { maxSteps := 4000000 }) only [tSeq, tNext, tDrop, tRet, tRetN, tIfS, tAsg, tTest, tAnd, tOr, tNot, tAndV, tOrV, tNotV, tIf, tOp, tUn, tVar, tC, tCB, tCons, tNil, tCall, tPart, tNoPart, tM0, tM1, tTup, tLst, tB, tIsN, tNotN, rI0, rI, rU, rEq, rNe, rAdd, gName, gTup, gCons, gNil, gSub, rSetL, rIxL, rIxT, rIxS, L2.start,
      List.map_cons, List.map_nil, List.cons_append, List.nil_append, List.append_nil, List.length_cons, List.length_nil, List.replicate, List.getElem?_cons_zero, List.getElem?_cons_succ, List.set_cons_zero, List.set_cons_succ, Nat.reduceAdd, Nat.reduceSub, Nat.sub_self, Nat.zero_add,
      Option.some.injEq, V.int.injEq, V.str.injEq, V.bl.injEq, V.ref.injEq, V.ty.injEq, List.cons.injEq, and_true, true_and, exists_eq_left, exists_eq_left', exists_eq_right, exists_and_left, exists_and_right, exists_const, decide_eq_true_eq, decide_eq_false_iff_not, if_true, if_false, reduceIte, Bool.false_eq_true, Bool.not_eq_true', sc_ii, sc_ss, sc_bb, str1, cx_K, lstAt, rIxM, rSetM, rLenM, atI_0, atI_1, atI_2, atI_3, setI_0, setI_1, setI_2, setI_3, upd_same, upd_upd, ite_true, ite_false, exists_eq', eq_self, and_assoc, rIsS, isTy_bb, isTy_bi, isTy_ib, isTy_ii, isTy_ss, isTy_nb, isTy_ni, Bool.not_true, Bool.not_false, not_true_eq_false, not_false_eq_true, tChain, tRz1, tRz2, rIsX, tFx, tMethE, tCallS, tCallZ, tMeth, tMake, tFld, sFld, HO.ins.injEq, HO.lst.injEq, HO.dK.injEq, HO.tup.injEq, dcAt, rDInM, rDGetM, rDSetM, rDLenM, keyOf_int, keyOf_str, rIsBM, plainV_b, plainV_i, plainV_n, plainV_s, rInM, tBMM, tBM0M, tSl, rSlM, rAppend, rPop, rClear, wAs, reduceCtorEq, false_implies, true_implies, implies_true, forall_const, cxH_K, clsV_ref, clsV_ty, HO.xd.injEq, Value.ref.injEq, lkc, lkn, pfn, pfc, List.map_nil, exf_NoSymbol T, T.no_NoSymbol_limit, T.ex_NoSymbol_SaggarError, T.kit_NoSymbol_NoSymbol, T.kit_NoSymbol_ValueError, J.ho, J.ht, J.hd, J.hl, T.cl_Symbols, T.no_Symbols_most, T.no_Symbols__texts, T.no_Symbols__numbers, syF_most, syF_texts, syF_numbers, syF_count, syF_number, syF_knows, syF_text, syF_textsM, syF_cut, syF_put, syF_len, List.length_map]
        exact k H2 t' _ (by rw [List.length_take]; omega) J
    · refine ⟨a, tl, m, xs, xs, pr, dx, t, d, rfl, I, fun p hp => ⟨p, rfl, ?_⟩⟩
      have I2 := I.same (same_new (o := HO.lst (xs.map V.str ++ [V.str (Str.ofString "spoilt")])) hp)
      have sz : (100000 : Nat) ≤ sizeLine := by decide
      simp only [upd_same]
      refine ⟨p, rfl, _, upd_same, by rw [List.length_map]; omega, _, _, by rw [upd_upd]; exact I2.ho, syF_textsM, ?_⟩
      rw [upd_upd]
      refine ⟨a, tl, m, xs, xs, pr, dx, t, d, rfl, I2, fun q hq => ⟨q, rfl, ?_⟩⟩
      simp only [upd_same]
      refine ⟨q, rfl, ⟨_, upd_same⟩, ?_⟩
      rw [upd_upd]
      exact k _ t xs (by omega) (I2.same (same_new hq))
end

def sp_law (K : PySem.W.Frag) : Sp := fun vs H Q _ => ∃ (a : Addr) (ns : List Int), vs = [.ref a] ∧ SqL K H a (ns.map V.int) ∧ ns.length ≤ 63 ∧ ∀ H', Q (.bl true) H'
theorem sp_law_len {K vs H Q E} (h : sp_law K vs H Q E) : vs.length = (["script"] : List Str).length := by
  obtain ⟨_, _, rfl, _⟩ := h
  rfl
def Fresh (A : Ad) (pc : Addr) (ns : List Int) (m : Int) (s : Addr) (H : Hp) : Prop := ∃ dx t d, H pc = some (.lst (ns.map V.int)) ∧ H s = some (.ins A.C_Symbols dx (syF m t d)) ∧ H t = some (.lst []) ∧ H d = some (.dK []) ∧ t ≠ pc
theorem mk_use {C : Addr} {m : Int} {H : Hp} {R : Addr → Hp → Prop} (h : ∀ s dx t d H', H' s = some (.ins C dx (syF m t d)) → H' t = some (.lst []) → H' d = some (.dK []) → H s = none → H t = none → H d = none → Same H H' → R s H') :
    ∀ x dx, H x = none → H dx = none → dx ≠ x → sp_mk C [.ref x, .int m] (upd (upd H dx (.own x)) x (.ins C dx [])) (fun v H2 => v = .non ∧ R x H2) E0 := by
  intro x dx hx hdx ne
  refine ⟨x, dx, m, rfl, upd_same, fun t d H' ht hd h1 h2 h3 fr => ?_⟩
  have out : ∀ b, upd (upd H dx (.own x)) x (.ins C dx []) b = none → b ≠ x ∧ b ≠ dx ∧ H b = none := fun b hb => by
    have n1 : x ≠ b := ne_of_none upd_same hb
    have n2 : dx ≠ b := ne_of_none (by rw [upd_ne ne, upd_same]) hb
    rw [upd_ne (Ne.symm n1), upd_ne (Ne.symm n2)] at hb
    exact ⟨Ne.symm n1, Ne.symm n2, hb⟩
  obtain ⟨t1, t2, t3⟩ := out t ht
  obtain ⟨d1, d2, d3⟩ := out d hd
  refine ⟨rfl, h x dx t d H' h1 h2 h3 hx t3 d3 fun b u hb => ?_⟩
  have b1 := ne_of_none hb hx
  rw [fr b b1 (ne_of_none hb t3) (ne_of_none hb d3), upd_ne b1, upd_ne (ne_of_none hb hdx)]
  exact hb
section
variable {P : Program} {w : World} {K : PySem.W.Frag} {mg : Str → Option Value} {base : Heap} {A : Ad}
theorem ok_law (T : Txt K mg A) : FnOk P w K mg base CX0 6 A.f_law A.d_law ["script"] (sp_law K) := by
  refine Fun.ok T.F_law sc_law (fun vs H Q E h => ?_) (fun cdv Ar outer s H vs Q E hr h => ?_)
  · exact sp_law_len h
  · have hu := hu_of hr
    refine ⟨_, (pss_cons (ps_setLc (i := 1) (own := [("cell", 8)]) (g := gName 8) rfl sc_law.nd rfl rfl (sw_true rfl rfl rfl (by decide +kernel)) (pi_list (pv 0)) (blkOk_by (own := [("cell", 8)]) (N := ["script", "cells", "limit", "most", "symbols", "other", "texts", "k", "cell"]) (sc := defScope s_law) (by decide +kernel)) (fun _ _ _ _ _ => pg_name (i := 8) sc_law.nd rfl (Or.inl rfl)) (fun _ _ _ _ _ => pts_nil) (fun _ _ _ _ _ => (pe_callTy call_intI (by rfl) T.z_int (by decide +kernel) (pa_cons (pv 8) pa_nil))))
    (pss_cons (ps_asg pe_int (pg_name (i := 2) sc_law.nd rfl (Or.inl rfl)))
    (Evl.pss_cut (ps_if (pt_truth (pv 1) (by intro _; rfl)) (pss_one (ps_asg (pe_op op_mod (pe_callTy call_intI (by rfl) T.z_int (by decide +kernel) (pa_cons (pe_ix ix_lstM (pv 1) pe_int (fun _ _ => rfl)) pa_nil)) pe_int) (pg_name (i := 2) sc_law.nd rfl (Or.inl rfl)))) pss_nil)
    (pss_cons (ps_asg pe_int (pg_name (i := 3) sc_law.nd rfl (Or.inl rfl)))
    (pss_cons (ps_asg (pe_make0 T.mk_Symbols (ok_Symbols___init__ T) (hr.mono (by decide)) (by rfl) T.m_Symbols T.bd_Symbols___init__.choose_spec.2 T.bd_Symbols___init__.choose_spec.1 pass0) (pg_name (i := 4) sc_law.nd rfl (Or.inl rfl)))
    (Evl.pss_cut (ps_if (pt_cmpR op_lt (pv 2) pe_int (nomark _)) (pss_cons (ps_asg (pv 2) (pg_name (i := 3) sc_law.nd rfl (Or.inl rfl)))
    (pss_one (ps_asg (pe_make T.mk_Symbols (ok_Symbols___init__ T) (hr.mono (by decide)) (by rfl) T.m_Symbols T.b_Symbols___init__ .nil pass0 (pa_cons (pv 3) pa_nil)) (pg_name (i := 4) sc_law.nd rfl (Or.inl rfl))))) pss_nil)
    (pss_cons (ps_if (PW.pt (pw_or (pt_not (pt_val (pe_call (ok__law_is T) (hr.mono (by decide)) (by rfl) T.g__law_is T.k__law_is T.b__law_is .nil pass0 (pa_cons (pe_glob (v := .int (4000)) (by rfl) T.c_LONGEST ⟨_, rfl⟩) (pa_cons pe_int pa_nil))))) (pw_or1 (pt_not (pt_val (pe_call (ok__law_is T) (hr.mono (by decide)) (by rfl) T.g__law_is T.k__law_is T.b__law_is .nil pass0 (pa_cons (pe_fld (pv 4) rfl) (pa_cons (pv 3) pa_nil)))))))) (pss_one (ps_ret pe_bl)) pss_nil)
    (pss_cons (ps_asg (pe_make T.mk_Symbols (ok_Symbols___init__ T) (hr.mono (by decide)) (by rfl) T.m_Symbols T.b_Symbols___init__ .nil pass0 (pa_cons pe_int pa_nil)) (pg_name (i := 5) sc_law.nd rfl (Or.inl rfl)))
    (pss_cons (ps_asg (pe_lst pa_nil) (pg_name (i := 6) sc_law.nd rfl (Or.inl rfl)))
    (pss_cons (ps_for PassesOwn.never rfl (pi_range2 (by rfl) T.z_range (pa_cons pe_int (pa_cons (pe_callB call_lenM (by rfl) T.z_len PySem.boot_len (pa_cons (pv 1) pa_nil)) pa_nil))) (pg_name (i := 7) sc_law.nd rfl (Or.inl rfl))
      (pss_one (ps_if (PW.pt (pw_or (pt_not (pt_val (pe_call (ok__law_deed T) (hr.mono (by decide)) (by rfl) T.g__law_deed T.k__law_deed T.b__law_deed .nil pass0 (pa_cons (pv 4) (pa_cons (pv 6) (pa_cons (pv 3) (pa_cons (pe_call (ok__law_number T) (hr.mono (by decide)) (by rfl) T.g__law_number T.k__law_number T.b__law_number .nil pass0 (pa_cons (pe_ix ix_lstM (pv 1) (pv 7) (fun _ _ => rfl)) (pa_cons (pv 7) pa_nil))) pa_nil))))))) (pw_or1 (pt_not (pt_val (pe_call (ok__law_agrees T) (hr.mono (by decide)) (by rfl) T.g__law_agrees T.k__law_agrees T.b__law_agrees .nil pass0 (pa_cons (pv 4) (pa_cons (pv 6) pa_nil)))))))) (pss_one (ps_ret pe_bl)) pss_nil)))
    (pss_one (ps_ret (pe_and (pe_cmpR op_eq (pe_meth0 (pv 5) T.cl_Symbols T.me_Symbols_count (ok_Symbols_count T) (hr.mono (by decide)) T.b_Symbols_count .nil pass0) pe_int (nomark _)) (pe_one (pe_cmpR op_eq (pe_meth (pv 5) T.cl_Symbols T.me_Symbols_number (ok_Symbols_number T) (hr.mono (by decide)) T.b_Symbols_number .nil passN0 (pa_cons pe_str pa_nil)) pe_int (nomark _)))))))))))))))), ?_⟩
    obtain ⟨a, ns, rfl, ha, hlen, k⟩ := h
    have lis : ∀ (i : Int) (R : VK) (H : Hp), R (.bl true) H → sp_lis [.int i, .int i] H R E0 := fun i R H h => .inr ⟨i, i, rfl, by rw [decide_eq_true rfl]; exact h⟩
    have sz : (100000 : Nat) ≤ sizeLine := by decide
    simp (config := { maxSteps := 4000000 }) only [tSeq, tNext, tDrop, tRet, tRetN, tIfS, tAsg, tTest, tAnd, tOr, tNot, tAndV, tOrV, tNotV, tIf, tOp, tUn, tVar, tC, tCB, tCons, tNil, tCall, tPart, tNoPart, tM0, tM1, tTup, tLst, tB, tIsN, tNotN, rI0, rI, rU, rEq, rNe, rAdd, gName, gTup, gCons, gNil, gSub, rSetL, rIxL, rIxT, rIxS, L2.start,
      List.map_cons, List.map_nil, List.cons_append, List.nil_append, List.append_nil, List.length_cons, List.length_nil, List.replicate, List.getElem?_cons_zero, List.getElem?_cons_succ, List.set_cons_zero, List.set_cons_succ, Nat.reduceAdd, Nat.reduceSub, Nat.sub_self, Nat.zero_add,
      Option.some.injEq, V.int.injEq, V.str.injEq, V.bl.injEq, V.ref.injEq, V.ty.injEq, List.cons.injEq, and_true, true_and, exists_eq_left, exists_eq_left', exists_eq_right, exists_and_left, exists_and_right, exists_const, decide_eq_true_eq, decide_eq_false_iff_not, if_true, if_false, reduceIte, Bool.false_eq_true, Bool.not_eq_true', sc_ii, sc_ss, sc_bb, str1, cx_K, lstAt, rIxM, rSetM, rLenM, atI_0, atI_1, atI_2, atI_3, setI_0, setI_1, setI_2, setI_3, upd_same, upd_upd, ite_true, ite_false, exists_eq', eq_self, and_assoc, rIsS, isTy_bb, isTy_bi, isTy_ib, isTy_ii, isTy_ss, isTy_nb, isTy_ni, Bool.not_true, Bool.not_false, not_true_eq_false, not_false_eq_true, tChain, tRz1, tRz2, rIsX, tFx, tMethE, tCallS, tCallZ, tMeth, tMake, tFld, sFld, HO.ins.injEq, HO.lst.injEq, HO.dK.injEq, HO.tup.injEq, dcAt, rDInM, rDGetM, rDSetM, rDLenM, keyOf_int, keyOf_str, rIsBM, plainV_b, plainV_i, plainV_n, plainV_s, rInM, tBMM, tBM0M, tSl, rSlM, rAppend, rPop, rClear, wAs, reduceCtorEq, false_implies, true_implies, implies_true, forall_const, cxH_K, clsV_ref, clsV_ty, HO.xd.injEq, Value.ref.injEq, lkc, lkn, pfn, pfc, List.map_nil]
    refine lc_ints (a := a) (ns := ns) (fun z => z) (fun R h => ⟨_, rfl, h⟩) ha (by show 8 < 9; decide) (by omega) (fun σ' H' z R h1 h2 => ⟨_, h1, z, rfl, h2⟩) (fun pc hpc => ?_)
    have h0 : upd H pc (HO.lst (List.map (fun z => V.int z) ns)) pc = some (.lst (ns.map V.int)) := upd_same
    generalize upd H pc (HO.lst (List.map (fun z => V.int z) ns)) = H0 at h0 ⊢
    refine ⟨fun σ2 H2 => ∃ li : Int, σ2 = [some (.ref a), some (.ref pc), some (.int li), none, none, none, none, none, none] ∧ 0 ≤ li ∧ H2 pc = some (.lst (ns.map V.int)), ?_, ?_⟩
    · refine ⟨.ref pc, rfl, !(ns.map V.int).isEmpty, .inl ⟨_, .inl (.inl h0), rfl⟩, ?_⟩
      cases ns with
      | nil =>
        simp only [List.map_nil, List.isEmpty_nil, Bool.not_true, if_false, Bool.false_eq_true, tNext]
        exact ⟨0, rfl, by omega, h0⟩
      | cons n ns =>
        simp only [List.map_cons, List.isEmpty_cons, Bool.not_false, if_true]
        simp (config := { maxSteps := 4000000 }) only [tSeq, tNext, tDrop, tRet, tRetN, tIfS, tAsg, tTest, tAnd, tOr, tNot, tAndV, tOrV, tNotV, tIf, tOp, tUn, tVar, tC, tCB, tCons, tNil, tCall, tPart, tNoPart, tM0, tM1, tTup, tLst, tB, tIsN, tNotN, rI0, rI, rU, rEq, rNe, rAdd, gName, gTup, gCons, gNil, gSub, rSetL, rIxL, rIxT, rIxS, L2.start,
      List.map_cons, List.map_nil, List.cons_append, List.nil_append, List.append_nil, List.length_cons, List.length_nil, List.replicate, List.getElem?_cons_zero, List.getElem?_cons_succ, List.set_cons_zero, List.set_cons_succ, Nat.reduceAdd, Nat.reduceSub, Nat.sub_self, Nat.zero_add,
      Option.some.injEq, V.int.injEq, V.str.injEq, V.bl.injEq, V.ref.injEq, V.ty.injEq, List.cons.injEq, and_true, true_and, exists_eq_left, exists_eq_left', exists_eq_right, exists_and_left, exists_and_right, exists_const, decide_eq_true_eq, decide_eq_false_iff_not, if_true, if_false, reduceIte, Bool.false_eq_true, Bool.not_eq_true', sc_ii, sc_ss, sc_bb, str1, cx_K, lstAt, rIxM, rSetM, rLenM, atI_0, atI_1, atI_2, atI_3, setI_0, setI_1, setI_2, setI_3, upd_same, upd_upd, ite_true, ite_false, exists_eq', eq_self, and_assoc, rIsS, isTy_bb, isTy_bi, isTy_ib, isTy_ii, isTy_ss, isTy_nb, isTy_ni, Bool.not_true, Bool.not_false, not_true_eq_false, not_false_eq_true, tChain, tRz1, tRz2, rIsX, tFx, tMethE, tCallS, tCallZ, tMeth, tMake, tFld, sFld, HO.ins.injEq, HO.lst.injEq, HO.dK.injEq, HO.tup.injEq, dcAt, rDInM, rDGetM, rDSetM, rDLenM, keyOf_int, keyOf_str, rIsBM, plainV_b, plainV_i, plainV_n, plainV_s, rInM, tBMM, tBM0M, tSl, rSlM, rAppend, rPop, rClear, wAs, reduceCtorEq, false_implies, true_implies, implies_true, forall_const, cxH_K, clsV_ref, clsV_ty, HO.xd.injEq, Value.ref.injEq, lkc, lkn, pfn, pfc, List.map_nil, h0]
        exact ⟨by decide, by omega⟩
    · rintro σ2 H2 ⟨li, rfl, hli, h2⟩
      simp (config := { maxSteps := 4000000 }) only [tSeq, tNext, tDrop, tRet, tRetN, tIfS, tAsg, tTest, tAnd, tOr, tNot, tAndV, tOrV, tNotV, tIf, tOp, tUn, tVar, tC, tCB, tCons, tNil, tCall, tPart, tNoPart, tM0, tM1, tTup, tLst, tB, tIsN, tNotN, rI0, rI, rU, rEq, rNe, rAdd, gName, gTup, gCons, gNil, gSub, rSetL, rIxL, rIxT, rIxS, L2.start,
      List.map_cons, List.map_nil, List.cons_append, List.nil_append, List.append_nil, List.length_cons, List.length_nil, List.replicate, List.getElem?_cons_zero, List.getElem?_cons_succ, List.set_cons_zero, List.set_cons_succ, Nat.reduceAdd, Nat.reduceSub, Nat.sub_self, Nat.zero_add,
      Option.some.injEq, V.int.injEq, V.str.injEq, V.bl.injEq, V.ref.injEq, V.ty.injEq, List.cons.injEq, and_true, true_and, exists_eq_left, exists_eq_left', exists_eq_right, exists_and_left, exists_and_right, exists_const, decide_eq_true_eq, decide_eq_false_iff_not, if_true, if_false, reduceIte, Bool.false_eq_true, Bool.not_eq_true', sc_ii, sc_ss, sc_bb, str1, cx_K, lstAt, rIxM, rSetM, rLenM, atI_0, atI_1, atI_2, atI_3, setI_0, setI_1, setI_2, setI_3, upd_same, upd_upd, ite_true, ite_false, exists_eq', eq_self, and_assoc, rIsS, isTy_bb, isTy_bi, isTy_ib, isTy_ii, isTy_ss, isTy_nb, isTy_ni, Bool.not_true, Bool.not_false, not_true_eq_false, not_false_eq_true, tChain, tRz1, tRz2, rIsX, tFx, tMethE, tCallS, tCallZ, tMeth, tMake, tFld, sFld, HO.ins.injEq, HO.lst.injEq, HO.dK.injEq, HO.tup.injEq, dcAt, rDInM, rDGetM, rDSetM, rDLenM, keyOf_int, keyOf_str, rIsBM, plainV_b, plainV_i, plainV_n, plainV_s, rInM, tBMM, tBM0M, tSl, rSlM, rAppend, rPop, rClear, wAs, reduceCtorEq, false_implies, true_implies, implies_true, forall_const, cxH_K, clsV_ref, clsV_ty, HO.xd.injEq, Value.ref.injEq, lkc, lkn, pfn, pfc, List.map_nil]
      refine mk_use fun s dx t d H3 s1 s2 s3 f1 f2 f3 sm => ?_
      refine ⟨fun σ2 H4 => ∃ (m : Int) (s : Addr), σ2 = [some (.ref a), some (.ref pc), some (.int li), some (.int m), some (.ref s), none, none, none, none] ∧ Fresh A pc ns m s H4, ?_, ?_⟩
      · simp (config := { maxSteps := 4000000 }) only [tSeq, tNext, tDrop, tRet, tRetN, tIfS, tAsg, tTest, tAnd, tOr, tNot, tAndV, tOrV, tNotV, tIf, tOp, tUn, tVar, tC, tCB, tCons, tNil, tCall, tPart, tNoPart, tM0, tM1, tTup, tLst, tB, tIsN, tNotN, rI0, rI, rU, rEq, rNe, rAdd, gName, gTup, gCons, gNil, gSub, rSetL, rIxL, rIxT, rIxS, L2.start,
      List.map_cons, List.map_nil, List.cons_append, List.nil_append, List.append_nil, List.length_cons, List.length_nil, List.replicate, List.getElem?_cons_zero, List.getElem?_cons_succ, List.set_cons_zero, List.set_cons_succ, Nat.reduceAdd, Nat.reduceSub, Nat.sub_self, Nat.zero_add,
      Option.some.injEq, V.int.injEq, V.str.injEq, V.bl.injEq, V.ref.injEq, V.ty.injEq, List.cons.injEq, and_true, true_and, exists_eq_left, exists_eq_left', exists_eq_right, exists_and_left, exists_and_right, exists_const, decide_eq_true_eq, decide_eq_false_iff_not, if_true, if_false, reduceIte, Bool.false_eq_true, Bool.not_eq_true', sc_ii, sc_ss, sc_bb, str1, cx_K, lstAt, rIxM, rSetM, rLenM, atI_0, atI_1, atI_2, atI_3, setI_0, setI_1, setI_2, setI_3, upd_same, upd_upd, ite_true, ite_false, exists_eq', eq_self, and_assoc, rIsS, isTy_bb, isTy_bi, isTy_ib, isTy_ii, isTy_ss, isTy_nb, isTy_ni, Bool.not_true, Bool.not_false, not_true_eq_false, not_false_eq_true, tChain, tRz1, tRz2, rIsX, tFx, tMethE, tCallS, tCallZ, tMeth, tMake, tFld, sFld, HO.ins.injEq, HO.lst.injEq, HO.dK.injEq, HO.tup.injEq, dcAt, rDInM, rDGetM, rDSetM, rDLenM, keyOf_int, keyOf_str, rIsBM, plainV_b, plainV_i, plainV_n, plainV_s, rInM, tBMM, tBM0M, tSl, rSlM, rAppend, rPop, rClear, wAs, reduceCtorEq, false_implies, true_implies, implies_true, forall_const, cxH_K, clsV_ref, clsV_ty, HO.xd.injEq, Value.ref.injEq, lkc, lkn, pfn, pfc, List.map_nil]
        refine ite2 (fun c => ?_) (fun c => ?_)
        · refine mk_use fun s dx t d H4 s1 s2 s3 f1 f2 f3 sm2 => ?_
          exact ⟨dx, t, d, sm2 _ _ (sm _ _ h2), s1, s2, s3, Ne.symm (ne_of_none (sm _ _ h2) f2)⟩
        · exact ⟨dx, t, d, sm _ _ h2, s1, s2, s3, Ne.symm (ne_of_none h2 f2)⟩
      · clear s1 s2 s3 f1 f2 f3 sm
        rintro σ2 H4 ⟨m, s, rfl, dx, t, d, hpc4, s1, s2, s3, tp⟩
        simp (config := { maxSteps := 4000000 }) only [tSeq, tNext, tDrop, tRet, tRetN, tIfS, tAsg, tTest, tAnd, tOr, tNot, tAndV, tOrV, tNotV, tIf, tOp, tUn, tVar, tC, tCB, tCons, tNil, tCall, tPart, tNoPart, tM0, tM1, tTup, tLst, tB, tIsN, tNotN, rI0, rI, rU, rEq, rNe, rAdd, gName, gTup, gCons, gNil, gSub, rSetL, rIxL, rIxT, rIxS, L2.start,
      List.map_cons, List.map_nil, List.cons_append, List.nil_append, List.append_nil, List.length_cons, List.length_nil, List.replicate, List.getElem?_cons_zero, List.getElem?_cons_succ, List.set_cons_zero, List.set_cons_succ, Nat.reduceAdd, Nat.reduceSub, Nat.sub_self, Nat.zero_add,
      Option.some.injEq, V.int.injEq, V.str.injEq, V.bl.injEq, V.ref.injEq, V.ty.injEq, List.cons.injEq, and_true, true_and, exists_eq_left, exists_eq_left', exists_eq_right, exists_and_left, exists_and_right, exists_const, decide_eq_true_eq, decide_eq_false_iff_not, if_true, if_false, reduceIte, Bool.false_eq_true, Bool.not_eq_true', sc_ii, sc_ss, sc_bb, str1, cx_K, lstAt, rIxM, rSetM, rLenM, atI_0, atI_1, atI_2, atI_3, setI_0, setI_1, setI_2, setI_3, upd_same, upd_upd, ite_true, ite_false, exists_eq', eq_self, and_assoc, rIsS, isTy_bb, isTy_bi, isTy_ib, isTy_ii, isTy_ss, isTy_nb, isTy_ni, Bool.not_true, Bool.not_false, not_true_eq_false, not_false_eq_true, tChain, tRz1, tRz2, rIsX, tFx, tMethE, tCallS, tCallZ, tMeth, tMake, tFld, sFld, HO.ins.injEq, HO.lst.injEq, HO.dK.injEq, HO.tup.injEq, dcAt, rDInM, rDGetM, rDSetM, rDLenM, keyOf_int, keyOf_str, rIsBM, plainV_b, plainV_i, plainV_n, plainV_s, rInM, tBMM, tBM0M, tSl, rSlM, rAppend, rPop, rClear, wAs, reduceCtorEq, false_implies, true_implies, implies_true, forall_const, cxH_K, clsV_ref, clsV_ty, HO.xd.injEq, Value.ref.injEq, lkc, lkn, pfn, pfc, List.map_nil, s1, T.cl_Symbols, T.no_Symbols_most, syF_most]
        refine lis _ _ _ ⟨true, rfl, ?_⟩
        simp (config := { maxSteps := 4000000 }) only [tSeq, tNext, tDrop, tRet, tRetN, tIfS, tAsg, tTest, tAnd, tOr, tNot, tAndV, tOrV, tNotV, tIf, tOp, tUn, tVar, tC, tCB, tCons, tNil, tCall, tPart, tNoPart, tM0, tM1, tTup, tLst, tB, tIsN, tNotN, rI0, rI, rU, rEq, rNe, rAdd, gName, gTup, gCons, gNil, gSub, rSetL, rIxL, rIxT, rIxS, L2.start,
      List.map_cons, List.map_nil, List.cons_append, List.nil_append, List.append_nil, List.length_cons, List.length_nil, List.replicate, List.getElem?_cons_zero, List.getElem?_cons_succ, List.set_cons_zero, List.set_cons_succ, Nat.reduceAdd, Nat.reduceSub, Nat.sub_self, Nat.zero_add,
      Option.some.injEq, V.int.injEq, V.str.injEq, V.bl.injEq, V.ref.injEq, V.ty.injEq, List.cons.injEq, and_true, true_and, exists_eq_left, exists_eq_left', exists_eq_right, exists_and_left, exists_and_right, exists_const, decide_eq_true_eq, decide_eq_false_iff_not, if_true, if_false, reduceIte, Bool.false_eq_true, Bool.not_eq_true', sc_ii, sc_ss, sc_bb, str1, cx_K, lstAt, rIxM, rSetM, rLenM, atI_0, atI_1, atI_2, atI_3, setI_0, setI_1, setI_2, setI_3, upd_same, upd_upd, ite_true, ite_false, exists_eq', eq_self, and_assoc, rIsS, isTy_bb, isTy_bi, isTy_ib, isTy_ii, isTy_ss, isTy_nb, isTy_ni, Bool.not_true, Bool.not_false, not_true_eq_false, not_false_eq_true, tChain, tRz1, tRz2, rIsX, tFx, tMethE, tCallS, tCallZ, tMeth, tMake, tFld, sFld, HO.ins.injEq, HO.lst.injEq, HO.dK.injEq, HO.tup.injEq, dcAt, rDInM, rDGetM, rDSetM, rDLenM, keyOf_int, keyOf_str, rIsBM, plainV_b, plainV_i, plainV_n, plainV_s, rInM, tBMM, tBM0M, tSl, rSlM, rAppend, rPop, rClear, wAs, reduceCtorEq, false_implies, true_implies, implies_true, forall_const, cxH_K, clsV_ref, clsV_ty, HO.xd.injEq, Value.ref.injEq, lkc, lkn, pfn, pfc, List.map_nil, s1, T.cl_Symbols, T.no_Symbols_most, syF_most]
        refine lis _ _ _ ⟨true, rfl, ?_⟩
        simp (config := { maxSteps := 4000000 }) only [tSeq, tNext, tDrop, tRet, tRetN, tIfS, tAsg, tTest, tAnd, tOr, tNot, tAndV, tOrV, tNotV, tIf, tOp, tUn, tVar, tC, tCB, tCons, tNil, tCall, tPart, tNoPart, tM0, tM1, tTup, tLst, tB, tIsN, tNotN, rI0, rI, rU, rEq, rNe, rAdd, gName, gTup, gCons, gNil, gSub, rSetL, rIxL, rIxT, rIxS, L2.start,
      List.map_cons, List.map_nil, List.cons_append, List.nil_append, List.append_nil, List.length_cons, List.length_nil, List.replicate, List.getElem?_cons_zero, List.getElem?_cons_succ, List.set_cons_zero, List.set_cons_succ, Nat.reduceAdd, Nat.reduceSub, Nat.sub_self, Nat.zero_add,
      Option.some.injEq, V.int.injEq, V.str.injEq, V.bl.injEq, V.ref.injEq, V.ty.injEq, List.cons.injEq, and_true, true_and, exists_eq_left, exists_eq_left', exists_eq_right, exists_and_left, exists_and_right, exists_const, decide_eq_true_eq, decide_eq_false_iff_not, if_true, if_false, reduceIte, Bool.false_eq_true, Bool.not_eq_true', sc_ii, sc_ss, sc_bb, str1, cx_K, lstAt, rIxM, rSetM, rLenM, atI_0, atI_1, atI_2, atI_3, setI_0, setI_1, setI_2, setI_3, upd_same, upd_upd, ite_true, ite_false, exists_eq', eq_self, and_assoc, rIsS, isTy_bb, isTy_bi, isTy_ib, isTy_ii, isTy_ss, isTy_nb, isTy_ni, Bool.not_true, Bool.not_false, not_true_eq_false, not_false_eq_true, tChain, tRz1, tRz2, rIsX, tFx, tMethE, tCallS, tCallZ, tMeth, tMake, tFld, sFld, HO.ins.injEq, HO.lst.injEq, HO.dK.injEq, HO.tup.injEq, dcAt, rDInM, rDGetM, rDSetM, rDLenM, keyOf_int, keyOf_str, rIsBM, plainV_b, plainV_i, plainV_n, plainV_s, rInM, tBMM, tBM0M, tSl, rSlM, rAppend, rPop, rClear, wAs, reduceCtorEq, false_implies, true_implies, implies_true, forall_const, cxH_K, clsV_ref, clsV_ty, HO.xd.injEq, Value.ref.injEq, lkc, lkn, pfn, pfc, List.map_nil]
        refine mk_use fun z dx2 t2 d2 H5 z1 z2 z3 f1 f2 f3 sm => ?_
        refine ⟨by omega, fun tl htl => ?_⟩
        have gl : upd H5 tl (.lst []) tl = some (.lst []) := upd_same
        have sm2 : Same H5 (upd H5 tl (.lst [])) := same_new htl
        have n1 : s ≠ z := ne_of_none s1 f1
        have n2 : t ≠ t2 := ne_of_none s2 f2
        have n3 : d ≠ d2 := ne_of_none s3 f3
        have n4 : pc ≠ t2 := ne_of_none hpc4 f2
        have n5 : t ≠ tl := ne_of_none (sm _ _ s2) htl
        have n6 : t2 ≠ tl := ne_of_none z2 htl
        have n7 : pc ≠ tl := ne_of_none (sm _ _ hpc4) htl
        have I0 : Iv A (upd H5 tl (.lst [])) s tl m [] [] [(z, .ins A.C_Symbols dx2 (syF 1 t2 d2)), (t2, .lst []), (d2, .dK []), (pc, .lst (ns.map V.int))] dx t d := by
          refine ⟨sm2 _ _ (sm _ _ s1), sm2 _ _ (sm _ _ s2), sm2 _ _ (sm _ _ s3), gl, List.nodup_nil, by decide, by decide, n5, fun q hq => ?_⟩
          have p1 := sm2 _ _ z1
          have p2 := sm2 _ _ z2
          have p3 := sm2 _ _ z3
          have p4 := sm2 _ _ (sm _ _ hpc4)
          have o1 := sm2 _ _ (sm _ _ s1)
          have o2 := sm2 _ _ (sm _ _ s2)
          have o3 := sm2 _ _ (sm _ _ s3)
          simp only [List.mem_cons, List.not_mem_nil, or_false] at hq
          rcases hq with rfl | rfl | rfl | rfl
          · exact ⟨p1, Ne.symm n1, ne_ho p1 o2 (by simp), ne_ho p1 o3 (by simp), ne_ho p1 gl (by simp)⟩
          · exact ⟨p2, ne_ho p2 o1 (by simp), Ne.symm n2, ne_ho p2 o3 (by simp), n6⟩
          · exact ⟨p3, ne_ho p3 o1 (by simp), ne_ho p3 o2 (by simp), Ne.symm n3, ne_ho p3 gl (by simp)⟩
          · exact ⟨p4, ne_ho p4 o1 (by simp), Ne.symm tp, ne_ho p4 o3 (by simp), n7⟩
        refine for_rng2 1 (ns.length : Int) (fun R h => ?_) (by omega) (by omega) (by omega) (by omega) (fun i σ' H' => ∃ (kk : Option V) (t' : Addr) (xs : List Str), σ' = [some (V.ref a), some (V.ref pc), some (V.int li), some (V.int m), some (V.ref s), some (V.ref z), some (V.ref tl), kk, none] ∧ xs.length ≤ i ∧
          Iv A H' s tl m xs xs [(z, .ins A.C_Symbols dx2 (syF 1 t2 d2)), (t2, .lst []), (d2, .dK []), (pc, .lst (ns.map V.int))] dx t' d) ⟨none, t, [], rfl, by decide, I0⟩ ?_ ?_
        · have e := sm2 _ _ (sm _ _ hpc4)
          simp (config := { maxSteps := 4000000 }) only [tSeq, tNext, tDrop, tRet, tRetN, tIfS, tAsg, tTest, tAnd, tOr, tNot, tAndV, tOrV, tNotV, tIf, tOp, tUn, tVar, tC, tCB, tCons, tNil, tCall, tPart, tNoPart, tM0, tM1, tTup, tLst, tB, tIsN, tNotN, rI0, rI, rU, rEq, rNe, rAdd, gName, gTup, gCons, gNil, gSub, rSetL, rIxL, rIxT, rIxS, L2.start,
      List.map_cons, List.map_nil, List.cons_append, List.nil_append, List.append_nil, List.length_cons, List.length_nil, List.replicate, List.getElem?_cons_zero, List.getElem?_cons_succ, List.set_cons_zero, List.set_cons_succ, Nat.reduceAdd, Nat.reduceSub, Nat.sub_self, Nat.zero_add,
      Option.some.injEq, V.int.injEq, V.str.injEq, V.bl.injEq, V.ref.injEq, V.ty.injEq, List.cons.injEq, and_true, true_and, exists_eq_left, exists_eq_left', exists_eq_right, exists_and_left, exists_and_right, exists_const, decide_eq_true_eq, decide_eq_false_iff_not, if_true, if_false, reduceIte, Bool.false_eq_true, Bool.not_eq_true', sc_ii, sc_ss, sc_bb, str1, cx_K, lstAt, rIxM, rSetM, rLenM, atI_0, atI_1, atI_2, atI_3, setI_0, setI_1, setI_2, setI_3, upd_same, upd_upd, ite_true, ite_false, exists_eq', eq_self, and_assoc, rIsS, isTy_bb, isTy_bi, isTy_ib, isTy_ii, isTy_ss, isTy_nb, isTy_ni, Bool.not_true, Bool.not_false, not_true_eq_false, not_false_eq_true, tChain, tRz1, tRz2, rIsX, tFx, tMethE, tCallS, tCallZ, tMeth, tMake, tFld, sFld, HO.ins.injEq, HO.lst.injEq, HO.dK.injEq, HO.tup.injEq, dcAt, rDInM, rDGetM, rDSetM, rDLenM, keyOf_int, keyOf_str, rIsBM, plainV_b, plainV_i, plainV_n, plainV_s, rInM, tBMM, tBM0M, tSl, rSlM, rAppend, rPop, rClear, wAs, reduceCtorEq, false_implies, true_implies, implies_true, forall_const, cxH_K, clsV_ref, clsV_ty, HO.xd.injEq, Value.ref.injEq, lkc, lkn, pfn, pfc, List.map_nil, e, List.length_map]
          exact h
        · rintro i σ' H6 hi ⟨kk, t', xs, rfl, hx, I⟩
          have e := (I.hp (pc, .lst (ns.map V.int)) (by simp)).1
          have hlt : 1 + i < ns.length := by omega
          have hat : atI (ns.map V.int) (1 + (i : Int)) = some (.int ns[1 + i]) := by
            rw [show 1 + (i : Int) = ((1 + i : Nat) : Int) by omega]
            exact atI_nat (by rw [List.getElem?_map, List.getElem?_eq_getElem hlt]; rfl)
          generalize ns[1 + i] = y at hat
          simp (config := { maxSteps := 4000000 }) only [tSeq, tNext, tDrop, tRet, tRetN, tIfS, tAsg, tTest, tAnd, tOr, tNot, tAndV, tOrV, tNotV, tIf, tOp, tUn, tVar, tC, tCB, tCons, tNil, tCall, tPart, tNoPart, tM0, tM1, tTup, tLst, tB, tIsN, tNotN, rI0, rI, rU, rEq, rNe, rAdd, gName, gTup, gCons, gNil, gSub, rSetL, rIxL, rIxT, rIxS, L2.start,
      List.map_cons, List.map_nil, List.cons_append, List.nil_append, List.append_nil, List.length_cons, List.length_nil, List.replicate, List.getElem?_cons_zero, List.getElem?_cons_succ, List.set_cons_zero, List.set_cons_succ, Nat.reduceAdd, Nat.reduceSub, Nat.sub_self, Nat.zero_add,
      Option.some.injEq, V.int.injEq, V.str.injEq, V.bl.injEq, V.ref.injEq, V.ty.injEq, List.cons.injEq, and_true, true_and, exists_eq_left, exists_eq_left', exists_eq_right, exists_and_left, exists_and_right, exists_const, decide_eq_true_eq, decide_eq_false_iff_not, if_true, if_false, reduceIte, Bool.false_eq_true, Bool.not_eq_true', sc_ii, sc_ss, sc_bb, str1, cx_K, lstAt, rIxM, rSetM, rLenM, atI_0, atI_1, atI_2, atI_3, setI_0, setI_1, setI_2, setI_3, upd_same, upd_upd, ite_true, ite_false, exists_eq', eq_self, and_assoc, rIsS, isTy_bb, isTy_bi, isTy_ib, isTy_ii, isTy_ss, isTy_nb, isTy_ni, Bool.not_true, Bool.not_false, not_true_eq_false, not_false_eq_true, tChain, tRz1, tRz2, rIsX, tFx, tMethE, tCallS, tCallZ, tMeth, tMake, tFld, sFld, HO.ins.injEq, HO.lst.injEq, HO.dK.injEq, HO.tup.injEq, dcAt, rDInM, rDGetM, rDSetM, rDLenM, keyOf_int, keyOf_str, rIsBM, plainV_b, plainV_i, plainV_n, plainV_s, rInM, tBMM, tBM0M, tSl, rSlM, rAppend, rPop, rClear, wAs, reduceCtorEq, false_implies, true_implies, implies_true, forall_const, cxH_K, clsV_ref, clsV_ty, HO.xd.injEq, Value.ref.injEq, lkc, lkn, pfn, pfc, List.map_nil, e, hat]
          refine ⟨_, _, rfl, fun w2 => ⟨s, tl, m, xs, _, dx, t', d, w2, rfl, I, by omega, fun H7 t7 ys hy J => ⟨true, rfl, ?_⟩⟩⟩
          rw [if_neg (by decide)]
          refine ⟨s, tl, m, ys, _, dx, t7, d, rfl, J, by omega, fun H8 J2 => ⟨true, rfl, ?_⟩⟩
          rw [if_neg (by decide)]
          exact ⟨t7, ys, by omega, J2⟩
        · rintro σ' H6 ⟨kk, t', xs, rfl, hx, I⟩
          have p1 := (I.hp (z, .ins A.C_Symbols dx2 (syF 1 t2 d2)) (by simp)).1
          have p2 := I.hp (t2, .lst []) (by simp)
          have p3 := (I.hp (d2, .dK []) (by simp)).1
          have Z : Iv A H6 z tl 1 [] xs [] dx2 t2 d2 := ⟨p1, p2.1, p3, I.hl, List.nodup_nil, by decide, I.hn2, p2.2.2.2.2, fun q hq => by cases hq⟩
          simp (config := { maxSteps := 4000000 }) only [tSeq, tNext, tDrop, tRet, tRetN, tIfS, tAsg, tTest, tAnd, tOr, tNot, tAndV, tOrV, tNotV, tIf, tOp, tUn, tVar, tC, tCB, tCons, tNil, tCall, tPart, tNoPart, tM0, tM1, tTup, tLst, tB, tIsN, tNotN, rI0, rI, rU, rEq, rNe, rAdd, gName, gTup, gCons, gNil, gSub, rSetL, rIxL, rIxT, rIxS, L2.start,
      List.map_cons, List.map_nil, List.cons_append, List.nil_append, List.append_nil, List.length_cons, List.length_nil, List.replicate, List.getElem?_cons_zero, List.getElem?_cons_succ, List.set_cons_zero, List.set_cons_succ, Nat.reduceAdd, Nat.reduceSub, Nat.sub_self, Nat.zero_add,
      Option.some.injEq, V.int.injEq, V.str.injEq, V.bl.injEq, V.ref.injEq, V.ty.injEq, List.cons.injEq, and_true, true_and, exists_eq_left, exists_eq_left', exists_eq_right, exists_and_left, exists_and_right, exists_const, decide_eq_true_eq, decide_eq_false_iff_not, if_true, if_false, reduceIte, Bool.false_eq_true, Bool.not_eq_true', sc_ii, sc_ss, sc_bb, str1, cx_K, lstAt, rIxM, rSetM, rLenM, atI_0, atI_1, atI_2, atI_3, setI_0, setI_1, setI_2, setI_3, upd_same, upd_upd, ite_true, ite_false, exists_eq', eq_self, and_assoc, rIsS, isTy_bb, isTy_bi, isTy_ib, isTy_ii, isTy_ss, isTy_nb, isTy_ni, Bool.not_true, Bool.not_false, not_true_eq_false, not_false_eq_true, tChain, tRz1, tRz2, rIsX, tFx, tMethE, tCallS, tCallZ, tMeth, tMake, tFld, sFld, HO.ins.injEq, HO.lst.injEq, HO.dK.injEq, HO.tup.injEq, dcAt, rDInM, rDGetM, rDSetM, rDLenM, keyOf_int, keyOf_str, rIsBM, plainV_b, plainV_i, plainV_n, plainV_s, rInM, tBMM, tBM0M, tSl, rSlM, rAppend, rPop, rClear, wAs, reduceCtorEq, false_implies, true_implies, implies_true, forall_const, cxH_K, clsV_ref, clsV_ty, HO.xd.injEq, Value.ref.injEq, lkc, lkn, pfn, pfc, List.map_nil, p1, T.cl_Symbols, T.no_Symbols_most, T.no_Symbols__texts, T.no_Symbols__numbers, syF_most, syF_texts, syF_numbers, syF_count, syF_number, syF_knows, syF_text, syF_textsM, syF_cut, syF_put, syF_len]
          refine ⟨z, tl, 1, [], xs, [], dx2, t2, d2, rfl, Z, rfl, ?_⟩
          rw [if_pos (show V.int (([] : List Str).length : Int) = V.int 0 from rfl)]
          refine ⟨_, _, p1, syF_number, z, tl, 1, [], xs, [], dx2, t2, d2, _, rfl, Z, by decide, fun _ => by decide, fun i hi => ?_, fun _ => ⟨fun c => ?_, fun _ c => ?_, fun _ _ H7 _ => ⟨rfl, ?_⟩⟩⟩
          · simp at hi
          · exact absurd c (by decide)
          · simp at c
          · exact k _
end

theorem all_mk {l : PySem.W.OpenLaw} {w : World} {K : PySem.W.Frag} {h : Heap} {mg : Str → Option Value} {fa : Addr} (X : K.In h) (G : h.Ns mainGlobals mg) (hfa : mg "law" = some (.ref fa))
    {f14 : Addr} {od14 an14 : Option Addr} {sl14 : Array (Option Value)} {oc14 kV14 dc14 pm14 cd14 ct14 : Value}
    {f13 : Addr} {od13 an13 : Option Addr} {sl13 : Array (Option Value)} {oc13 kV13 dc13 pm13 cd13 ct13 : Value}
    {f12 : Addr} {od12 an12 : Option Addr} {sl12 : Array (Option Value)} {oc12 kV12 dc12 pm12 cd12 ct12 : Value}
    {f11 : Addr} {od11 an11 : Option Addr} {sl11 : Array (Option Value)} {oc11 kV11 dc11 pm11 cd11 ct11 : Value}
    {f10 : Addr} {od10 an10 : Option Addr} {sl10 : Array (Option Value)} {oc10 kV10 dc10 pm10 cd10 ct10 : Value}
    {f9 : Addr} {od9 an9 : Option Addr} {sl9 : Array (Option Value)} {oc9 kV9 dc9 pm9 cd9 ct9 : Value}
    {f8 : Addr} {od8 an8 : Option Addr} {sl8 : Array (Option Value)} {oc8 kV8 dc8 pm8 cd8 ct8 : Value}
    {f7 : Addr} {od7 an7 : Option Addr} {sl7 : Array (Option Value)} {oc7 kV7 dc7 pm7 cd7 ct7 : Value}
    {f6 : Addr} {od6 an6 : Option Addr} {sl6 : Array (Option Value)} {oc6 kV6 dc6 pm6 cd6 ct6 : Value}
    {f5 : Addr} {od5 an5 : Option Addr} {sl5 : Array (Option Value)} {oc5 kV5 dc5 pm5 cd5 ct5 : Value}
    {f4 : Addr} {od4 an4 : Option Addr} {sl4 : Array (Option Value)} {oc4 kV4 dc4 pm4 cd4 ct4 : Value}
    {f3 : Addr} {od3 an3 : Option Addr} {sl3 : Array (Option Value)} {oc3 kV3 dc3 pm3 cd3 ct3 : Value}
    {f2 : Addr} {od2 an2 : Option Addr} {sl2 : Array (Option Value)} {oc2 kV2 dc2 pm2 cd2 ct2 : Value}
    {cT1 : Value} {dT1 : Option Addr} {sT1 : Array (Option Value)}
    {T1 : Addr} {nT1 : Nat} {tk1_0 : Tok}
    {f1 : Addr} {od1 an1 : Option Addr} {sl1 : Array (Option Value)} {oc1 kV1 dc1 pm1 cd1 ct1 : Value}
    {f0 : Addr} {od0 an0 : Option Addr} {sl0 : Array (Option Value)} {oc0 kV0 dc0 pm0 cd0 ct0 : Value}
    {C_SaggarError : Addr}
    {C_NoSymbol : Addr}
    {C_Symbols : Addr}
    {nm_NoSymbol q_NoSymbol : Str} {N_NoSymbol : Addr} {bs_NoSymbol : List Value} {sn_NoSymbol : List Str} {sub_NoSymbol : List Value} {ab_NoSymbol : Bool} {col_NoSymbol : Option Bool} {dd_NoSymbol : Option Addr} {m0_NoSymbol m1_NoSymbol m2_NoSymbol m3_NoSymbol m5_NoSymbol : Option Value}
    {t_LONGEST : Tok}
    (m_SaggarError : PySem.W.nsIn K mainGlobals "SaggarError" = some (some (.ref C_SaggarError)))
    (m_NoSymbol : PySem.W.nsIn K mainGlobals "NoSymbol" = some (some (.ref C_NoSymbol)))
    (m_Symbols : PySem.W.nsIn K mainGlobals "Symbols" = some (some (.ref C_Symbols)))
    (xl_NoSymbol : K.lookup C_NoSymbol = some (excClassObj nm_NoSymbol q_NoSymbol C_NoSymbol N_NoSymbol bs_NoSymbol [.ref C_SaggarError, .type "ValueError", .type "Exception", .type "BaseException", .type "object"] true sn_NoSymbol sub_NoSymbol ab_NoSymbol col_NoSymbol dd_NoSymbol m0_NoSymbol m1_NoSymbol m2_NoSymbol m3_NoSymbol m5_NoSymbol "ValueError.__new__"))
    (sa_NoSymbol : PySem.W.findIn K (.ref C_NoSymbol) "__setattr__" = some (some (.builtin "object.__setattr__"))) (ga_NoSymbol : PySem.W.findIn K (.ref C_NoSymbol) "__getattribute__" = some (some (.builtin "BaseException.__getattribute__"))) (gg_NoSymbol : PySem.W.findIn K (.ref C_NoSymbol) "__getattr__" = some none) (ic_NoSymbol : PySem.W.findIn K (.ref C_NoSymbol) "__init__" = some (some (.ref f0))) (ti_NoSymbol : PySem.W.typeIn K (.ref f0) = some (.type "function"))
    (kc_NoSymbol : PySem.W.keepIn K (.ref C_NoSymbol) = true) (ec_NoSymbol : PySem.W.subIn K (.ref C_NoSymbol) (.type "BaseException") = some true) (tc_NoSymbol : PySem.W.typeIn K (.ref C_NoSymbol) = some (.type "type")) (hc_NoSymbol : PySem.W.hasDictIn K C_NoSymbol = true)
    (ha_NoSymbol : PySem.W.findIn K (.ref C_NoSymbol) "__class__" = some (some (.builtin "object.__class__"))) (hn_NoSymbol : PySem.W.specialIn K (.builtin "object.__class__") "__get__" = some (some (.builtin "getset_descriptor.__get__"))) (ht_NoSymbol : PySem.W.takesIn K (.builtin "object.__class__") = some true) (hm_NoSymbol : PySem.W.mroIn K C_NoSymbol (.type "object") = some true)
    (no_NoSymbol_limit : PySem.W.findIn K (.ref C_NoSymbol) "limit" = some none)
    (ex_NoSymbol_SaggarError : PySem.W.exmOne K (.ref C_NoSymbol) (.ref C_SaggarError) = some true)
    (kit_NoSymbol_NoSymbol : PySem.W.kitOne K (.ref C_NoSymbol) (.ref C_NoSymbol) = some true)
    (kit_NoSymbol_ValueError : PySem.W.kitOne K (.ref C_NoSymbol) (.type "ValueError") = some true)
    (pg_Symbols : PySem.W.plainGet K C_Symbols Str.empty = true) (hd_Symbols : PySem.W.hasDictIn K C_Symbols = true) (po_Symbols : PySem.W.plainOver K C_Symbols = true) (sa_Symbols : PySem.W.findIn K (.ref C_Symbols) "__setattr__" = some (some (.builtin "object.__setattr__")))
    (mi_Symbols : PySem.W.makesIn K C_Symbols = true) (kc_Symbols : PySem.W.keepIn K (.ref C_Symbols) = true)
    (no_Symbols_most : PySem.W.findIn K (.ref C_Symbols) "most" = some none)
    (no_Symbols__texts : PySem.W.findIn K (.ref C_Symbols) "_texts" = some none)
    (no_Symbols__numbers : PySem.W.findIn K (.ref C_Symbols) "_numbers" = some none)
    (l0 : K.lookup f0 = some ⟨oc0, od0, .func (PySem.W.fnOf "__init__" "NoSymbol.__init__" (defArgs s_NoSymbol___init__) (defBody s_NoSymbol___init__) (defScope s_NoSymbol___init__) .none kV0 dc0 pm0 an0 cd0 ct0), sl0⟩) (c0 : PySem.W.codeIn K cd0 "NoSymbol.__init__" = true) (k0 : PySem.W.keepIn K (.ref f0) = true)
    (a1 : PySem.W.findIn K (.ref C_Symbols) "__init__" = some (some (.ref f1))) (i1 : PySem.W.isFn K (.ref f1) = true)
    (l1 : K.lookup f1 = some ⟨oc1, od1, .func (PySem.W.fnOf "__init__" "Symbols.__init__" (defArgs s_Symbols___init__) (defBody s_Symbols___init__) (defScope s_Symbols___init__) (.ref T1) kV1 dc1 pm1 an1 cd1 ct1), sl1⟩) (c1 : PySem.W.codeIn K cd1 "Symbols.__init__" = true) (k1 : PySem.W.keepIn K (.ref f1) = true)
    (lT1 : K.lookup T1 = some ⟨cT1, dT1, .seq #[.int (100000) tk1_0] nT1, sT1⟩)
    (a2 : PySem.W.findIn K (.ref C_Symbols) "count" = some (some (.ref f2))) (i2 : PySem.W.isFn K (.ref f2) = true)
    (l2 : K.lookup f2 = some ⟨oc2, od2, .func (PySem.W.fnOf "count" "Symbols.count" (defArgs s_Symbols_count) (defBody s_Symbols_count) (defScope s_Symbols_count) .none kV2 dc2 pm2 an2 cd2 ct2), sl2⟩) (c2 : PySem.W.codeIn K cd2 "Symbols.count" = true) (k2 : PySem.W.keepIn K (.ref f2) = true)
    (a3 : PySem.W.findIn K (.ref C_Symbols) "number" = some (some (.ref f3))) (i3 : PySem.W.isFn K (.ref f3) = true)
    (l3 : K.lookup f3 = some ⟨oc3, od3, .func (PySem.W.fnOf "number" "Symbols.number" (defArgs s_Symbols_number) (defBody s_Symbols_number) (defScope s_Symbols_number) .none kV3 dc3 pm3 an3 cd3 ct3), sl3⟩) (c3 : PySem.W.codeIn K cd3 "Symbols.number" = true) (k3 : PySem.W.keepIn K (.ref f3) = true)
    (a4 : PySem.W.findIn K (.ref C_Symbols) "knows" = some (some (.ref f4))) (i4 : PySem.W.isFn K (.ref f4) = true)
    (l4 : K.lookup f4 = some ⟨oc4, od4, .func (PySem.W.fnOf "knows" "Symbols.knows" (defArgs s_Symbols_knows) (defBody s_Symbols_knows) (defScope s_Symbols_knows) .none kV4 dc4 pm4 an4 cd4 ct4), sl4⟩) (c4 : PySem.W.codeIn K cd4 "Symbols.knows" = true) (k4 : PySem.W.keepIn K (.ref f4) = true)
    (a5 : PySem.W.findIn K (.ref C_Symbols) "text" = some (some (.ref f5))) (i5 : PySem.W.isFn K (.ref f5) = true)
    (l5 : K.lookup f5 = some ⟨oc5, od5, .func (PySem.W.fnOf "text" "Symbols.text" (defArgs s_Symbols_text) (defBody s_Symbols_text) (defScope s_Symbols_text) .none kV5 dc5 pm5 an5 cd5 ct5), sl5⟩) (c5 : PySem.W.codeIn K cd5 "Symbols.text" = true) (k5 : PySem.W.keepIn K (.ref f5) = true)
    (a6 : PySem.W.findIn K (.ref C_Symbols) "texts" = some (some (.ref f6))) (i6 : PySem.W.isFn K (.ref f6) = true)
    (l6 : K.lookup f6 = some ⟨oc6, od6, .func (PySem.W.fnOf "texts" "Symbols.texts" (defArgs s_Symbols_texts) (defBody s_Symbols_texts) (defScope s_Symbols_texts) .none kV6 dc6 pm6 an6 cd6 ct6), sl6⟩) (c6 : PySem.W.codeIn K cd6 "Symbols.texts" = true) (k6 : PySem.W.keepIn K (.ref f6) = true)
    (a7 : PySem.W.findIn K (.ref C_Symbols) "cut" = some (some (.ref f7))) (i7 : PySem.W.isFn K (.ref f7) = true)
    (l7 : K.lookup f7 = some ⟨oc7, od7, .func (PySem.W.fnOf "cut" "Symbols.cut" (defArgs s_Symbols_cut) (defBody s_Symbols_cut) (defScope s_Symbols_cut) .none kV7 dc7 pm7 an7 cd7 ct7), sl7⟩) (c7 : PySem.W.codeIn K cd7 "Symbols.cut" = true) (k7 : PySem.W.keepIn K (.ref f7) = true)
    (a8 : PySem.W.nsIn K mainGlobals "_law_number" = some (some (.ref f8)))
    (l8 : K.lookup f8 = some ⟨oc8, od8, .func (PySem.W.fnOf "_law_number" "_law_number" (defArgs s__law_number) (defBody s__law_number) (defScope s__law_number) .none kV8 dc8 pm8 an8 cd8 ct8), sl8⟩) (c8 : PySem.W.codeIn K cd8 "_law_number" = true) (k8 : PySem.W.keepIn K (.ref f8) = true)
    (a9 : PySem.W.nsIn K mainGlobals "_law_text" = some (some (.ref f9)))
    (l9 : K.lookup f9 = some ⟨oc9, od9, .func (PySem.W.fnOf "_law_text" "_law_text" (defArgs s__law_text) (defBody s__law_text) (defScope s__law_text) .none kV9 dc9 pm9 an9 cd9 ct9), sl9⟩) (c9 : PySem.W.codeIn K cd9 "_law_text" = true) (k9 : PySem.W.keepIn K (.ref f9) = true)
    (a10 : PySem.W.nsIn K mainGlobals "_law_is" = some (some (.ref f10)))
    (l10 : K.lookup f10 = some ⟨oc10, od10, .func (PySem.W.fnOf "_law_is" "_law_is" (defArgs s__law_is) (defBody s__law_is) (defScope s__law_is) .none kV10 dc10 pm10 an10 cd10 ct10), sl10⟩) (c10 : PySem.W.codeIn K cd10 "_law_is" = true) (k10 : PySem.W.keepIn K (.ref f10) = true)
    (a11 : PySem.W.nsIn K mainGlobals "_law_asked" = some (some (.ref f11)))
    (l11 : K.lookup f11 = some ⟨oc11, od11, .func (PySem.W.fnOf "_law_asked" "_law_asked" (defArgs s__law_asked) (defBody s__law_asked) (defScope s__law_asked) .none kV11 dc11 pm11 an11 cd11 ct11), sl11⟩) (c11 : PySem.W.codeIn K cd11 "_law_asked" = true) (k11 : PySem.W.keepIn K (.ref f11) = true)
    (a12 : PySem.W.nsIn K mainGlobals "_law_agrees" = some (some (.ref f12)))
    (l12 : K.lookup f12 = some ⟨oc12, od12, .func (PySem.W.fnOf "_law_agrees" "_law_agrees" (defArgs s__law_agrees) (defBody s__law_agrees) (defScope s__law_agrees) .none kV12 dc12 pm12 an12 cd12 ct12), sl12⟩) (c12 : PySem.W.codeIn K cd12 "_law_agrees" = true) (k12 : PySem.W.keepIn K (.ref f12) = true)
    (a13 : PySem.W.nsIn K mainGlobals "_law_deed" = some (some (.ref f13)))
    (l13 : K.lookup f13 = some ⟨oc13, od13, .func (PySem.W.fnOf "_law_deed" "_law_deed" (defArgs s__law_deed) (defBody s__law_deed) (defScope s__law_deed) .none kV13 dc13 pm13 an13 cd13 ct13), sl13⟩) (c13 : PySem.W.codeIn K cd13 "_law_deed" = true) (k13 : PySem.W.keepIn K (.ref f13) = true)
    (a14 : PySem.W.nsIn K mainGlobals "law" = some (some (.ref f14)))
    (l14 : K.lookup f14 = some ⟨oc14, od14, .func (PySem.W.fnOf "law" "law" (defArgs s_law) (defBody s_law) (defScope s_law) .none kV14 dc14 pm14 an14 cd14 ct14), sl14⟩) (c14 : PySem.W.codeIn K cd14 "law" = true) (k14 : PySem.W.keepIn K (.ref f14) = true)
    (q_LONGEST : PySem.W.nsIn K mainGlobals "LONGEST" = some (some (.int (4000) t_LONGEST)))
    (z_ValueError : PySem.W.nsIn K mainGlobals "ValueError" = some none)
    (z_bool : PySem.W.nsIn K mainGlobals "bool" = some none)
    (z_int : PySem.W.nsIn K mainGlobals "int" = some none)
    (z_isinstance : PySem.W.nsIn K mainGlobals "isinstance" = some none)
    (z_len : PySem.W.nsIn K mainGlobals "len" = some none)
    (z_list : PySem.W.nsIn K mainGlobals "list" = some none)
    (z_range : PySem.W.nsIn K mainGlobals "range" = some none)
    (z_str : PySem.W.nsIn K mainGlobals "str" = some none) :
    ∃ fd : FuncData, (∀ (s : Shared) (v : Value), BindsTo s fd ⟨[v], []⟩ [("script", v)]) ∧ ∀ base : Heap, K.In base → base.Ns mainGlobals mg → FnOk l.prog w K mg base CX0 6 fa fd ["script"] (sp_law K) := by
  have e : fa = f14 := Value.ref.inj (Option.some.inj (hfa.symm.trans (PySem.W.mg_of X G a14)))
  rw [e]
  have T : Txt K mg { C_SaggarError := C_SaggarError, C_NoSymbol := C_NoSymbol, C_Symbols := C_Symbols, f_NoSymbol___init__ := f0, d_NoSymbol___init__ := _, f_Symbols___init__ := f1, d_Symbols___init__ := _, f_Symbols_count := f2, d_Symbols_count := _, f_Symbols_number := f3, d_Symbols_number := _, f_Symbols_knows := f4, d_Symbols_knows := _, f_Symbols_text := f5, d_Symbols_text := _, f_Symbols_texts := f6, d_Symbols_texts := _, f_Symbols_cut := f7, d_Symbols_cut := _, f__law_number := f8, d__law_number := _, f__law_text := f9, d__law_text := _, f__law_is := f10, d__law_is := _, f__law_asked := f11, d__law_asked := _, f__law_agrees := f12, d__law_agrees := _, f__law_deed := f13, d__law_deed := _, f_law := f14, d_law := _, t_LONGEST := t_LONGEST } := {
      m_SaggarError := PySem.W.mg_of X G m_SaggarError,
      m_NoSymbol := PySem.W.mg_of X G m_NoSymbol,
      m_Symbols := PySem.W.mg_of X G m_Symbols,
      x_NoSymbol := ⟨⟨⟨_, _, _, _, _, _, _, _, _, _, _, _, _, _, _, xl_NoSymbol, by rfl⟩, sa_NoSymbol, ec_NoSymbol, tc_NoSymbol, kc_NoSymbol⟩, ⟨ga_NoSymbol, gg_NoSymbol, ec_NoSymbol, hc_NoSymbol⟩, ic_NoSymbol, ti_NoSymbol, ha_NoSymbol, hn_NoSymbol, ht_NoSymbol, hm_NoSymbol⟩,
      no_NoSymbol_limit := no_NoSymbol_limit,
      ex_NoSymbol_SaggarError := ex_NoSymbol_SaggarError,
      kit_NoSymbol_NoSymbol := kit_NoSymbol_NoSymbol,
      kit_NoSymbol_ValueError := kit_NoSymbol_ValueError,
      cl_Symbols := ⟨pg_Symbols, hd_Symbols, po_Symbols, sa_Symbols⟩,
      mk_Symbols := ⟨mi_Symbols, a1, i1, kc_Symbols⟩,
      no_Symbols_most := no_Symbols_most,
      no_Symbols__texts := no_Symbols__texts,
      no_Symbols__numbers := no_Symbols__numbers,
      k_NoSymbol___init__ := k0,
      F_NoSymbol___init__ := fun_mk (st := s_NoSymbol___init__) l0 c0 k0,
      b_NoSymbol___init__ := (fun_mk (st := s_NoSymbol___init__) l0 c0 k0).binds (fun _ _ _ _ _ _ us hl => match us, hl with | [_, _], _ => rfl),
      k_Symbols___init__ := k1,
      F_Symbols___init__ := (show FunD K "__init__" "Symbols.__init__" (defArgs s_Symbols___init__) (defBody s_Symbols___init__) (defScope s_Symbols___init__) [.int (100000)] [] f1 _ from ⟨⟨_, _, _, _, _, _, _, _, _, _, rfl, l1, c1, .inr ⟨by simp, T1, _, [.int (100000) tk1_0], nT1, rfl, lT1, rfl, (.cons ⟨_, rfl⟩ .nil)⟩, .inl rfl⟩, k1⟩),
      b_Symbols___init__ := (by
        obtain ⟨ds, hv, hb⟩ := FunD.binds1 (ps := ["self", "most"]) (show FunD K "__init__" "Symbols.__init__" (defArgs s_Symbols___init__) (defBody s_Symbols___init__) (defScope s_Symbols___init__) [.int (100000)] [] f1 _ from ⟨⟨_, _, _, _, _, _, _, _, _, _, rfl, l1, c1, .inr ⟨by simp, T1, _, [.int (100000) tk1_0], nT1, rfl, lT1, rfl, (.cons ⟨_, rfl⟩ .nil)⟩, .inl rfl⟩, k1⟩) 2 1 (by simp) (by decide) (fun _ _ _ _ _ _ _ us its h1 h2 => match us, its, h1, h2 with | [_, _], [_], _, _ => ⟨_, rfl, rfl⟩)
        cases hv
        exact hb),
      bd_Symbols___init__ := FunD.binds1 (ps := ["self", "most"]) (show FunD K "__init__" "Symbols.__init__" (defArgs s_Symbols___init__) (defBody s_Symbols___init__) (defScope s_Symbols___init__) [.int (100000)] [] f1 _ from ⟨⟨_, _, _, _, _, _, _, _, _, _, rfl, l1, c1, .inr ⟨by simp, T1, _, [.int (100000) tk1_0], nT1, rfl, lT1, rfl, (.cons ⟨_, rfl⟩ .nil)⟩, .inl rfl⟩, k1⟩) 1 0 (by simp) (by decide) (fun _ _ _ _ _ _ _ us its h1 h2 => match us, its, h1, h2 with | [_], [_], _, _ => ⟨_, rfl, rfl⟩),
      me_Symbols_count := ⟨a2, i2, k2⟩,
      k_Symbols_count := k2,
      F_Symbols_count := fun_mk (st := s_Symbols_count) l2 c2 k2,
      b_Symbols_count := (fun_mk (st := s_Symbols_count) l2 c2 k2).binds (fun _ _ _ _ _ _ us hl => match us, hl with | [_], _ => rfl),
      me_Symbols_number := ⟨a3, i3, k3⟩,
      k_Symbols_number := k3,
      F_Symbols_number := fun_mk (st := s_Symbols_number) l3 c3 k3,
      b_Symbols_number := (fun_mk (st := s_Symbols_number) l3 c3 k3).binds (fun _ _ _ _ _ _ us hl => match us, hl with | [_, _], _ => rfl),
      me_Symbols_knows := ⟨a4, i4, k4⟩,
      k_Symbols_knows := k4,
      F_Symbols_knows := fun_mk (st := s_Symbols_knows) l4 c4 k4,
      b_Symbols_knows := (fun_mk (st := s_Symbols_knows) l4 c4 k4).binds (fun _ _ _ _ _ _ us hl => match us, hl with | [_, _], _ => rfl),
      me_Symbols_text := ⟨a5, i5, k5⟩,
      k_Symbols_text := k5,
      F_Symbols_text := fun_mk (st := s_Symbols_text) l5 c5 k5,
      b_Symbols_text := (fun_mk (st := s_Symbols_text) l5 c5 k5).binds (fun _ _ _ _ _ _ us hl => match us, hl with | [_, _], _ => rfl),
      me_Symbols_texts := ⟨a6, i6, k6⟩,
      k_Symbols_texts := k6,
      F_Symbols_texts := fun_mk (st := s_Symbols_texts) l6 c6 k6,
      b_Symbols_texts := (fun_mk (st := s_Symbols_texts) l6 c6 k6).binds (fun _ _ _ _ _ _ us hl => match us, hl with | [_], _ => rfl),
      me_Symbols_cut := ⟨a7, i7, k7⟩,
      k_Symbols_cut := k7,
      F_Symbols_cut := fun_mk (st := s_Symbols_cut) l7 c7 k7,
      b_Symbols_cut := (fun_mk (st := s_Symbols_cut) l7 c7 k7).binds (fun _ _ _ _ _ _ us hl => match us, hl with | [_, _], _ => rfl),
      g__law_number := PySem.W.mg_of X G a8,
      k__law_number := k8,
      F__law_number := fun_mk (st := s__law_number) l8 c8 k8,
      b__law_number := (fun_mk (st := s__law_number) l8 c8 k8).binds (fun _ _ _ _ _ _ us hl => match us, hl with | [_, _], _ => rfl),
      g__law_text := PySem.W.mg_of X G a9,
      k__law_text := k9,
      F__law_text := fun_mk (st := s__law_text) l9 c9 k9,
      b__law_text := (fun_mk (st := s__law_text) l9 c9 k9).binds (fun _ _ _ _ _ _ us hl => match us, hl with | [_], _ => rfl),
      g__law_is := PySem.W.mg_of X G a10,
      k__law_is := k10,
      F__law_is := fun_mk (st := s__law_is) l10 c10 k10,
      b__law_is := (fun_mk (st := s__law_is) l10 c10 k10).binds (fun _ _ _ _ _ _ us hl => match us, hl with | [_, _], _ => rfl),
      g__law_asked := PySem.W.mg_of X G a11,
      k__law_asked := k11,
      F__law_asked := fun_mk (st := s__law_asked) l11 c11 k11,
      b__law_asked := (fun_mk (st := s__law_asked) l11 c11 k11).binds (fun _ _ _ _ _ _ us hl => match us, hl with | [_, _, _, _], _ => rfl),
      g__law_agrees := PySem.W.mg_of X G a12,
      k__law_agrees := k12,
      F__law_agrees := fun_mk (st := s__law_agrees) l12 c12 k12,
      b__law_agrees := (fun_mk (st := s__law_agrees) l12 c12 k12).binds (fun _ _ _ _ _ _ us hl => match us, hl with | [_, _], _ => rfl),
      g__law_deed := PySem.W.mg_of X G a13,
      k__law_deed := k13,
      F__law_deed := fun_mk (st := s__law_deed) l13 c13 k13,
      b__law_deed := (fun_mk (st := s__law_deed) l13 c13 k13).binds (fun _ _ _ _ _ _ us hl => match us, hl with | [_, _, _, _], _ => rfl),
      g_law := PySem.W.mg_of X G a14,
      k_law := k14,
      F_law := fun_mk (st := s_law) l14 c14 k14,
      b_law := (fun_mk (st := s_law) l14 c14 k14).binds (fun _ _ _ _ _ _ us hl => match us, hl with | [_], _ => rfl),
      c_LONGEST := PySem.W.mg_of X G q_LONGEST,
      z_ValueError := PySem.W.mg_none_of X G z_ValueError,
      z_bool := PySem.W.mg_none_of X G z_bool,
      z_int := PySem.W.mg_none_of X G z_int,
      z_isinstance := PySem.W.mg_none_of X G z_isinstance,
      z_len := PySem.W.mg_none_of X G z_len,
      z_list := PySem.W.mg_none_of X G z_list,
      z_range := PySem.W.mg_none_of X G z_range,
      z_str := PySem.W.mg_none_of X G z_str }
  exact ⟨_, fun s v => .of_eq rfl, fun base _ _ => ok_law T⟩
theorem walk {l : PySem.W.OpenLaw} {q : Program} {loose : List Str} {XP : (Str → Option Value) → Heap → Prop} {YP : World → Heap → Prop} {d : DefRec} {K : Params → PySem.W.Frag} (hn : l.most = some 63) (hdf : d.params.defaults = [])
    (hY : ∀ (w : World) (h : Heap), YP w h → (K w.params).In h)
    (F : ∀ (w : World) (mg : Str → Option Value) (fa : Addr) (h : Heap), (K w.params).In h → h.Ns mainGlobals mg → mg d.name = some (.ref fa) →
      ∃ fd : FuncData, (∀ (s : Shared) (u : Value), BindsTo s fd ⟨[u], []⟩ [("script", u)]) ∧ ∀ base : Heap, (K w.params).In base → base.Ns mainGlobals mg → FnOk l.prog w (K w.params) mg base CX0 6 fa fd ["script"] (sp_law (K w.params))) :
    PySem.W.WalkO q loose XP YP l.row.toRowW d [] (fun f vs => PySem.call f vs) :=
  L2.walk_of (n := 63) (k := 6) (x := "script") (CX := fun _ => CX0) (sp := fun w => sp_law (K w.params)) hn (by decide) hdf ⟨rfl, by decide, by decide⟩ hY F (fun _ _ a ns hl _ hS => ⟨a, ns, rfl, hS, hl, fun _ => rfl⟩) fun _ _ _ _ _ z => z

end My
open PySem PySem.W PyProof.Rows
set_option maxRecDepth 100000 in
set_option maxHeartbeats 0 in
theorem PySem.Challenge.cw_saggar_k01_symbols_keep_numbers_holds : PySem.Challenge.rw_saggar_k01_symbols_keep_numbers.Holds := by
  w_on; o_law; k_head; (case hw => w_witness2)
  k_fill
  refine My.walk (l := PySem.Challenge.rw_saggar_k01_symbols_keep_numbers) rfl rfl (fun w h Y => PySem.W.kIn_of Y) ?F
  case F =>
    intro w mg fa h KX G hmg
    refine' My.all_mk KX G hmg ?m_SaggarError ?m_NoSymbol ?m_Symbols ?xl_NoSymbol ?sa_NoSymbol ?ga_NoSymbol ?gg_NoSymbol ?ic_NoSymbol ?ti_NoSymbol ?kc_NoSymbol ?ec_NoSymbol ?tc_NoSymbol ?hc_NoSymbol ?ha_NoSymbol ?hn_NoSymbol ?ht_NoSymbol ?hm_NoSymbol ?no_NoSymbol_limit ?ex_NoSymbol_SaggarError ?kit_NoSymbol_NoSymbol ?kit_NoSymbol_ValueError ?pg_Symbols ?hd_Symbols ?po_Symbols ?sa_Symbols ?mi_Symbols ?kc_Symbols ?no_Symbols_most ?no_Symbols__texts ?no_Symbols__numbers ?l0 ?c0 ?k0 ?a1 ?i1 ?l1 ?c1 ?k1 ?lT1 ?a2 ?i2 ?l2 ?c2 ?k2 ?a3 ?i3 ?l3 ?c3 ?k3 ?a4 ?i4 ?l4 ?c4 ?k4 ?a5 ?i5 ?l5 ?c5 ?k5 ?a6 ?i6 ?l6 ?c6 ?k6 ?a7 ?i7 ?l7 ?c7 ?k7 ?a8 ?l8 ?c8 ?k8 ?a9 ?l9 ?c9 ?k9 ?a10 ?l10 ?c10 ?k10 ?a11 ?l11 ?c11 ?k11 ?a12 ?l12 ?c12 ?k12 ?a13 ?l13 ?c13 ?k13 ?a14 ?l14 ?c14 ?k14 ?q_LONGEST ?z_ValueError ?z_bool ?z_int ?z_isinstance ?z_len ?z_list ?z_range ?z_str
    (case m_SaggarError => first | k_is | kit_is | kts_exm)
    (case m_NoSymbol => first | k_is | kit_is | kts_exm)
    (case m_Symbols => first | k_is | kit_is | kts_exm)
    (case xl_NoSymbol => first | k_is | kit_is | kts_exm)
    (case sa_NoSymbol => first | k_is | kit_is | kts_exm)
    (case ga_NoSymbol => first | k_is | kit_is | kts_exm)
    (case gg_NoSymbol => first | k_is | kit_is | kts_exm)
    (case ic_NoSymbol => first | k_is | kit_is | kts_exm)
    (case ti_NoSymbol => first | k_is | kit_is | kts_exm)
    (case kc_NoSymbol => first | k_is | kit_is | kts_exm)
    (case ec_NoSymbol => first | k_is | kit_is | kts_exm)
    (case tc_NoSymbol => first | k_is | kit_is | kts_exm)
    (case hc_NoSymbol => first | k_is | kit_is | kts_exm)
    (case ha_NoSymbol => first | k_is | kit_is | kts_exm)
    (case hn_NoSymbol => first | k_is | kit_is | kts_exm)
    (case ht_NoSymbol => first | k_is | kit_is | kts_exm)
    (case hm_NoSymbol => first | k_is | kit_is | kts_exm)
    (case no_NoSymbol_limit => first | k_is | kit_is | kts_exm)
    (case ex_NoSymbol_SaggarError => first | k_is | kit_is | kts_exm)
    (case kit_NoSymbol_NoSymbol => first | k_is | kit_is | kts_exm)
    (case kit_NoSymbol_ValueError => first | k_is | kit_is | kts_exm)
    (case pg_Symbols => first | k_is | kit_is | kts_exm)
    (case hd_Symbols => first | k_is | kit_is | kts_exm)
    (case po_Symbols => first | k_is | kit_is | kts_exm)
    (case sa_Symbols => first | k_is | kit_is | kts_exm)
    (case mi_Symbols => first | k_is | kit_is | kts_exm)
    (case kc_Symbols => first | k_is | kit_is | kts_exm)
    (case no_Symbols_most => first | k_is | kit_is | kts_exm)
    (case no_Symbols__texts => first | k_is | kit_is | kts_exm)
    (case no_Symbols__numbers => first | k_is | kit_is | kts_exm)
    (case l0 => first | k_is | kit_is | kts_exm)
    (case c0 => first | k_is | kit_is | kts_exm)
    (case k0 => first | k_is | kit_is | kts_exm)
    (case a1 => first | k_is | kit_is | kts_exm)
    (case i1 => first | k_is | kit_is | kts_exm)
    (case l1 => first | k_is | kit_is | kts_exm)
    (case c1 => first | k_is | kit_is | kts_exm)
    (case k1 => first | k_is | kit_is | kts_exm)
    (case lT1 => first | k_is | kit_is | kts_exm)
    (case a2 => first | k_is | kit_is | kts_exm)
    (case i2 => first | k_is | kit_is | kts_exm)
    (case l2 => first | k_is | kit_is | kts_exm)
    (case c2 => first | k_is | kit_is | kts_exm)
    (case k2 => first | k_is | kit_is | kts_exm)
    (case a3 => first | k_is | kit_is | kts_exm)
    (case i3 => first | k_is | kit_is | kts_exm)
    (case l3 => first | k_is | kit_is | kts_exm)
    (case c3 => first | k_is | kit_is | kts_exm)
    (case k3 => first | k_is | kit_is | kts_exm)
    (case a4 => first | k_is | kit_is | kts_exm)
    (case i4 => first | k_is | kit_is | kts_exm)
    (case l4 => first | k_is | kit_is | kts_exm)
    (case c4 => first | k_is | kit_is | kts_exm)
    (case k4 => first | k_is | kit_is | kts_exm)
    (case a5 => first | k_is | kit_is | kts_exm)
    (case i5 => first | k_is | kit_is | kts_exm)
    (case l5 => first | k_is | kit_is | kts_exm)
    (case c5 => first | k_is | kit_is | kts_exm)
    (case k5 => first | k_is | kit_is | kts_exm)
    (case a6 => first | k_is | kit_is | kts_exm)
    (case i6 => first | k_is | kit_is | kts_exm)
    (case l6 => first | k_is | kit_is | kts_exm)
    (case c6 => first | k_is | kit_is | kts_exm)
    (case k6 => first | k_is | kit_is | kts_exm)
    (case a7 => first | k_is | kit_is | kts_exm)
    (case i7 => first | k_is | kit_is | kts_exm)
    (case l7 => first | k_is | kit_is | kts_exm)
    (case c7 => first | k_is | kit_is | kts_exm)
    (case k7 => first | k_is | kit_is | kts_exm)
    (case a8 => first | k_is | kit_is | kts_exm)
    (case l8 => first | k_is | kit_is | kts_exm)
    (case c8 => first | k_is | kit_is | kts_exm)
    (case k8 => first | k_is | kit_is | kts_exm)
    (case a9 => first | k_is | kit_is | kts_exm)
    (case l9 => first | k_is | kit_is | kts_exm)
    (case c9 => first | k_is | kit_is | kts_exm)
    (case k9 => first | k_is | kit_is | kts_exm)
    (case a10 => first | k_is | kit_is | kts_exm)
    (case l10 => first | k_is | kit_is | kts_exm)
    (case c10 => first | k_is | kit_is | kts_exm)
    (case k10 => first | k_is | kit_is | kts_exm)
    (case a11 => first | k_is | kit_is | kts_exm)
    (case l11 => first | k_is | kit_is | kts_exm)
    (case c11 => first | k_is | kit_is | kts_exm)
    (case k11 => first | k_is | kit_is | kts_exm)
    (case a12 => first | k_is | kit_is | kts_exm)
    (case l12 => first | k_is | kit_is | kts_exm)
    (case c12 => first | k_is | kit_is | kts_exm)
    (case k12 => first | k_is | kit_is | kts_exm)
    (case a13 => first | k_is | kit_is | kts_exm)
    (case l13 => first | k_is | kit_is | kts_exm)
    (case c13 => first | k_is | kit_is | kts_exm)
    (case k13 => first | k_is | kit_is | kts_exm)
    (case a14 => first | k_is | kit_is | kts_exm)
    (case l14 => first | k_is | kit_is | kts_exm)
    (case c14 => first | k_is | kit_is | kts_exm)
    (case k14 => first | k_is | kit_is | kts_exm)
    (case q_LONGEST => first | k_is | kit_is | kts_exm)
    (case z_ValueError => first | k_is | kit_is | kts_exm)
    (case z_bool => first | k_is | kit_is | kts_exm)
    (case z_int => first | k_is | kit_is | kts_exm)
    (case z_isinstance => first | k_is | kit_is | kts_exm)
    (case z_len => first | k_is | kit_is | kts_exm)
    (case z_list => first | k_is | kit_is | kts_exm)
    (case z_range => first | k_is | kit_is | kts_exm)
    (case z_str => first | k_is | kit_is | kts_exm)
#print axioms PySem.Challenge.cw_saggar_k01_symbols_keep_numbers_holds
