import PyProof.Rows.All
import Wide.All
import OpenK.AllK
import Wide.FinOn
import KE.KDictExact
import KE.KDictWalk
import KE.KTryMore
import PyProof.Seq
import HandS.ForMost
import HandS.ForExc
import HandS.IsInst
import HandS.TupLe
import HandS.Evl
import HandS.ExcInit
import HandS.ExcField
import KE.KExcIs
import HandS.ExcCtx
import HandS.HotCalls
import HandS.Defaults
import HandS.SortInts
import HandS.Struct
import HandS.DictComp
import HandS.Wide
import PyProof.StrOps2
import KE.GoesMore
import KE.GoesEnum
import HandS.Iter
import HandS.TupAny
import HandS.Sort
import HandS.SortOrd
import HandS.SortRule
import KE.KSortTup
import HandS.More
import HandS.Strs
import HandS.StrMore
import HandS.SetKeys
import HandS.Defaults
import PySem.Challenge.RW_saggar_k52_plans_of_changes
set_option Elab.async false
set_option linter.all false
set_option maxRecDepth 100000
set_option maxHeartbeats 4000000

namespace My
open PySem PySem.Spec PyProof.Rows L2
/-! ### the text by places -/
def top (i : Nat) : Stmt := PySem.Challenge.pw_saggar_k52_plans_of_changes.main.body.getD i (.Pass ⟨0, 0, 0, 0⟩)
abbrev s_BadClass___init__ : Stmt := inClass (top 2) 0
abbrev s_is_name : Stmt := top 7
abbrev s_letters_end : Stmt := top 8
abbrev s_name_end : Stmt := top 9
abbrev s_is_field_name : Stmt := top 12
abbrev s_Kind___init__ : Stmt := inClass (top 16) 0
abbrev s_Change___init__ : Stmt := inClass (top 17) 0
abbrev s_plan_change : Stmt := top 18
abbrev s_all_fields : Stmt := top 19
abbrev s_is_under : Stmt := top 20
abbrev s_by_name : Stmt := top 21
abbrev s_line_of : Stmt := top 22
abbrev s_fields_in : Stmt := top 23
abbrev s_check_classes : Stmt := top 24
abbrev s_check_fields : Stmt := top 25
abbrev s_check_all_fields : Stmt := top 26
abbrev s__law_draw : Stmt := top 28
abbrev s__law_kinds : Stmt := top 29
abbrev s__law_all : Stmt := top 30
abbrev s__law_under : Stmt := top 31
abbrev s__law_good : Stmt := top 32
abbrev s__law_why : Stmt := top 33
abbrev s__law_behind : Stmt := top 34
abbrev s__law_planned : Stmt := top 35
abbrev s__law_due : Stmt := top 36
abbrev s_law : Stmt := top 37
theorem sc_BadClass___init__ : FnScope ["self", "why"] ["self", "why"] (defScope s_BadClass___init__) := ⟨rfl, rfl, rfl, by decide +kernel, rfl, by decide +kernel, by decide +kernel⟩
theorem sc_is_name : FnScope ["text"] ["text"] (defScope s_is_name) := ⟨rfl, rfl, rfl, by decide +kernel, rfl, by decide +kernel, by decide +kernel⟩
theorem sc_letters_end : FnScope ["source", "at"] ["source", "at"] (defScope s_letters_end) := ⟨rfl, rfl, rfl, by decide +kernel, rfl, by decide +kernel, by decide +kernel⟩
theorem sc_name_end : FnScope ["source", "at", "end"] ["source", "at"] (defScope s_name_end) := ⟨rfl, rfl, rfl, by decide +kernel, rfl, by decide +kernel, by decide +kernel⟩
theorem sc_is_field_name : FnScope ["text"] ["text"] (defScope s_is_field_name) := ⟨rfl, rfl, rfl, by decide +kernel, rfl, by decide +kernel, by decide +kernel⟩
theorem sc_Kind___init__ : FnScope ["self", "name", "superclass", "fields"] ["self", "name", "superclass", "fields"] (defScope s_Kind___init__) := ⟨rfl, rfl, rfl, by decide +kernel, rfl, by decide +kernel, by decide +kernel⟩
theorem sc_Change___init__ : FnScope ["self", "name", "old", "new", "places", "at", "field"] ["self", "name", "old", "new"] (defScope s_Change___init__) := ⟨rfl, rfl, rfl, by decide +kernel, rfl, by decide +kernel, by decide +kernel⟩
theorem sc_plan_change : FnScope ["kinds", "name", "superclass", "fields", "before", "behind", "changes", "kind", "new"] ["kinds", "name", "superclass", "fields"] (defScope s_plan_change) := ⟨rfl, rfl, rfl, by decide +kernel, rfl, by decide +kernel, by decide +kernel⟩
theorem sc_all_fields : FnScope ["kinds", "name"] ["kinds", "name"] (defScope s_all_fields) := ⟨rfl, rfl, rfl, by decide +kernel, rfl, by decide +kernel, by decide +kernel⟩
theorem sc_is_under : FnScope ["kinds", "name", "other"] ["kinds", "name", "other"] (defScope s_is_under) := ⟨rfl, rfl, rfl, by decide +kernel, rfl, by decide +kernel, by decide +kernel⟩
theorem sc_by_name : FnScope ["kinds", "kind"] ["kinds"] (defScope s_by_name) := ⟨rfl, rfl, rfl, by decide +kernel, rfl, by decide +kernel, by decide +kernel⟩
theorem sc_line_of : FnScope ["table", "name", "found"] ["table", "name"] (defScope s_line_of) := ⟨rfl, rfl, rfl, by decide +kernel, rfl, by decide +kernel, by decide +kernel⟩
theorem sc_fields_in : FnScope ["table", "name", "found", "above"] ["table", "name"] (defScope s_fields_in) := ⟨rfl, rfl, rfl, by decide +kernel, rfl, by decide +kernel, by decide +kernel⟩
theorem sc_check_classes : FnScope ["table", "name", "superclass"] ["table", "name", "superclass"] (defScope s_check_classes) := ⟨rfl, rfl, rfl, by decide +kernel, rfl, by decide +kernel, by decide +kernel⟩
theorem sc_check_fields : FnScope ["fields", "at", "field"] ["fields"] (defScope s_check_fields) := ⟨rfl, rfl, rfl, by decide +kernel, rfl, by decide +kernel, by decide +kernel⟩
theorem sc_check_all_fields : FnScope ["fields"] ["fields"] (defScope s_check_all_fields) := ⟨rfl, rfl, rfl, by decide +kernel, rfl, by decide +kernel, by decide +kernel⟩
theorem sc__law_draw : FnScope ["state", "script", "size", "cell", "mixed", "digit"] ["state", "script", "size"] (defScope s__law_draw) := ⟨rfl, rfl, rfl, by decide +kernel, rfl, by decide +kernel, by decide +kernel⟩
theorem sc__law_kinds : FnScope ["state", "script", "names", "fields", "kinds", "k", "above", "taken", "own", "j", "field"] ["state", "script"] (defScope s__law_kinds) := ⟨rfl, rfl, rfl, by decide +kernel, rfl, by decide +kernel, by decide +kernel⟩
theorem sc__law_all : FnScope ["kinds", "name", "found", "k", "above", "own", "one"] ["kinds", "name"] (defScope s__law_all) := ⟨rfl, rfl, rfl, by decide +kernel, rfl, by decide +kernel, by decide +kernel⟩
theorem sc__law_under : FnScope ["kinds", "name", "other", "k", "above", "one"] ["kinds", "name", "other"] (defScope s__law_under) := ⟨rfl, rfl, rfl, by decide +kernel, rfl, by decide +kernel, by decide +kernel⟩
theorem sc__law_good : FnScope ["name", "char"] ["name"] (defScope s__law_good) := ⟨rfl, rfl, rfl, by decide +kernel, rfl, by decide +kernel, by decide +kernel⟩
theorem sc__law_why : FnScope ["kinds", "name", "above", "own", "one", "names", "k", "behind", "fields"] ["kinds", "name", "above", "own"] (defScope s__law_why) := ⟨rfl, rfl, rfl, by decide +kernel, rfl, by decide +kernel, by decide +kernel⟩
theorem sc__law_behind : FnScope ["kinds", "name", "above", "own", "found", "one"] ["kinds", "name", "above", "own"] (defScope s__law_behind) := ⟨rfl, rfl, rfl, by decide +kernel, rfl, by decide +kernel, by decide +kernel⟩
theorem sc__law_planned : FnScope ["kinds", "name", "above", "own", "given", "asked", "found", "e", "one"] ["kinds", "name", "above", "own"] (defScope s__law_planned) := ⟨rfl, rfl, rfl, by decide +kernel, rfl, by decide +kernel, by decide +kernel⟩
theorem sc__law_due : FnScope ["kinds", "name", "above", "own", "why", "behind", "found", "one", "old", "new", "origins", "field"] ["kinds", "name", "above", "own"] (defScope s__law_due) := ⟨rfl, rfl, rfl, by decide +kernel, rfl, by decide +kernel, by decide +kernel⟩
theorem sc_law : FnScope ["script", "state", "kinds", "one", "given", "other", "fields", "wrong", "k", "name", "above", "own", "asked", "new", "pick", "due", "behind", "back", "j"] ["script"] (defScope s_law) := ⟨rfl, rfl, rfl, by decide +kernel, rfl, by decide +kernel, by decide +kernel⟩

/-! ### words for all laws -/
abbrev cl (x : Str) : List Nat := x.cps.toList
theorem str1 {a c : Nat} : ((⟨#[a]⟩ : Str) = ⟨#[c]⟩) = (a = c) := by
  apply propext
  constructor
  · intro h
    have h2 := congrArg (fun x : Str => x.cps.toList) h
    simpa using h2
  · intro h
    rw [h]
theorem len_cl (x : Str) : x.length = (cl x).length := by
  show x.cps.size = x.cps.toList.length
  simp
theorem cl_append (x y : Str) : cl (x ++ y) = cl x ++ cl y := by
  show (x.cps ++ y.cps).toList = _
  simp
theorem at_cl (x : Str) (n : Nat) : x.cps[n]? = (cl x)[n]? := by
  show x.cps[n]? = x.cps.toList[n]?
  simp
theorem cl_nil {x : Str} : x = "" ↔ cl x = [] := by
  constructor
  · intro h
    rw [h]
    rfl
  · intro h
    have e : x.cps = #[] := by
      have := congrArg List.toArray h
      simpa using this
    have : x = ⟨x.cps⟩ := rfl
    rw [this, e]
    rfl
theorem sc_ii {i j : Int} : scal (.int i) (.int j) = true := rfl
theorem sc_ss {x y : Str} : scal (.str x) (.str y) = true := rfl
theorem sc_bb {a b : Bool} : scal (.bl a) (.bl b) = true := rfl
theorem cx_K {CX : CXT} {P : Program} {w : World} {K : PySem.W.Frag} {mg : Str → Option Value} {base : Heap} {N : List Str} {qual : Str} {scope : Scope} {f : Addr} {cd : Value} {A : Around} {outer : List Env} {s : Shared} {H : Hp} {E : XK} : (cxOf CX P w K mg base N qual scope f cd A outer s H E).K = K := rfl
/-! ### rules told over a tracked list as it stands: H p is looked up -/
def lstAt (H : Hp) (p : Addr) (R : List V → Prop) : Prop := match H p with
  | some (.lst xs) => R xs
  | _ => False
theorem lstAt_of {H : Hp} {p : Addr} {xs : List V} {R : List V → Prop} (h : H p = some (.lst xs)) : lstAt H p R = R xs := by
  unfold lstAt
  rw [h]
theorem lstAt_get {H : Hp} {p : Addr} {R : List V → Prop} (h : lstAt H p R) : ∃ xs, H p = some (.lst xs) ∧ R xs := by
  unfold lstAt at h
  split at h
  · rename_i xs e
    exact ⟨xs, e, h⟩
  · exact h.elim
def setI (xs : List V) (i : Int) (v : V) : Option (List V) := (ixN xs.length i).map fun j => xs.set j v
def rIxM : R2 := fun x y H Q => ∃ p i, x = .ref p ∧ y = .int i ∧ lstAt H p fun xs => ∃ v, atI xs i = some v ∧ Q v H
def rSetM : V → V → V → Hp → (Hp → Prop) → Prop := fun o i v H Q => ∃ p k, o = .ref p ∧ i = .int k ∧ lstAt H p fun xs => ∃ ys, setI xs k v = some ys ∧ Q (upd H p (.lst ys))
def rLenM : List V → Hp → VK → Prop := fun vs H Q => ∃ p, vs = [.ref p] ∧ lstAt H p fun xs => Q (.int xs.length) H
theorem atI_0 {α : Type} {a : α} {l : List α} : atI (a :: l) 0 = some a := by simp [atI, ixN]
theorem atI_1 {α : Type} {a b : α} {l : List α} : atI (a :: b :: l) 1 = some b := by
  have : ixN (a :: b :: l).length 1 = some 1 := by
    unfold ixN
    rw [if_pos (by omega), if_pos (by simp only [List.length_cons]; omega)]
    rfl
  unfold atI
  rw [this]
  rfl
theorem atI_2 {α : Type} {a b c : α} {l : List α} : atI (a :: b :: c :: l) 2 = some c := by
  have : ixN (a :: b :: c :: l).length 2 = some 2 := by
    unfold ixN
    rw [if_pos (by omega), if_pos (by simp only [List.length_cons]; omega)]
    rfl
  unfold atI
  rw [this]
  rfl
theorem atI_3 {α : Type} {a b c d : α} {l : List α} : atI (a :: b :: c :: d :: l) 3 = some d := by
  have : ixN (a :: b :: c :: d :: l).length 3 = some 3 := by
    unfold ixN
    rw [if_pos (by omega), if_pos (by simp only [List.length_cons]; omega)]
    rfl
  unfold atI
  rw [this]
  rfl
theorem setI_0 {a v : V} {l : List V} : setI (a :: l) 0 v = some (v :: l) := by simp [setI, ixN]
theorem setI_1 {a b v : V} {l : List V} : setI (a :: b :: l) 1 v = some (a :: v :: l) := by
  have : ixN (a :: b :: l).length 1 = some 1 := by
    unfold ixN
    rw [if_pos (by omega), if_pos (by simp only [List.length_cons]; omega)]
    rfl
  unfold setI
  rw [this]
  rfl
theorem setI_2 {a b c v : V} {l : List V} : setI (a :: b :: c :: l) 2 v = some (a :: b :: v :: l) := by
  have : ixN (a :: b :: c :: l).length 2 = some 2 := by
    unfold ixN
    rw [if_pos (by omega), if_pos (by simp only [List.length_cons]; omega)]
    rfl
  unfold setI
  rw [this]
  rfl
theorem setI_3 {a b c d v : V} {l : List V} : setI (a :: b :: c :: d :: l) 3 v = some (a :: b :: c :: v :: l) := by
  have : ixN (a :: b :: c :: d :: l).length 3 = some 3 := by
    unfold ixN
    rw [if_pos (by omega), if_pos (by simp only [List.length_cons]; omega)]
    rfl
  unfold setI
  rw [this]
  rfl
/-- isinstance of a plain value and a built-in type -/
def isTy : V → String → Option Bool
  | .bl _, T => L2.kitB "bool" T
  | .int _, T => L2.kitB "int" T
  | .str _, T => L2.kitB "str" T
  | .non, T => L2.kitB "NoneType" T
  | _, _ => none
def rIsS : List V → Hp → VK → Prop := fun xs H Q => ∃ x T, xs = [x, .ty T] ∧ ∃ b, isTy x T = some b ∧ Q (.bl b) H
theorem isTy_bb {b : Bool} : isTy (.bl b) "bool" = some true := by
  show L2.kitB "bool" "bool" = some true
  decide +kernel
theorem isTy_bi {b : Bool} : isTy (.bl b) "int" = some true := by
  show L2.kitB "bool" "int" = some true
  decide +kernel
theorem isTy_ib {i : Int} : isTy (.int i) "bool" = some false := by
  show L2.kitB "int" "bool" = some false
  decide +kernel
theorem isTy_ii {i : Int} : isTy (.int i) "int" = some true := by
  show L2.kitB "int" "int" = some true
  decide +kernel
theorem isTy_ss {x : Str} : isTy (.str x) "str" = some true := by
  show L2.kitB "str" "str" = some true
  decide +kernel
theorem isTy_nb : isTy .non "bool" = some false := by
  show L2.kitB "NoneType" "bool" = some false
  decide +kernel
theorem isTy_ni : isTy .non "int" = some false := by
  show L2.kitB "NoneType" "int" = some false
  decide +kernel
section
variable {X : Cx}
theorem call_isS : CallR X (.builtin "isinstance") rIsS := by
  intro pins s σ H xs us Q I r h
  obtain ⟨x, T, rfl, b, e, q⟩ := h
  have ty : ∃ t, TyX X.K H x (.type t) ∧ L2.kitB t T = some b := by
    cases x with
    | bl k => exact ⟨_, .base (.bl k), e⟩
    | int k => exact ⟨_, .base (.int k), e⟩
    | str k => exact ⟨_, .base (.str k), e⟩
    | non => exact ⟨_, .base .non, e⟩
    | byt k => cases e
    | flt k => cases e
    | ref k => cases e
    | ty k => cases e
  obtain ⟨t, ht, hk⟩ := ty
  exact call_isi pins s σ H _ us Q I r ⟨x, .ty T, .type t, .type T, b, rfl, .ty T, ht, kit_ty hk, q⟩
theorem ix_lstM : IxR X rIxM := by
  intro value slice pins s σ H x y v u Q I rx ry h hs
  obtain ⟨p, i, e1, e2, h⟩ := h
  obtain ⟨xs, hp, z, hz, q⟩ := lstAt_get h
  exact ix_list value slice pins s σ H x y v u Q I rx ry ⟨p, xs, i, z, e1, e2, .inl (.inl hp), hz, q⟩ hs
theorem set_lstM : PSet X rSetM := by
  intro pins s σ H o i v ov iv u Q I ro ri rv h
  obtain ⟨p, k, e1, e2, h⟩ := h
  obtain ⟨xs, hp, ys, hy, q⟩ := lstAt_get h
  unfold setI at hy
  cases hj : ixN xs.length k with
  | none =>
    rw [hj] at hy
    cases hy
  | some j =>
    rw [hj] at hy
    have hy2 : xs.set j v = ys := Option.some.inj hy
    subst hy2
    exact set_list pins s σ H o i v ov iv u Q I ro ri rv ⟨p, xs, k, j, e1, e2, hp, hj, q⟩
theorem call_lenM : CallR X (.builtin "len") rLenM := by
  intro pins s σ H xs us Q I r h
  obtain ⟨p, e, h⟩ := h
  obtain ⟨ys, hp, q⟩ := lstAt_get h
  exact call_len_seq pins s σ H xs us Q I r ⟨p, ys, e, .inl (.inl (.inl hp)), q⟩
/-- int(n) of an int -/
theorem call_intI : CallR X (.type "int") (fun xs H Q => ∃ i, xs = [.int i] ∧ Q (.int i) H) := fun pins s σ H xs us Q I r h => call_int1 pins s σ H xs us Q I r (Or.inl h)
end
theorem same_new {H : Hp} {p : Addr} {o : HO} (h : H p = none) : Same H (upd H p o) := fun b x e => by
  rw [upd_ne (ne_of_none e h)]
  exact e
/-! ### loops by an invariant, told over the loop's own reading -/
theorem for_rng {ta : TA} {g : TG} {tb : TS} {D : Ends} {σ : L2.St} {H : Hp} (j : Int) (hta : ∀ R : List V → Hp → Prop, R [.int j] H → ta σ H R) (h0 : 0 ≤ j) (h1 : j < 2 ^ 62) (Pv : Nat → L2.St → Hp → Prop) (hp : Pv 0 σ H)
    (hs : ∀ (i : Nat) σ H, (i : Int) < j → Pv i σ H → g (.int (i : Int)) σ H fun σ2 H2 => tb { D with nx := Pv (i + 1), ct := Pv (i + 1), bk := D.nx } σ2 H2) (hd : ∀ σ H, Pv j.toNat σ H → D.nx σ H) : tFor (iRng1 ta) g tb D σ H := by
  refine hta _ ⟨j, rfl, by omega, h1, for_range (lo := 0) (n := j.toNat) Pv hp (fun i σ H hi pv => ?_) hd⟩
  rw [Int.zero_add]
  exact hs i σ H (by omega) pv
theorem for_rng2 {ta : TA} {g : TG} {tb : TS} {D : Ends} {σ : L2.St} {H : Hp} (l j : Int) (hta : ∀ R : List V → Hp → Prop, R [.int l, .int j] H → ta σ H R) (h0 : -(2 ^ 62) ≤ l) (h2 : l < 2 ^ 62) (h3 : -(2 ^ 62) ≤ j) (h1 : j < 2 ^ 62) (Pv : Nat → L2.St → Hp → Prop) (hp : Pv 0 σ H)
    (hs : ∀ (i : Nat) σ H, l + (i : Int) < j → Pv i σ H → g (.int (l + (i : Int))) σ H fun σ2 H2 => tb { D with nx := Pv (i + 1), ct := Pv (i + 1), bk := D.nx } σ2 H2) (hd : ∀ σ H, Pv (j - l).toNat σ H → D.nx σ H) : tFor (iRng2 ta) g tb D σ H :=
  hta _ ⟨l, j, rfl, ⟨h0, h2, h3, h1⟩, for_range (lo := l) (n := (j - l).toNat) Pv hp (fun i σ H hi pv => hs i σ H (by omega) pv) hd⟩
theorem for_lst {K : PySem.W.Frag} {tl : TE} {g : TG} {tb : TS} {D : Ends} {σ : L2.St} {H H0 : Hp} {a : Addr} (xs : List V) (htl : ∀ R : V → Hp → Prop, R (.ref a) H0 → tl σ H R) (Pv : Nat → L2.St → Hp → Prop) (hp : Pv 0 σ H0) (hl : ∀ i σ H, i ≤ xs.length → Pv i σ H → SqL K H a xs)
    (hs : ∀ i x σ H, xs[i]? = some x → Pv i σ H → g x σ H fun σ2 H2 => tb { D with nx := Pv (i + 1), ct := Pv (i + 1), bk := D.nx } σ2 H2) (hd : ∀ σ H, Pv xs.length σ H → D.nx σ H) : tFor (iList K tl) g tb D σ H :=
  htl _ ⟨a, rfl, ⟨xs, hl 0 σ H0 (Nat.zero_le _) hp⟩, L2.for_list (K := K) (a := a) (xs := xs) Pv hp hl hs hd⟩
/-- [f(x) for x in a list of ints], the element an int that is reckoned from x alone -/
theorem lc_ints {K : PySem.W.Frag} {tl te : TE} {c : Nat} {σ : L2.St} {H : Hp} {Q : VK} {a : Addr} {ns : List Int} (f : Int → Int) (htl : ∀ R : V → Hp → Prop, R (.ref a) H → tl σ H R) (ha : SqL K H a (ns.map V.int)) (hc : c < σ.length) (hn : ns.length ≤ 100000)
    (hte : ∀ (σ' : L2.St) (H' : Hp) (z : Int) (R : VK), σ'[c]? = some (some (.int z)) → R (.int (f z)) H' → te σ' H' R) (k : ∀ D, H D = none → Q (.ref D) (upd H D (.lst (ns.map fun z => .int (f z))))) : tLc (iList K tl) (gName c) tYes te [c] σ H Q := by
  refine htl _ ⟨a, rfl, ⟨_, ha⟩, fun D hD => lc_list (K := K) (a := a) (xs := ns.map V.int) (fun i H' => H' = upd H D (.lst ((ns.take i).map fun z => .int (f z)))) (by rw [List.take_zero]; rfl) (fun i H' _ e => ?_) ?_ ?_⟩
  · rw [e]
    exact (same_new hD).seq ha
  · rintro i x H' hx rfl
    rw [List.getElem?_map] at hx
    cases hz : ns[i]? with
    | none =>
      rw [hz] at hx
      cases hx
    | some z =>
      rw [hz] at hx
      have ex : V.int z = x := Option.some.inj hx
      subst ex
      have hlt : i < ns.length := (List.getElem?_eq_some_iff.mp hz).1
      refine ⟨?_, ?_⟩
      · show List.set (List.set (List.set σ c none) c _) c none = List.set σ c none
        rw [List.set_set, List.set_set]
      · simp only [tYes, if_true]
        refine hte _ _ z _ ?_ ⟨_, upd_same, ?_, ?_⟩
        · show (List.set (List.set σ c none) c _)[c]? = _
          rw [List.getElem?_set_self (by rw [List.length_set]; exact hc)]
        · rw [List.length_map, List.length_take]
          exact Nat.lt_of_le_of_lt (Nat.min_le_left _ _) (Nat.lt_of_lt_of_le (by omega : i < 100000) (by decide))
        · rw [upd_upd, List.take_add_one, hz, List.map_append]
          rfl
  · rintro H' rfl
    rw [List.length_map, List.take_length]
    exact k D hD

/-! ### dicts, told over a tracked dict as it stands -/
def dcAt (H : Hp) (p : Addr) (R : List (Key × V) → Prop) : Prop := match H p with
  | some (.dK kvs) => R kvs
  | _ => False
theorem dcAt_get {H : Hp} {p : Addr} {R : List (Key × V) → Prop} (h : dcAt H p R) : ∃ kvs, H p = some (.dK kvs) ∧ R kvs := by
  unfold dcAt at h
  split at h
  · rename_i kvs e
    exact ⟨kvs, e, h⟩
  · exact h.elim
/-- .. read, though it may be locked -/
def dcRd (H : Hp) (p : Addr) (R : List (Key × V) → Prop) : Prop := match H p with
  | some (.dK kvs) => R kvs
  | some (.frz _ (.dK kvs)) => R kvs
  | _ => False
theorem dcRd_get {H : Hp} {p : Addr} {R : List (Key × V) → Prop} (h : dcRd H p R) : ∃ kvs, Rd H p (.dK kvs) ∧ R kvs := by
  unfold dcRd at h
  split at h
  · rename_i kvs e
    exact ⟨kvs, .inl e, h⟩
  · rename_i o kvs e
    exact ⟨kvs, .inr ⟨o, e⟩, h⟩
  · exact h.elim
def keyOf : V → Option Key
  | .int i => some (Sum.inl i)
  | .str x => some (Sum.inr x)
  | _ => none
theorem keyOf_kV {y : V} {k : Key} (h : keyOf y = some k) : y = kV k := by
  cases y <;> first | (cases h; rfl) | cases h
theorem keyOf_int {i : Int} : keyOf (.int i) = some (Sum.inl i) := rfl
theorem keyOf_str {x : Str} : keyOf (.str x) = some (Sum.inr x) := rfl
theorem kV_int {i : Int} {k : Key} : (V.int i = kV k) = (Sum.inl i = k) := by
  apply propext
  cases k with
  | inl j => exact ⟨(fun h => by cases h; rfl), (fun h => by cases h; rfl)⟩
  | inr x => exact ⟨(fun h => by cases h), (fun h => by cases h)⟩
theorem kV_str {x : Str} {k : Key} : (V.str x = kV k) = (Sum.inr x = k) := by
  apply propext
  cases k with
  | inl j => exact ⟨(fun h => by cases h), (fun h => by cases h)⟩
  | inr y => exact ⟨(fun h => by cases h; rfl), (fun h => by cases h; rfl)⟩
def rDInM (neg : Bool) : R2 := fun y x H Q => ∃ a, x = .ref a ∧ ∃ k, keyOf y = some k ∧ dcRd H a fun kvs => Q (.bl (if neg then !(valV kvs k).isSome else (valV kvs k).isSome)) H
def rDGetM : R2 := fun x y H Q => ∃ a, x = .ref a ∧ ∃ k, keyOf y = some k ∧ dcRd H a fun kvs => ∃ v, valV kvs k = some v ∧ Q v H
def rDSetM : V → V → V → Hp → (Hp → Prop) → Prop := fun o i v H Q => ∃ a, o = .ref a ∧ ∃ k, keyOf i = some k ∧ dcAt H a fun kvs => kvs.length < sizeLine ∧ Q (upd H a (.dK (putK kvs k v)))
def rDLenM : List V → Hp → VK → Prop := fun vs H Q => ∃ a, vs = [.ref a] ∧ dcAt H a fun kvs => Q (.int kvs.length) H
section
variable {X : Cx}
theorem op_dinM (hu : X.A.units + 1 < cLine) : OpR X (compareOp .In) (rDInM false) := by
  intro pins s σ H y x u v Q I ry rx h
  obtain ⟨a, rfl, k, hk, h⟩ := h
  obtain ⟨kvs, hp, q⟩ := dcRd_get h
  obtain rfl : v = Value.ref a := rx
  have e := keyOf_kV hk
  subst e
  exact d_in hu I (.inl ⟨kvs, k, hp, rfl, rfl⟩) ry fun s3 I3 => ⟨.bl (valV kvs k).isSome, H, I3, rfl, q⟩
theorem op_dnotinM (hu : X.A.units + 1 < cLine) : OpR X (compareOp .NotIn) (rDInM true) := by
  intro pins s σ H y x u v Q I ry rx h
  obtain ⟨a, rfl, k, hk, h⟩ := h
  obtain ⟨kvs, hp, q⟩ := dcRd_get h
  obtain rfl : v = Value.ref a := rx
  have e := keyOf_kV hk
  subst e
  exact d_notIn hu I (.inl ⟨kvs, k, hp, rfl, rfl⟩) ry fun s3 I3 => ⟨.bl (!(valV kvs k).isSome), H, I3, rfl, q⟩
theorem ix_dictM (hu : X.A.units + 1 < cLine) : IxR X rDGetM := by
  intro value slice pins s σ H x y v u Q I rx ry h hs
  obtain ⟨a, rfl, k, hk, h⟩ := h
  obtain ⟨kvs, hp, z, hz, q⟩ := dcRd_get h
  obtain rfl : v = Value.ref a := rx
  have e := keyOf_kV hk
  subst e
  have g : DGet H a (kV k) (some z) := by
    rw [← hz]
    exact .inl ⟨kvs, k, hp, rfl, rfl⟩
  exact tail_any (dict_typeIs I g) PySem.F.slot_dict_getitem.lookup (d_getItem hu I g ry fun w' s3 I3 rw' => ⟨z, H, I3, rw', q⟩) hs
theorem set_dictM (hu : X.A.units + 1 < cLine) : PSet X rDSetM := by
  intro pins s σ H o i v ov iv u Q I ro ri rv h
  obtain ⟨a, rfl, k, hk, h⟩ := h
  obtain ⟨kvs, hp, hl, q⟩ := dcAt_get h
  obtain rfl : ov = Value.ref a := ro
  have e := keyOf_kV hk
  subst e
  exact d_setItem hu I (.k hp hl) ri rv fun s4 I4 => ⟨_, I4, q⟩
theorem call_lenDM : CallR X (.builtin "len") rDLenM := by
  intro pins s σ H xs us Q I r h
  obtain ⟨a, e, h⟩ := h
  obtain ⟨kvs, hp, q⟩ := dcAt_get h
  exact call_lenD pins s σ H xs us Q I r ⟨a, kvs, e, hp, q⟩
end
/-! ### own errors with fields -/
/-- what the written part says of an own error class at C, its __init__ at fI -/
structure ExF (K : PySem.W.Frag) (C fI : Addr) : Prop where
  o : OexC K C
  x : XfC K C
  ic : PySem.W.findIn K (.ref C) "__init__" = some (some (.ref fI))
  ti : PySem.W.typeIn K (.ref fI) = some (.type "function")
  ha : PySem.W.findIn K (.ref C) "__class__" = some (some (.builtin "object.__class__"))
  hn : PySem.W.specialIn K (.builtin "object.__class__") "__get__" = some (some (.builtin "getset_descriptor.__get__"))
  ht : PySem.W.takesIn K (.builtin "object.__class__") = some true
  hm : PySem.W.mroIn K C (.type "object") = some true
/-- __init__ of an error with one field, with two -/
def sp_ex1 (C : Addr) (f : Str) : Sp := fun vs H Q _ => ∃ (a : Addr) (v : V), vs = [.ref a, v] ∧ H a = some (exo a C none) ∧ ∀ dx, H dx = none → dx ≠ a → Q .non (upd (upd H dx (exd dx [(f, v)])) a (exo a C (some dx)))
def sp_ex2 (C : Addr) (f g : Str) : Sp := fun vs H Q _ => ∃ (a : Addr) (v w : V), vs = [.ref a, v, w] ∧ H a = some (exo a C none) ∧
  ∀ dx, H dx = none → dx ≠ a → Q .non (upd (upd (upd H dx (exd dx [(f, v)])) a (exo a C (some dx))) dx (exd dx [(g, w), (f, v)]))
/-- raise C(e), raise C(e, e2) -/
def tRz1 (C : Addr) (f : Str) (W : WX) (ta : TA) : TS := fun _ σ H => ta σ H fun vs H1 => ∃ v, vs = [v] ∧ ∀ d, H1 d = none → W (.ref C) (some d) σ (upd H1 d (.xd [(f, v)]))
def tRz2 (C : Addr) (f g : Str) (W : WX) (ta : TA) : TS := fun _ σ H => ta σ H fun vs H1 => ∃ v w, vs = [v, w] ∧ ∀ d, H1 d = none → W (.ref C) (some d) σ (upd H1 d (.xd [(g, w), (f, v)]))
theorem del_upd_upd {H : Hp} {a dx : Addr} {o1 o2 : HO} {o3 : HO} {o0 : HO} (ha : H a = none) (ne : dx ≠ a) : upd (del (upd (upd (upd H a o0) dx o1) a o2) a) dx o3 = upd H dx o3 := by
  funext b
  by_cases hb : b = dx
  · subst hb
    rw [upd_same, upd_same]
  · rw [upd_ne hb, upd_ne hb]
    by_cases hba : b = a
    · subst hba
      rw [del_same, ha]
    · rw [del_ne hba, upd_ne hba, upd_ne hb, upd_ne hba]
theorem del_upd_upd2 {H : Hp} {a dx : Addr} {o0 o1 o2 o3 o4 : HO} (ha : H a = none) (ne : dx ≠ a) : upd (del (upd (upd (upd (upd H a o0) dx o1) a o2) dx o3) a) dx o4 = upd H dx o4 := by
  funext b
  by_cases hb : b = dx
  · subst hb
    rw [upd_same, upd_same]
  · rw [upd_ne hb, upd_ne hb]
    by_cases hba : b = a
    · subst hba
      rw [del_same, ha]
    · rw [del_ne hba, upd_ne hb, upd_ne hba, upd_ne hb, upd_ne hba]
theorem pa_at {X : Cx} {es : List Expr} {ta : TA} {σ0 : L2.St} {H0 : Hp} {R : List V → Hp → Prop} (ha : PA X es ta) (h0 : ta σ0 H0 R) : PA X es (fun σ H Q => σ = σ0 ∧ H = H0 ∧ ∀ vs H1, R vs H1 → Q vs H1) := by
  refine ⟨fun pos pins s σ H Q I h => ?_⟩
  obtain ⟨e1, e2, hk⟩ := h
  subst e1 e2
  exact thn (ha.run pos pins s σ H _ I h0) fun us s1 ⟨vs, H1, I1, r, q⟩ => ⟨vs, H1, I1, r, hk vs H1 q⟩
section
variable {X : Cx} {C fI : Addr} {k : Nat} {fd : FuncData} {x f g : Str} {W : WX} {ta : TA} {e : Expr} {es : List Expr} {p pos pos2 : Pos}
/-- C(e, ..) where nothing is handled: the error that comes has no context -/
theorem pmkN {CX0' : CXT} {ps : List Str} {sp : Sp} (T : ExF X.K C fI) (F1 : FnOk X.prog X.w X.K X.mg X.base CX0' k fI fd ps sp) (hr : Room (k + 1) X.A) (hb : Binds X.K fd ps []) (hx : Passes CX0' X (fun _ _ _ => False)) (hg : Gl X x) (hm : X.mg x = some (.ref C)) (ha : PA X (e :: es) ta)
    (hdb : (x == ("__debug__" : Str)) = false) (he : starEach (e :: es) X.env = (false, eval e X.env) :: starEach es X.env) (hpl : (backTo pos (starEach es X.env)).any (·.1) = false) :
    L2N.PMk X (.Call (.Name x p) (e :: es) [] pos) (tMkO C sp [] ta) := by
  intro pn0 st sg Hh Qq J hh
  obtain ⟨_, _, _, _, lb, _, _, _, _, _, _, _, _, _, _, hCl, hRef⟩ := T.o.cls
  refine wpAny_Call_Name_kw (ld_glob J hg hm ?_ hdb)
  refine PySem.W.callWith_K (h₀ := X.base) J.ok.mod.kin T.o.kC (thn (ha.run pos pn0 st sg Hh _ J hh) fun us st1 hx1 => ?_) he hpl
  obtain ⟨vs, G1, J1, rl, hz, hq0⟩ := hx1
  refine ⟨J1.kIn, ?_⟩
  show wpAny _ _ (call (.ref C) us) _ _ _
  obtain ⟨hp, gs, dr, tks, osx⟩ := st1
  have two : ∀ b o, hp.get? b = some o → ((hp.push (PySem.W.kdv_tup us)).push (PySem.HandSPX.excO C hp.objs.size)).get? b = some o := fun b o q => Heap.get?_push_of_some _ (Heap.get?_push_of_some _ q)
  have here : ((hp.push (PySem.W.kdv_tup us)).push (PySem.HandSPX.excO C hp.objs.size)).get? (hp.objs.size + 1) = some (PySem.HandSPX.excO C hp.objs.size) := by heap_get
  generalize hN : hp.objs.size + 1 = n at here
  have big : hp.objs.size ≤ n := by omega
  have hq := hq0 n (J1.hok.fresh big)
  rw [List.append_nil] at hq
  have J2 := J1.laid (t' := tks) (a := n) (o := exo n C none) two big (exo_ok here)
  have rl2 : Vals (V.ref n :: vs) (Value.ref n :: us) := .cons rfl rl
  have len2 : (Value.ref n :: us ++ []).length = ps.length := by
    rw [List.append_nil, ← rl2.length]
    exact F1.len _ _ _ _ hq
  have few : us.length ≤ sizeLine := by
    have := Paired.length rl
    rw [sizeLine_eq]
    omega
  have bnd := hb _ (Value.ref n :: us) J2.kIn len2
  rw [List.append_nil] at bnd
  have run := F1.run _ X.stack _ _ ⟨Value.ref n :: us, []⟩ (Value.ref n :: us) _ _ (fun _ _ _ => False) (hr.make C us []) (J2.env0.make C us []) bnd rl2 hq
  subst hN
  refine wpAny_call (PySem.HandSPX.call_own F.excBase_ValueError (fun Y => PySem.HandSPX.refsVE_contains Y lb hRef) (J1.kIn _ _ hCl) (PySem.W.looks_findIn J1.kIn T.ic) (fun me => PySem.W.bind_fn J1.kIn me T.ti) few (codeAny_mono run fun res st2 hres => ?_))
  cases res with
  | error er => exact hx pn0 sg _ _ er st2 J2 hres
  | ok fl =>
    cases fl with
    | next => exact hres.elim
    | brk => exact hres.elim
    | cont => exact hres.elim
    | ret u =>
      obtain ⟨v, G2, o2, b2, u2, k2, rv, ev, d, fs, ea, ed, hd1, q2⟩ := hres
      subst ev
      obtain ⟨hp2, gs2, dr2, tk2, os2⟩ := st2
      obtain ⟨t0, G, J3, kG, ge, hoe, na⟩ := mk_end0 (d2 := dr2) (t2 := tk2) J1 big two u2 k2 o2 b2 ea ed hd1
      exact ⟨rv, _, _, _, ⟨G, gs2, dr2, tk2, os2⟩, _, .ref C, some d, rfl, J3, kG, ge, hoe, ⟨rfl, rfl, fun ws hw => by cases hw; rfl⟩, rfl, rfl, na, rfl, b2, raises_own T.o.exC T.o.tyC, q2⟩
theorem ps_rz1 {ps : List Str} (hc : X.calm = true) (T : ExF X.K C fI) (F : FnOk X.prog X.w X.K X.mg X.base CX0 k fI fd ps (sp_ex1 C f)) (hr : Room (k + 1) X.A) (hb : Binds X.K fd ps []) (tk : L2N.Takes X W) (hg : Gl X x) (hm : X.mg x = some (.ref C)) (ha : PA X (e :: es) ta)
    (hdb : (x == ("__debug__" : Str)) = false := by decide) (he : starEach (e :: es) X.env = (false, eval e X.env) :: starEach es X.env := by rfl) (hpl : (backTo pos (starEach es X.env)).any (·.1) = false := by rfl) :
    PS X (.Raise (some (.Call (.Name x p) (e :: es) [] pos)) none pos2) (tRz1 C f W ta) := by
  refine ⟨fun pins s σ H D I h => ?_⟩
  have key := L2N.ps_raise (pos := pos2) hc tk (pmkN (p := p) T F hr hb pass0 hg hm (pa_at ha h) hdb he hpl)
  refine key.run pins s σ H D I ⟨rfl, rfl, fun vs H1 hk => ?_⟩
  obtain ⟨v, rfl, hw⟩ := hk
  refine ⟨by show 1 ≤ 1000; decide, fun a ha2 => ⟨a, v, rfl, upd_same, fun dx hdx ne => ⟨rfl, dx, [(f, v)], upd_same, ?_, ?_, ?_⟩⟩⟩
  · rw [upd_ne ne, upd_same]
  · rw [upd_ne ne] at hdx
    exact hdx
  · rw [upd_ne ne] at hdx
    rw [del_upd_upd ha2 ne]
    exact hw dx hdx
theorem ps_rz2 {ps : List Str} (hc : X.calm = true) (T : ExF X.K C fI) (F : FnOk X.prog X.w X.K X.mg X.base CX0 k fI fd ps (sp_ex2 C f g)) (hr : Room (k + 1) X.A) (hb : Binds X.K fd ps []) (tk : L2N.Takes X W) (hg : Gl X x) (hm : X.mg x = some (.ref C)) (ha : PA X (e :: es) ta)
    (hdb : (x == ("__debug__" : Str)) = false := by decide) (he : starEach (e :: es) X.env = (false, eval e X.env) :: starEach es X.env := by rfl) (hpl : (backTo pos (starEach es X.env)).any (·.1) = false := by rfl) :
    PS X (.Raise (some (.Call (.Name x p) (e :: es) [] pos)) none pos2) (tRz2 C f g W ta) := by
  refine ⟨fun pins s σ H D I h => ?_⟩
  have key := L2N.ps_raise (pos := pos2) hc tk (pmkN (p := p) T F hr hb pass0 hg hm (pa_at ha h) hdb he hpl)
  refine key.run pins s σ H D I ⟨rfl, rfl, fun vs H1 hk => ?_⟩
  obtain ⟨v, w, rfl, hw⟩ := hk
  refine ⟨by show 2 ≤ 1000; decide, fun a ha2 => ⟨a, v, w, rfl, upd_same, fun dx hdx ne => ⟨rfl, dx, [(g, w), (f, v)], ?_, upd_same, ?_, ?_⟩⟩⟩
  · rw [upd_ne (Ne.symm ne), upd_same]
  · rw [upd_ne ne] at hdx
    exact hdx
  · rw [upd_ne ne] at hdx
    rw [del_upd_upd2 ha2 ne]
    exact hw dx hdx
end
/-! ### an error that an except suite holds: isinstance, fields -/
def rIsX (K : PySem.W.Frag) (a : Addr) (cls : Value) (d : Option Addr) : List V → Hp → VK → Prop := fun xs H Q => ∃ (c : V) (cv : Value) (C fI dd : Addr) (fs : List (Str × V)) (b : Bool),
  xs = [.ref a, c] ∧ ClsV c cv ∧ cls = .ref C ∧ d = some dd ∧ H dd = some (.xd fs) ∧ ExF K C fI ∧ PySem.W.kitOne K (.ref C) cv = some b ∧ Q (.bl b) H
theorem call_isX {X : Cx} {a : Addr} {oe : Obj} {cls : Value} {d : Option Addr} (hp : (a, oe) ∈ X.pn) (hz : Zc cls d oe) (hf : ∃ vs, oe.data = .fields vs) : CallR X (.builtin "isinstance") (rIsX X.K a cls d) := by
  intro pins s σ H xs us Q I r h
  obtain ⟨c, cv, C, fI, dd, fs, b, rfl, hcv, rfl, rfl, hdd, T, hk, q⟩ := h
  obtain ⟨u1, u2, rfl, r1, r2⟩ := vals2 r
  have e2 := hcv.eq r2
  subst e2
  cases (show u1 = Value.ref a from r1)
  obtain ⟨hget, _⟩ := I.pin (a, oe) (List.mem_append_left _ hp)
  obtain ⟨vs, hv⟩ := hf
  obtain ⟨mA, hns, _⟩ := (show ObjOk X.prog X.w H s.heap dd (.xd fs) from I.hok dd _ hdd)
  obtain ⟨od, ho, _⟩ := lookIn_ns hns
  have J : PySem.W.InstAt s.heap a oe C (some od) := ⟨hget, hz.1, by unfold PySem.W.notCls; rw [hv] <;> rfl, by rw [hz.2]; exact ho⟩
  have hcl : (PySem.W.clsIn X.K C).isSome = true := by
    obtain ⟨nm, q, N, bs, bm, sn, sub, ab, col, dD, k0, k1, k2, k3, k5, hC, _⟩ := T.o.cls
    unfold PySem.W.clsIn
    rw [hC] <;> rfl
  exact PySem.W.kia_one (PySem.W.kitx_exc hcl T.x.ga T.x.gg T.x.exC T.ha T.hn T.ht T.hm) I.kIn J hk (fun z => nomatch z) fun tk => ⟨.bl b, H, I.kept (t' := tk) fun _ _ z => z, rfl, q⟩
/-- e.f, e the error at a -/
def tFx (a : Addr) (cls : Value) (d : Option Addr) (f : Str) (K : PySem.W.Frag) (te : TE) : TE := fun σ H Q => te σ H fun x H1 => x = .ref a ∧ ∃ (C fI dd : Addr) (fs : List (Str × V)) (v : V), cls = .ref C ∧ ExF K C fI ∧ PySem.W.findIn K (.ref C) f = some none ∧ d = some dd ∧ H1 dd = some (.xd fs) ∧ fs.lookup f = some v ∧ Q v H1
theorem pe_fx {X : Cx} {a : Addr} {oe : Obj} {cls : Value} {d : Option Addr} {e : Expr} {te : TE} {pos : Pos} {n : Str} (hp : (a, oe) ∈ X.pn) (hz : Zc cls d oe) (hf : ∃ vs, oe.data = .fields vs) (he : PE X e te)
    (hb : attributeBase e n X.env (eval e X.env) = eval e X.env := by rfl) : PE X (.Attribute e n pos) (tFx a cls d n X.K te) := by
  refine ⟨fun pins s σ H Q I h => ?_⟩
  refine attr_of hb (thn (he.run pins s σ H _ I h) fun u s1 hh => ?_)
  obtain ⟨x, H1, I1, rx, ex, C, fI, dd, fs, v, rfl, T, hno, rfl, ea, l, q⟩ := hh
  subst ex
  obtain rfl : u = Value.ref a := rx
  obtain ⟨hget, _⟩ := I1.pin (a, oe) (List.mem_append_left _ hp)
  obtain ⟨vs, hv⟩ := hf
  obtain ⟨mA, hns, hr⟩ := (show ObjOk X.prog X.w H1 s1.heap dd (.xd fs) from I1.hok dd _ ea)
  obtain ⟨od, ho, hl⟩ := lookIn_ns hns
  obtain ⟨w1, hw1, rw1⟩ := RelO.some_of (v := v) (o := mA n) (by rw [← l]; exact hr n)
  have J : PySem.W.InstAt s1.heap a oe C (some od) := ⟨hget, hz.1, by unfold PySem.W.notCls; rw [hv] <;> rfl, by rw [hz.2]; exact ho⟩
  exact HandSPX.exc_get I1.kIn J T.x.ga T.x.gg T.x.exC (PySem.W.findObj_own T.x.hdC hno rfl (by rw [hl, hw1])) (handed_of rw1) ⟨v, H1, I1.tok _, rw1, q⟩
/-- o.m(e, ..) that may raise, within a try -/
def tMethE (C : Addr) (m : Str) (sp : Sp) (E : L2.St → XK) (ta : TE) (t : TA) : TE := fun σ H Q => ta σ H fun x H1 => ∃ a dx fs, x = .ref a ∧ H1 a = some (.ins C dx fs) ∧ fs.lookup m = none ∧ t σ H1 fun vs H2 => sp (x :: vs) H2 Q (E σ)
theorem pe_methE {X : Cx} {CX : CXT} {k : Nat} {C f : Addr} {fd : FuncData} {ps : List Str} {m : Str} {sp : Sp} {E : L2.St → XK} {o e : Expr} {es : List Expr} {ta : TE} {t : TA} {apos pos : Pos} {pl : Sem Bool} (he : PE X o ta) (c : Cls X.K C) (hm : Meth X.K C m f)
    (F : FnOk X.prog X.w X.K X.mg X.base CX k f fd ps sp) (hr : Room k X.A) (hb : Binds X.K fd ps []) (hx : ∀ σ, PassesAt CX X σ (E σ)) (ha : PA X (e :: es) t)
    (hst : starEach (e :: es) X.env = (false, eval e X.env) :: starEach es X.env := by rfl) (hpl : (backTo pos (starEach es X.env)).any (·.1) = false := by rfl)
    (ht : eval (.Call (.Attribute o m apos) (e :: es) [] pos) X.env = (do
      let ov ← eval o X.env
      standAt apos.atName
      let (f, first) ← holding [ov] (getMethod ov m pl)
      callWith pos f first (backTo pos (starEach (e :: es) X.env)) (backToKw pos (keywordEach [] X.env))) := by rfl) :
    PE X (.Call (.Attribute o m apos) (e :: es) [] pos) (tMethE C m sp E ta t) := by
  refine ⟨fun pins s σ H Q I h => ?_⟩
  refine PySem.W.methodCall_KW (pl := pl) (thn (he.run pins s σ H _ I h) fun u1 s1 hh => ?_) ht
  obtain ⟨x, H1, I1, rx, a, dx, fs, ex, ea, l, q⟩ := hh
  subst ex
  obtain rfl : u1 = Value.ref a := rx
  refine getmeth_ok I1 ea c hm l ?_
  refine PySem.W.callWith_K (first := [.ref a]) (h₀ := X.base) I.ok.mod.kin hm.kp (thn (ha.run pos pins s1 σ H1 _ I1 q) fun us s2 hh2 => ?_) hst hpl
  obtain ⟨vs, H2, I2, r, q2⟩ := hh2
  exact ⟨I2.kIn, run_fnS (us := .ref a :: us) (vs := .ref a :: vs) F hr hb (hx σ) I2 (.cons rfl r) q2⟩
/-- a def that may raise -/
theorem okN {P : Program} {w : World} {K : PySem.W.Frag} {mg : Str → Option Value} {base : Heap} {CXx : CXT} {x qual : Str} {st : Stmt} {f : Addr} {fd : FuncData} {N ps : List Str} {k : Nat} {sp : Sp} (F : Fun K x qual st f fd) (S : FnScope N ps (defScope st)) (len : ∀ vs H Q E, sp vs H Q E → vs.length = ps.length)
    (body : ∀ (cdv : Value) (A : Around) (outer : List Env) (s : Shared) (H : Hp) (vs : List V) (Q : VK) (E : XK), Room k (A.deeper (envOfC qual (defScope st) s.heap.objs.size f cdv)) → sp vs H Q E →
      ∃ t, PSs (cxOf CXx P w K mg base N qual (defScope st) f cdv A outer s H E) (defBody st) t ∧ t { nx := fun _ H' => Q .non H', rt := Q } (L2.start N vs) H) : FnOk P w K mg base CXx (k + 1) f fd ps sp := by
  obtain ⟨_, _, _, _, _, _, cdv, _, _, rfl, lk, hcd⟩ := F.ex
  exact fn_of lk hcd S len (body cdv)
/-- a def as it is called where an error is handled -/
theorem okH {P : Program} {w : World} {K : PySem.W.Frag} {mg : Str → Option Value} {base : Heap} {CXx : CXT} {x qual : Str} {st : Stmt} {f : Addr} {fd : FuncData} {N ps : List Str} {k : Nat} {sp : Sp} (F : Fun K x qual st f fd) (S : FnScope N ps (defScope st)) (len : ∀ vs H Q E, sp vs H Q E → vs.length = ps.length)
    (body : ∀ (cdv : Value) (A : Around) (outer : List Env) (s : Shared) (H : Hp) (vs : List V) (Q : VK) (E : XK) (p : Addr × Obj), L2H.Hot1 A p → L2H.RoomH k (A.deeper (envOfC qual (defScope st) s.heap.objs.size f cdv)) → sp vs H Q E →
      ∃ t, PSs (L2H.cxH CXx P w K mg base N qual (defScope st) f cdv A outer s H E p) (defBody st) t ∧ t { nx := fun _ H' => Q .non H', rt := Q } (L2.start N vs) H) : L2H.FnH P w K mg base CXx (k + 1) f fd ps sp := by
  obtain ⟨_, _, _, _, _, _, cdv, _, _, rfl, lk, hcd⟩ := F.ex
  exact L2H.fn_ofH lk hcd S len (body cdv)
theorem takesN {X : Cx} : L2N.Takes X (fun _ _ _ _ => False) := fun _ _ x => by
  obtain ⟨_, _, _, _, _, _, _, _, _, _, _, _, _, _, _, _, z⟩ := x
  exact z.elim
theorem passAt0 {X : Cx} {σ : L2.St} : PassesAt CX0 X σ E0 := fun _ _ _ _ _ _ h => h.elim
theorem hotC_suite {X : Cx} {a : Addr} {oe : Obj} {cls : Value} {d : Option Addr} {pn : List (Addr × Obj)} (hz : L2N.Zn cls d oe) (hf : ∃ vs, oe.data = .fields vs) : L2H.HotC (X.suite a ((a, oe) :: pn)) := by
  obtain ⟨vs, hv⟩ := hf
  exact ⟨(a, oe), ⟨rfl, vs, hv, hz.2.2 vs hv⟩, List.mem_cons_self ..⟩
theorem roomH_suite {k : Nat} {A : Around} {h : Option Value} (r : Room k A) : L2H.RoomH k (A.mark h) := ⟨r.dp, r.un⟩
theorem tt_true {a : Prop} (h : a) : (a = True) := propext ⟨fun _ => trivial, fun _ => h⟩
/-! ### x is True, of a plain value -/
def plainV : V → Bool
  | .bl _ => true
  | .int _ => true
  | .non => true
  | .str _ => true
  | _ => false
def rIsBM (neg : Bool) : R2 := fun x y H Q => ∃ b, y = .bl b ∧ plainV x = true ∧ Q (.bl (if neg then !decide (x = .bl b) else decide (x = .bl b))) H
theorem plainV_b {b : Bool} : plainV (.bl b) = true := rfl
theorem plainV_i {i : Int} : plainV (.int i) = true := rfl
theorem plainV_n : plainV .non = true := rfl
theorem plainV_s {x : Str} : plainV (.str x) = true := rfl
section
variable {X : Cx}
theorem op_isBM : OpR X (compareOp .Is) (rIsBM false) := by
  intro pins s σ H x y v u Q I rx ry h
  obtain ⟨b, rfl, hx, q⟩ := h
  cases (show u = Value.bool b from ry)
  by_cases e : x = .bl b
  · subst e
    cases (show v = Value.bool b from rx)
    exact wpAny_is_self rfl ⟨.bl true, H, I, rfl, by simpa using q⟩
  · have ne : v ≠ Value.bool b := fun z => by
      subst z
      cases x with
      | bl a => exact e (by rw [Value.bool.inj (show Value.bool b = Value.bool a from rx)])
      | int i =>
        obtain ⟨t, z⟩ := rx
        cases z
      | str i =>
        obtain ⟨t, z⟩ := rx
        cases z
      | non => cases (show Value.bool b = Value.none from rx)
      | byt k => cases hx
      | flt k => cases hx
      | ref k => cases hx
      | ty k => cases hx
    have pl : PySem.plainIs v (Value.bool b) = true := by
      cases x with
      | bl a =>
        cases (show v = Value.bool a from rx)
        rfl
      | int i =>
        obtain ⟨t, rfl⟩ := rx
        rfl
      | str i =>
        obtain ⟨t, rfl⟩ := rx
        rfl
      | non =>
        cases (show v = Value.none from rx)
        rfl
      | byt k => cases hx
      | flt k => cases hx
      | ref k => cases hx
      | ty k => cases hx
    exact wpAny_is_other pl ne ⟨.bl false, H, I, rfl, by simpa [e] using q⟩
end
/-! ### in, methods, slices of a tracked list -/
def rInM (neg : Bool) : R2 := fun x y H Q => ∃ p, y = .ref p ∧ lstAt H p fun xs => flatV x = true ∧ xs.all flatV = true ∧ Q (.bl (if neg then !inV x xs else inV x xs)) H
def tBMM (r : V → List V → Hp → VK → Prop) (to : TE) (t : TA) : TE := fun σ H Q => to σ H fun x H1 => ∃ p, x = .ref p ∧ lstAt H1 p fun _ => t σ H1 fun xs H2 => r x xs H2 Q
def tBM0M (r : V → List V → Hp → VK → Prop) (to : TE) : TE := fun σ H Q => to σ H fun x H1 => ∃ p, x = .ref p ∧ lstAt H1 p fun _ => r x [] H1 Q
def rSlM : V → Option Int → Option Int → Hp → VK → Prop := fun x lo hi H Q => ∃ p, x = .ref p ∧ lstAt H p fun xs => ∀ l, H l = none → Q (.ref l) (upd H l (.lst (cutV xs lo hi)))
theorem pe_at {X : Cx} {e : Expr} {te : TE} {σ0 : L2.St} {H0 : Hp} {R : V → Hp → Prop} (ha : PE X e te) (h0 : te σ0 H0 R) : PE X e (fun σ H Q => σ = σ0 ∧ H = H0 ∧ ∀ v H1, R v H1 → Q v H1) := by
  refine ⟨fun pins s σ H Q I h => ?_⟩
  obtain ⟨e1, e2, hk⟩ := h
  subst e1 e2
  exact thn (ha.run pins s σ H _ I h0) fun u s1 ⟨v, H1, I1, r, q⟩ => ⟨v, H1, I1, r, hk v H1 q⟩
section
variable {X : Cx}
theorem op_inM : OpR X (compareOp .In) (rInM false) := by
  intro pins s σ H x y v u Q I rx ry h
  obtain ⟨p, e, h⟩ := h
  obtain ⟨xs, hp, h1, h2, q⟩ := lstAt_get h
  exact op_in_seq pins s σ H x y v u Q I rx ry ⟨p, xs, e, .inl (.inl (.inl hp)), h1, h2, q⟩
theorem op_notInM : OpR X (compareOp .NotIn) (rInM true) := by
  intro pins s σ H x y v u Q I rx ry h
  obtain ⟨p, e, h⟩ := h
  obtain ⟨xs, hp, h1, h2, q⟩ := lstAt_get h
  exact op_notIn_seq pins s σ H x y v u Q I rx ry ⟨p, xs, e, .inl (.inl (.inl hp)), h1, h2, q⟩
theorem sl_listM : SlR X rSlM := by
  intro pins s σ H x v vl vu lo hi sl Q I rx hs pl pu h
  obtain ⟨p, e, h⟩ := h
  obtain ⟨xs, hp, q⟩ := lstAt_get h
  exact sl_list pins s σ H x v vl vu lo hi sl Q I rx hs pl pu ⟨p, xs, e, .inl (.inl hp), q⟩
theorem pe_bmM {name : Str} {id : String} {r : V → List V → Hp → VK → Prop} {o e : Expr} {es : List Expr} {to : TE} {t : TA} {apos cpos : Pos} (slot : Slot "list" name id) (hty : typeOf (.builtin id) = pure (.type "method_descriptor")) (hm : MtR X id r) (ho : PE X o to) (ha : PA X (e :: es) t)
    (hbase : attributeBase o name X.env (eval o X.env) = eval o X.env := by rfl)
    (hfew : ((backTo cpos (starEach (e :: es) X.env)).all (fun x => !x.1) && (backToKw cpos (keywordEach [] X.env)).all (fun x => x.1.isSome)
      && decide ((e :: es).length + ([] : List Keyword).length + (if ([] : List Keyword).isEmpty then 0 else 1) < 30)) = true := by rfl)
    (hline : (apos.endLine == cpos.line) = true := by rfl) (hs : starEach (e :: es) X.env = (false, eval e X.env) :: starEach es X.env := by rfl) (hplain : (backTo cpos (starEach es X.env)).any (·.1) = false := by rfl) :
    PE X (.Call (.Attribute o name apos) (e :: es) [] cpos) (tBMM r to t) := by
  refine ⟨fun pins s σ H Q I h => ?_⟩
  refine (pe_bm PySem.F.plainAttrs_list slot hty hm (pe_at ho h) ha hbase hfew hline hs hplain).run pins s σ H Q I ⟨rfl, rfl, fun v H1 hv => ?_⟩
  obtain ⟨p, rfl, hv⟩ := hv
  obtain ⟨xs, hp, q⟩ := lstAt_get hv
  exact ⟨.inl ⟨rfl, xs, .inl (.inl hp)⟩, q⟩
theorem pe_bm0M {name : Str} {id : String} {r : V → List V → Hp → VK → Prop} {o : Expr} {to : TE} {apos cpos : Pos} (slot : Slot "list" name id) (hty : typeOf (.builtin id) = pure (.type "method_descriptor")) (hm : MtR X id r) (ho : PE X o to)
    (hbase : attributeBase o name X.env (eval o X.env) = eval o X.env := by rfl) (hline : (apos.endLine == cpos.line) = true := by rfl) : PE X (.Call (.Attribute o name apos) [] [] cpos) (tBM0M r to) := by
  refine ⟨fun pins s σ H Q I h => ?_⟩
  refine (pe_bm0 PySem.F.plainAttrs_list slot hty hm (pe_at ho h) hbase hline).run pins s σ H Q I ⟨rfl, rfl, fun v H1 hv => ?_⟩
  obtain ⟨p, rfl, hv⟩ := hv
  obtain ⟨xs, hp, q⟩ := lstAt_get hv
  exact ⟨.inl ⟨rfl, xs, .inl (.inl hp)⟩, q⟩
end
theorem lkc {a k : Str} {b : V} {es : List (Str × V)} : List.lookup a ((k, b) :: es) = if a = k then some b else List.lookup a es := by
  by_cases h : a = k
  · subst h
    simp [List.lookup]
  · have e : (a == k) = false := by simpa using h
    rw [if_neg h]
    simp [List.lookup, e]
theorem lkn {a : Str} : List.lookup a ([] : List (Str × V)) = none := rfl
theorem pfn {f : Str} {v : V} : putF f v [] = [(f, v)] := rfl
theorem pfc {f g : Str} {v x : V} {r : List (Str × V)} : putF f v ((g, x) :: r) = if g = f then (g, v) :: r else (g, x) :: putF f v r := rfl
theorem cxH_K {CX : CXT} {P : Program} {w : World} {K : PySem.W.Frag} {mg : Str → Option Value} {base : Heap} {N : List Str} {qual : Str} {scope : Scope} {f : Addr} {cd : Value} {A : Around} {outer : List Env} {s : Shared} {H : Hp} {E : XK} {p : Addr × Obj} : (L2H.cxH CX P w K mg base N qual scope f cd A outer s H E p).K = K := rfl
theorem clsV_ref {C : Addr} {u : Value} : ClsV (.ref C) u = (Value.ref C = u) := by
  apply propext
  constructor
  · intro h
    cases h
    rfl
  · intro h
    subst h
    exact .own C
theorem clsV_ty {n : String} {u : Value} : ClsV (.ty n) u = (Value.type n = u) := by
  apply propext
  constructor
  · intro h
    cases h
    rfl
  · intro h
    subst h
    exact .ty n

/-! ### a def that is handed the error that is handled: its promise speaks of the pinned object -/
structure FnE (P : Program) (w : World) (K : PySem.W.Frag) (mg : Str → Option Value) (base : Heap) (CXx : CXT) (k : Nat) (f : Addr) (fd : FuncData) (ps : List Str) (sp : Addr × Obj → Sp) : Prop where
  len : ∀ p vs H Q E, sp p vs H Q E → vs.length = ps.length
  run : ∀ (p : Addr × Obj) (A : Around) (outer : List Env) (s : Shared) (H : Hp) (args : Args) (us : List Value) (vs : List V) (Q : VK) (E : XK), L2H.RoomH k A → L2H.Hot1 A p → L2H.PinOk outer H s p → Env0 P w K mg base A outer s H → BindsTo s fd args (ps.zip us) →
    Vals vs us → sp p vs H Q E → codeAny (model P w) A (.call (.ref f) args) (CR CXx outer P w H s Q E) s
theorem okE {P : Program} {w : World} {K : PySem.W.Frag} {mg : Str → Option Value} {base : Heap} {CXx : CXT} {x qual : Str} {st : Stmt} {f : Addr} {fd : FuncData} {N ps : List Str} {k : Nat} {sp : Addr × Obj → Sp} (F : Fun K x qual st f fd) (S : FnScope N ps (defScope st))
    (len : ∀ p vs H Q E, sp p vs H Q E → vs.length = ps.length)
    (body : ∀ (p : Addr × Obj) (cdv : Value) (A : Around) (outer : List Env) (s : Shared) (H : Hp) (vs : List V) (Q : VK) (E : XK), L2H.Hot1 A p → L2H.RoomH k (A.deeper (envOfC qual (defScope st) s.heap.objs.size f cdv)) → sp p vs H Q E →
      ∃ t, PSs (L2H.cxH CXx P w K mg base N qual (defScope st) f cdv A outer s H E p) (defBody st) t ∧ t { nx := fun _ H' => Q .non H', rt := Q } (L2.start N vs) H) : FnE P w K mg base CXx (k + 1) f fd ps sp := by
  obtain ⟨_, _, _, _, _, _, cdv, _, _, rfl, lk, hcd⟩ := F.ex
  refine ⟨len, fun p A outer s H args us vs Q E hr hot pin e0 bnd rv hsp => ?_⟩
  have kin : K.In s.heap := e0.mod.kin.keeps fun b o q => (e0.bs b o q).1
  have own : ∀ y ∈ ps.zip us, (defScope st).names.lookup y.1 = some .local ∨ ((defScope st).names.lookup y.1 = some .cell ∧ ((cellsFrom (s.heap.objs.size + 1) (defScope st).names []).lookup y.1).isSome = true) := by
    intro y hy
    rcases S.par y.1 (List.of_mem_zip (a := y.1) (b := y.2) hy).1 with h | h
    · exact .inl h
    · exact .inr ⟨h, PySem.W.cellsFrom_some _ _ _ (.inl h)⟩
  refine codeAny_call_function hr.depth (kin _ _ lk) rfl S.co S.gen rfl (PySem.W.codeRec_of kin hcd) (bnd _ _ _ _ (wpAny_newFunctionEnv_cells S.kind own fun env he s1 z => ?_))
  subst he
  refine ⟨(e0.mod.nolimit.keeps fun b o q => (e0.bs b o q).1).keeps z.toInCall.keep, codeAny_func ?_⟩
  obtain ⟨t, ht, hq⟩ := body p cdv A outer s H vs Q E hot (hr.deeper _) hsp
  have I := L2H.inv_startH (CX := CXx) (P := P) (w := w) (mg := mg) (base := base) (E := E) S pin e0 (len _ _ _ _ _ hsp) rv z
  refine wpAny_mono (ht.run [] s1 (L2.start N vs) H _ I hq) (fun fl s2 h2 => ?_) fun _ _ h2 => h2
  cases fl with
  | brk =>
    obtain ⟨_, _, _, h2⟩ := h2
    exact h2.elim
  | cont =>
    obtain ⟨_, _, _, h2⟩ := h2
    exact h2.elim
  | next =>
    obtain ⟨_, H2, J, q⟩ := h2
    exact ⟨V.non, H2, J.os, J.bare, J.base, J.hok, rfl, q⟩
  | ret u =>
    obtain ⟨v, _, H2, J, r, q⟩ := h2
    exact ⟨v, H2, J.os, J.bare, J.base, J.hok, r, q⟩
def tCallZ (sp : Addr × Obj → Sp) (a : Addr) (cls : Value) (d : Option Addr) (t : TA) : TE := fun σ H Q => t σ H fun vs H1 => ∀ oe, L2N.Zn cls d oe → (∃ ws, oe.data = .fields ws) → sp (a, oe) vs H1 Q E0
theorem pe_callE {X : Cx} {k : Nat} {f : Addr} {fd : FuncData} {ps : List Str} {sp : Addr × Obj → Sp} {x : Str} {q pos : Pos} {e : Expr} {es : List Expr} {t : TA} {a : Addr} {oe : Obj} {cls : Value} {d : Option Addr} (F : FnE X.prog X.w X.K X.mg X.base CX0 k f fd ps sp) (hr : L2H.RoomH k X.A) (hot : L2H.Hot1 X.A (a, oe)) (hp : (a, oe) ∈ X.pn) (hz : L2N.Zn cls d oe) (hf : ∃ ws, oe.data = .fields ws)
    (hg : Gl X x) (hm : X.mg x = some (.ref f)) (hk : PySem.W.keepIn X.K (.ref f) = true) (hb : Binds X.K fd ps []) (ha : PA X (e :: es) t) (hdb : (x == ("__debug__" : Str)) = false := by decide)
    (he : starEach (e :: es) X.env = (false, eval e X.env) :: starEach es X.env := by rfl) (hpl : (backTo pos (starEach es X.env)).any (·.1) = false := by rfl) : PE X (.Call (.Name x q) (e :: es) [] pos) (tCallZ sp a cls d t) := by
  refine ⟨fun pins s σ H Q I h => ?_⟩
  refine wpAny_Call_Name_kw (ld_glob I hg hm ?_ hdb)
  refine PySem.W.callWith_K (h₀ := X.base) I.ok.mod.kin hk (thn (ha.run pos pins s σ H _ I h) fun us s1 z => ?_) he hpl
  obtain ⟨vs, H1, I1, r, hsp0⟩ := z
  have hsp := hsp0 oe hz hf
  refine ⟨I1.kIn, ?_⟩
  have n : us.length = ps.length := r.length.symm.trans (F.len _ _ _ _ _ hsp)
  have b := hb s1 us I1.kIn (by rw [List.append_nil]; exact n)
  rw [List.append_nil] at b
  have at1 := I1.pin (a, oe) (List.mem_append_left _ hp)
  have pin : L2H.PinOk X.stack H1 s1 (a, oe) := ⟨at1.1, at1.2.1, fun hx => (List.mem_cons.mp (I1.stkSub a hx)).elim at1.2.2.1 at1.2.2.2.1, at1.2.2.2.2⟩
  refine wpAny_call (codeAny_mono (F.run (a, oe) X.A X.stack s1 H1 ⟨us, []⟩ us vs Q E0 hr hot pin I1.env0 b r hsp) fun res s2 hres => ?_)
  cases res with
  | error er => exact hres.elim
  | ok fl =>
    cases fl with
    | ret u => exact I1.after hres
    | next => exact hres.elim
    | brk => exact hres.elim
    | cont => exact hres.elim
theorem hot_suite {X : Cx} {a : Addr} {oe : Obj} {cls : Value} {d : Option Addr} {pn : List (Addr × Obj)} (hz : L2N.Zn cls d oe) (hf : ∃ vs, oe.data = .fields vs) : L2H.Hot1 (X.suite a ((a, oe) :: pn)).A (a, oe) := by
  obtain ⟨vs, hv⟩ := hf
  exact ⟨rfl, vs, hv, hz.2.2 vs hv⟩

/-! ### more small rules -/
theorem passN0 {P : Program} {w : World} {X : Cx} : Passes (L2N.CX P w) X E0 := fun _ _ _ _ _ _ _ ⟨_, _, _, _, _, _, _, _, _, _, _, _, h⟩ => h.elim
theorem isTy_si {x : Str} : isTy (.str x) "int" = some false := by
  show L2.kitB "str" "int" = some false
  decide +kernel
theorem isTy_is {i : Int} : isTy (.int i) "str" = some false := by
  show L2.kitB "int" "str" = some false
  decide +kernel
theorem isTy_sb {x : Str} : isTy (.str x) "bool" = some false := by
  show L2.kitB "str" "bool" = some false
  decide +kernel
/-- isinstance(x, list), x a tracked list -/
def rIsL : List V → Hp → VK → Prop := fun xs H Q => ∃ p, xs = [.ref p, .ty "list"] ∧ lstAt H p fun _ => Q (.bl true) H
theorem call_isL {X : Cx} : CallR X (.builtin "isinstance") rIsL := by
  intro pins s σ H xs us Q I r h
  obtain ⟨p, rfl, h⟩ := h
  obtain ⟨ys, hp, q⟩ := lstAt_get h
  exact call_isi pins s σ H _ us Q I r ⟨.ref p, .ty "list", .type "list", .type "list", true, rfl, .ty "list", .base (.lst hp), kit_ty rfl, q⟩
/-- a str times an int that is more than one -/
def rRepS : R2 := fun x y H Q => ∃ (i : Str) (n : Int), x = .str i ∧ y = .int n ∧ 1 < n ∧ n ≤ 100000 ∧ 0 < i.length ∧ i.length ≤ 10 ∧ ∀ z : Str, z.length = i.length * n.toNat → Q (.str z) H
theorem size_foldl_rep (b : Array Nat) : ∀ (n : Nat) (a : Array Nat), (List.foldl (fun x1 x2 => x1 ++ x2) a (List.replicate n b)).size = a.size + b.size * n
  | 0, a => by simp
  | n + 1, a => by
    rw [List.replicate_succ, List.foldl_cons, size_foldl_rep b n, Array.size_append, Nat.mul_succ]
    omega
theorem op_repS {X : Cx} : OpR X (binaryOp .Mult) rRepS := by
  intro pins s σ H x y v u Q I rx ry h
  obtain ⟨i, n, rfl, rfl, h1, h2, h3, h4, q⟩ := h
  obtain ⟨t, rfl⟩ := rx
  obtain ⟨t', rfl⟩ := ry
  have hl : i.length * n.toNat ≤ 1000000 := by
    have := Nat.mul_le_mul h4 (show n.toNat ≤ 100000 by omega)
    omega
  have c0 : ¬ n < 1 := by omega
  have c1 : (n == 1 || i.length == 0) = false := by
    have a1 : (n == 1) = false := by simp; omega
    have a2 : (i.length == 0) = false := by simp; omega
    rw [a1, a2] <;> rfl
  have hs : (⟨(List.replicate n.toNat i.cps).foldl (· ++ ·) #[]⟩ : Str).length = i.length * n.toNat := by
    show Array.size _ = _
    rw [size_foldl_rep]
    simp [Str.length]
  have hsl : i.length * n.toNat ≤ sizeLine := Nat.le_trans hl (by decide)
  have ns : PySem.Builtin.Str.tooLong (i.length * n.toNat) = false := decide_eq_false (by omega)
  refine PySem.P.mul_str ?_ (fun _ _ => ?_) (fun _ _ => ns) ?_
  · have a1 : ¬ n < -(2 ^ 63 : Int) := by omega
    have a2 : ¬ n ≥ 2 ^ 63 := by omega
    rw [decide_eq_false a1, decide_eq_false a2] <;> rfl
  · have a1 : (100 : Int) ≤ (2 ^ 63 - 1) / n := by
      refine Int.le_ediv_of_mul_le (by omega) ?_
      omega
    omega
  · rw [if_neg c0, if_neg (by rw [c1]; decide)]
    exact ⟨by rw [hs]; exact hsl, ⟨.str _, H, I.tok _, ⟨_, rfl⟩, q _ hs⟩⟩
/-- a loop over a list that is made for it -/
theorem for_lstN {K : PySem.W.Frag} {tl : TE} {g : TG} {tb : TS} {D : Ends} {σ : L2.St} {H : Hp} (xs : List V) (htl : ∀ R : V → Hp → Prop, (∀ p, H p = none → R (.ref p) (upd H p (.lst xs))) → tl σ H R) (Pv : Addr → Nat → L2.St → Hp → Prop)
    (hp : ∀ p, H p = none → Pv p 0 σ (upd H p (.lst xs))) (hl : ∀ p i σ' H', H p = none → Pv p i σ' H' → H' p = some (.lst xs))
    (hs : ∀ p i x σ' H', H p = none → xs[i]? = some x → Pv p i σ' H' → g x σ' H' fun σ2 H2 => tb { D with nx := Pv p (i + 1), ct := Pv p (i + 1), bk := D.nx } σ2 H2) (hd : ∀ p σ' H', H p = none → Pv p xs.length σ' H' → D.nx σ' H') : tFor (iList K tl) g tb D σ H :=
  htl _ fun p h0 => ⟨p, rfl, ⟨xs, .inl (.inl upd_same)⟩, L2.for_list (K := K) (a := p) (xs := xs) (Pv p) (hp p h0) (fun i σ' H' _ h => .inl (.inl (hl p i σ' H' h0 h))) (fun i x σ' H' hx h => hs p i x σ' H' h0 hx h) (fun σ' H' h => hd p σ' H' h0 h)⟩
theorem cutV_from {xs : List V} {c : Nat} : cutV xs (some (c : Int)) none = xs.drop c := by
  unfold cutV
  rw [HT.sIx_none, HT.sIx_nat]
  by_cases h : c ≤ xs.length
  · rw [Nat.min_eq_left h]
    exact List.take_of_length_le (by rw [List.length_drop]; exact Nat.le_refl _)
  · rw [Nat.min_eq_right (by omega), List.drop_length, List.take_nil, List.drop_eq_nil_of_le (by omega)]
theorem cutV_to {xs : List V} {c : Nat} : cutV xs none (some (c : Int)) = xs.take c := by
  unfold cutV
  rw [HT.sIx_none, HT.sIx_nat, List.drop_zero, Nat.sub_zero]
  by_cases h : c ≤ xs.length
  · rw [Nat.min_eq_left h]
  · rw [Nat.min_eq_right (by omega), List.take_length, List.take_of_length_le (by omega)]
theorem suite_mem {X : Cx} {a : Addr} {oe : Obj} {pn : List (Addr × Obj)} : (a, oe) ∈ (X.suite a ((a, oe) :: pn)).pn := List.mem_cons_self ..
theorem call_isXs {X : Cx} {a : Addr} {oe : Obj} {pn : List (Addr × Obj)} {cls : Value} {d : Option Addr} (hz : L2N.Zn cls d oe) (hf : ∃ vs, oe.data = .fields vs) : CallR (X.suite a ((a, oe) :: pn)) (.builtin "isinstance") (rIsX X.K a cls d) :=
  call_isX (X := X.suite a ((a, oe) :: pn)) suite_mem (L2N.Zn.zc hz) hf
theorem pe_fxs {X : Cx} {a : Addr} {oe : Obj} {pn : List (Addr × Obj)} {cls : Value} {d : Option Addr} {e : Expr} {te : TE} {pos : Pos} {n : Str} (hz : L2N.Zn cls d oe) (hf : ∃ vs, oe.data = .fields vs) (he : PE (X.suite a ((a, oe) :: pn)) e te)
    (hb : attributeBase e n (X.suite a ((a, oe) :: pn)).env (eval e (X.suite a ((a, oe) :: pn)).env) = eval e (X.suite a ((a, oe) :: pn)).env := by rfl) : PE (X.suite a ((a, oe) :: pn)) (.Attribute e n pos) (tFx a cls d n X.K te) :=
  pe_fx (X := X.suite a ((a, oe) :: pn)) suite_mem (L2N.Zn.zc hz) hf he hb
/-- for k in range(j), j maybe less than nothing -/
theorem for_rngT {ta : TA} {g : TG} {tb : TS} {D : Ends} {σ : L2.St} {H : Hp} (j : Int) (hta : ∀ R : List V → Hp → Prop, R [.int j] H → ta σ H R) (h0 : -(2 ^ 62) ≤ j) (h1 : j < 2 ^ 62) (Pv : Nat → L2.St → Hp → Prop) (hp : Pv 0 σ H)
    (hs : ∀ (i : Nat) σ H, (i : Int) < j → Pv i σ H → g (.int (i : Int)) σ H fun σ2 H2 => tb { D with nx := Pv (i + 1), ct := Pv (i + 1), bk := D.nx } σ2 H2) (hd : ∀ σ H, Pv j.toNat σ H → D.nx σ H) : tFor (iRng1 ta) g tb D σ H :=
  hta _ ⟨j, rfl, h0, h1, for_range (lo := 0) (n := j.toNat) Pv hp (fun i σ H hi pv => by
    rw [Int.zero_add]
    exact hs i σ H (by omega) pv) hd⟩

/-! ### heappush, heappop over lists of ints -/
section
open PySem.AutoSeq1 PySem.MeetsSeq
def vals (ps : Array (Int × Tok)) : Array Value := ps.map fun p => Value.int p.1 p.2
theorem vals_size {ps : Array (Int × Tok)} : (vals ps).size = ps.size := Array.size_map ..
theorem vals_get {ps : Array (Int × Tok)} {i : Nat} (h : i < ps.size) : (vals ps)[i]? = some (Value.int ps[i].1 ps[i].2) := by
  unfold vals
  rw [Array.getElem?_map, Array.getElem?_eq_getElem h]
  rfl
theorem plain_sift : plainId "_heapq.heapify.sift" = true := by decide +kernel
theorem entry_sift : entryFor table "_heapq.heapify.sift" = some Builtin.«_heapq.heapify.sift» := entryFor_of_fast (by kernel_rfl)
def upS (l : Addr) (r : Value) (ps qs : Array (Int × Tok)) (n : Nat) : PySem.Spec := fun _ R s => s.heap.get? l = some { cls := .type "list", dict := none, data := .seq (vals ps) n, slots := #[] } ∧
  ∀ h' n' t', h'.get? l = some { cls := .type "list", dict := none, data := .seq (vals qs) n', slots := #[] } → (∀ b u, b ≠ l → s.heap.get? b = some u → h'.get? b = some u) → h'.objs.size = s.heap.objs.size → R (.ok (.ret r)) { s with heap := h', toks := t' }
def up (ps : Array (Int × Tok)) (pos : Nat) : Array (Int × Tok) :=
  if h : 0 < pos ∧ pos < ps.size then
    if ps[pos].1 < (ps[(pos - 1) / 2]'(by omega)).1 then up ((ps.setIfInBounds ((pos - 1) / 2) ps[pos]).setIfInBounds pos (ps[(pos - 1) / 2]'(by omega))) ((pos - 1) / 2) else ps
  else ps
termination_by pos
decreasing_by omega
theorem rc_lt {prog : Program} {w : World} {A : Around} {Q : Value → Shared → Prop} {E : Value → Shared → Prop} {s : Shared} {a b : Int} {t u : Tok} (h : Q (.bool (decide (a < b))) s) : wpAny (model prog w) A (richCompare .Lt (.int a t) (.int b u)) Q E s := PySem.P.lt_int h
theorem sift_up (l : Addr) (r : Value) (pos : Nat) : ∀ (ps : Array (Int × Tok)) (n : Nat), pos < ps.size → ps.size ≤ 100001 → Meets (Builtin.«_heapq.heapify.sift» ⟨[.ref l, .bool false, .bool false, rawInt (pos : Nat), rawInt (0 : Nat), r, rawInt (-1)], []⟩) (upS l r ps (up ps pos) n) := by
  induction pos using Nat.strongRecOn with
  | ind pos ih =>
    intro ps n hps hz prog w A R s h
    obtain ⟨hp, g, d, tk, os⟩ := s
    obtain ⟨hl, h⟩ := h
    have hz2 : (vals ps).size ≤ sizeLine := by rw [vals_size, sizeLine_eq]; omega
    wp_walk using wpAny_loadPart' hl
    by_cases hpos : 0 < pos
    · rw [if_pos (show ((pos : Nat) : Int).toNat > ((0 : Nat) : Int).toNat by rw [Int.toNat_natCast, Int.toNat_natCast]; exact hpos)]
      have hpar : (pos - 1) / 2 < ps.size := by omega
      simp only [Int.toNat_natCast]
      wp_walk
      rw [vals_get hps]
      wp_walk
      rw [vals_get hpar]
      wp_walk using rc_lt, wpAny_loadPart' hl
      by_cases c : ps[pos].1 < (ps[(pos - 1) / 2]).1
      · rw [if_pos (decide_eq_true c)]
        have e : up ps pos = up ((ps.setIfInBounds ((pos - 1) / 2) ps[pos]).setIfInBounds pos ps[(pos - 1) / 2]) ((pos - 1) / 2) := by
          rw [up, dif_pos ⟨hpos, hps⟩, if_pos c]
        have hz3 : (((vals ps).setIfInBounds ((pos - 1) / 2) (Value.int ps[pos].1 ps[pos].2)).setIfInBounds pos (Value.int (ps[(pos - 1) / 2]).1 (ps[(pos - 1) / 2]).2)).size ≤ sizeLine + 1 := by
          rw [Array.size_setIfInBounds, Array.size_setIfInBounds]
          omega
        wp_walk using wpAny_loadPart' hl
        rw [vals_get hpar]
        wp_walk
        rw [vals_get hps]
        wp_walk using (wpAny_updateSeq hl rfl (hz := hz2) (_hz' := hz3))
        have ev : vals ((ps.setIfInBounds ((pos - 1) / 2) ps[pos]).setIfInBounds pos ps[(pos - 1) / 2]) = ((vals ps).setIfInBounds ((pos - 1) / 2) (Value.int ps[pos].1 ps[pos].2)).setIfInBounds pos (Value.int (ps[(pos - 1) / 2]).1 (ps[(pos - 1) / 2]).2) := by
          unfold vals
          rw [Array.map_setIfInBounds, Array.map_setIfInBounds]
        have g1 := PySem.IsL.update hl (fun xs => (xs.setIfInBounds ((pos - 1) / 2) (Value.int ps[pos].1 ps[pos].2)).setIfInBounds pos (Value.int (ps[(pos - 1) / 2]).1 (ps[(pos - 1) / 2]).2))
        rw [← ev] at g1
        rw [e] at h
        exact ⟨plainId_quiet plain_sift _, codeAny_builtin entry_sift (by
          rw [Around.under_plainId plain_sift _]
          exact ih ((pos - 1) / 2) (by omega) _ _ (by rw [Array.size_setIfInBounds, Array.size_setIfInBounds]; exact hpar) (by rw [Array.size_setIfInBounds, Array.size_setIfInBounds]; exact hz) prog w A R _
            ⟨g1, fun h' n' t' a1 a2 a3 => h h' n' t' a1 (fun b u hb hu => a2 b u hb ((Heap.get?_update_other hp _ (Ne.symm hb)).trans hu)) (a3.trans (by simp [Heap.update]))⟩)⟩
      · rw [if_neg (by rw [decide_eq_true_eq]; exact c)]
        have e : up ps pos = ps := by
          rw [up, dif_pos ⟨hpos, hps⟩, if_neg c]
        rw [e] at h
        wp_walk
        exact h hp n tk hl (fun _ _ _ z => z) rfl
    · rw [if_neg (show ¬ ((pos : Nat) : Int).toNat > ((0 : Nat) : Int).toNat by rw [Int.toNat_natCast, Int.toNat_natCast]; exact hpos)]
      have e : up ps pos = ps := by
        unfold up
        rw [dif_neg (by omega)]
      rw [e] at h
      wp_walk
      exact h hp n tk hl (fun _ _ _ z => z) rfl
/-- the key at a place -/
def key (ps : Array (Int × Tok)) (i : Nat) : Int := (ps.getD i (0, 0)).1
theorem key_get {ps : Array (Int × Tok)} {i : Nat} (h : i < ps.size) : ps[i].1 = key ps i := by
  unfold key
  rw [Array.getD_eq_getD_getElem?, Array.getElem?_eq_getElem h]
  rfl
theorem key_set {ps : Array (Int × Tok)} {j : Nat} {y : Int × Tok} (h : j < ps.size) (i : Nat) : key (ps.setIfInBounds j y) i = if i = j then y.1 else key ps i := by
  unfold key
  rw [Array.getD_eq_getD_getElem?, Array.getD_eq_getD_getElem?, Array.getElem?_setIfInBounds]
  by_cases e : i = j
  · subst e
    rw [if_pos rfl, if_pos rfl, if_pos h]
    rfl
  · rw [if_neg (Ne.symm e), if_neg e]
def HpBut (ps : Array (Int × Tok)) (pos : Nat) : Prop := ∀ i, 0 < i → i < ps.size → i ≠ pos → key ps ((i - 1) / 2) ≤ key ps i
def IsHp (ps : Array (Int × Tok)) : Prop := ∀ i, 0 < i → i < ps.size → key ps ((i - 1) / 2) ≤ key ps i
theorem up_heap (pos : Nat) : ∀ ps : Array (Int × Tok), pos < ps.size → HpBut ps pos → (0 < pos → ∀ i, i < ps.size → 0 < i → (i - 1) / 2 = pos → key ps ((pos - 1) / 2) ≤ key ps i) → IsHp (up ps pos) := by
  induction pos using Nat.strongRecOn with
  | ind pos ih =>
    intro ps hps h1 h2
    by_cases hpos : 0 < pos
    · have hpar : (pos - 1) / 2 < ps.size := by omega
      by_cases c : ps[pos].1 < (ps[(pos - 1) / 2]).1
      · rw [up, dif_pos ⟨hpos, hps⟩, if_pos c]
        rw [key_get, key_get] at c
        have k1 : ∀ i, key ((ps.setIfInBounds ((pos - 1) / 2) ps[pos]).setIfInBounds pos ps[(pos - 1) / 2]) i = if i = pos then key ps ((pos - 1) / 2) else if i = (pos - 1) / 2 then key ps pos else key ps i := fun i => by
          rw [key_set (by rw [Array.size_setIfInBounds]; exact hps), key_set hpar, key_get, key_get]
        have sz : ((ps.setIfInBounds ((pos - 1) / 2) ps[pos]).setIfInBounds pos ps[(pos - 1) / 2]).size = ps.size := by rw [Array.size_setIfInBounds, Array.size_setIfInBounds]
        refine ih ((pos - 1) / 2) (by omega) _ (by rw [sz]; exact hpar) (fun i i0 i1 i2 => ?_) (fun p0 i i1 i0 i2 => ?_)
        · rw [sz] at i1
          rw [k1, k1]
          by_cases e : i = pos
          · subst e
            rw [if_neg (by omega), if_pos rfl, if_pos rfl]
            exact Int.le_of_lt c
          · rw [if_neg e, if_neg i2]
            have g := h1 i i0 i1 e
            by_cases e2 : (i - 1) / 2 = pos
            · rw [if_pos e2]
              exact h2 hpos i i1 i0 e2
            · rw [if_neg e2]
              by_cases e3 : (i - 1) / 2 = (pos - 1) / 2
              · rw [if_pos e3]
                rw [e3] at g
                omega
              · rw [if_neg e3]
                exact g
        · rw [sz] at i1
          rw [k1, k1, if_neg (by omega), if_neg (by omega)]
          have g := h1 ((pos - 1) / 2) p0 hpar (by omega)
          by_cases e : i = pos
          · rw [if_pos e]
            exact g
          · rw [if_neg e, if_neg (by omega)]
            have g2 := h1 i i0 i1 e
            rw [i2] at g2
            omega
      · rw [up, dif_pos ⟨hpos, hps⟩, if_neg c]
        rw [key_get, key_get] at c
        intro i i0 i1
        by_cases e : i = pos
        · subst e
          omega
        · exact h1 i i0 i1 e
    · rw [up, dif_neg (by omega)]
      exact fun i i0 i1 => h1 i i0 i1 (by omega)
theorem up_perm (pos : Nat) : ∀ ps : Array (Int × Tok), (up ps pos).toList.Perm ps.toList := by
  induction pos using Nat.strongRecOn with
  | ind pos ih =>
    intro ps
    by_cases h : 0 < pos ∧ pos < ps.size
    · have hpar : (pos - 1) / 2 < ps.size := by omega
      by_cases c : ps[pos].1 < (ps[(pos - 1) / 2]).1
      · rw [up, dif_pos h, if_pos c]
        refine (ih ((pos - 1) / 2) (by omega) _).trans ?_
        have e : (ps.setIfInBounds ((pos - 1) / 2) ps[pos]).setIfInBounds pos ps[(pos - 1) / 2] = ps.swap ((pos - 1) / 2) pos hpar h.2 := by
          simp [Array.swap_def, Array.setIfInBounds, hpar, h.2]
        rw [e]
        exact (Array.swap_perm hpar h.2).toList
      · rw [up, dif_pos h, if_neg c]
    · rw [up, dif_neg h]
theorem sub_tt : isSubtype (.type "tuple") (.type "tuple") = pure true := PySem.AutoSeq1.sub_tuple_tuple
theorem push_meets (l : Addr) (x : Int) (t : Tok) (ps : Array (Int × Tok)) (n : Nat) (hz : ps.size ≤ 100000) : Meets (Builtin.«_heapq.heappush» ⟨[.ref l, .int x t], []⟩) (upS l .none ps (up (ps.push (x, t)) ps.size) n) := by
  intro prog w A R s h
  obtain ⟨hp, g, d, tk, os⟩ := s
  obtain ⟨hl, h⟩ := h
  have f1 := idx_int
  have f2 := sub_tt
  have f3 := PySem.AutoSeq1.sub_list_list
  have f4 := PySem.AutoSeq1.sub_tuple_list
  have f5 := PySem.AutoSeq1.sub_list_tuple
  have hz' : ((vals ps).push (.int x t)).size ≤ sizeLine + 1 := by rw [Array.size_push, sizeLine_eq, vals_size]; omega
  have hz2 : (vals ps).size ≤ sizeLine := by rw [sizeLine_eq, vals_size]; omega
  have ev : vals (ps.push (x, t)) = (vals ps).push (.int x t) := by
    unfold vals
    rw [Array.map_push]
  have g1 := PySem.IsL.update hl (fun xs => xs.push (.int x t))
  rw [← ev] at g1
  wp_walk using (wpAny_updateSeq hl rfl (hz := hz2) (_hz' := hz')), wpAny_loadPart' hl, wpAny_loadPart' g1
  refine ⟨plainId_quiet plain_sift _, codeAny_builtin entry_sift ?_⟩
  rw [Around.under_plainId plain_sift _]
  have e : (vals (ps.push (x, t))).size - 1 = ps.size := by rw [vals_size, Array.size_push]; rfl
  rw [e]
  exact sift_up l _ ps.size (ps.push (x, t)) _ (by rw [Array.size_push]; omega) (by rw [Array.size_push]; omega) prog w A R _
    ⟨g1, fun h' n' t' a1 a2 a3 => h h' n' t' a1 (fun b u hb hu => a2 b u hb ((Heap.get?_update_other hp _ (Ne.symm hb)).trans hu)) (a3.trans (by simp [Heap.update]))⟩
/-- two places change -/
def sw (ps : Array (Int × Tok)) (i j : Nat) : Array (Int × Tok) := (ps.setIfInBounds i (ps.getD j (0, 0))).setIfInBounds j (ps.getD i (0, 0))
theorem sw_size {ps : Array (Int × Tok)} {i j : Nat} : (sw ps i j).size = ps.size := by
  unfold sw
  rw [Array.size_setIfInBounds, Array.size_setIfInBounds]
theorem getD_get {ps : Array (Int × Tok)} {i : Nat} (h : i < ps.size) : ps.getD i (0, 0) = ps[i] := by
  rw [Array.getD_eq_getD_getElem?, Array.getElem?_eq_getElem h]
  rfl
theorem sw_key {ps : Array (Int × Tok)} {i j : Nat} (hi : i < ps.size) (hj : j < ps.size) (k : Nat) : key (sw ps i j) k = if k = j then key ps i else if k = i then key ps j else key ps k := by
  unfold sw
  rw [key_set (by rw [Array.size_setIfInBounds]; exact hj), key_set hi]
  rfl
theorem sw_perm {ps : Array (Int × Tok)} {i j : Nat} (hi : i < ps.size) (hj : j < ps.size) : (sw ps i j).toList.Perm ps.toList := by
  have e : sw ps i j = ps.swap i j hi hj := by
    unfold sw
    rw [getD_get hi, getD_get hj]
    simp [Array.swap_def, Array.setIfInBounds, hi, hj]
  rw [e]
  exact (Array.swap_perm hi hj).toList
theorem sw_vals {ps : Array (Int × Tok)} {i j : Nat} (hi : i < ps.size) (hj : j < ps.size) : vals (sw ps i j) = ((vals ps).setIfInBounds i (Value.int ps[j].1 ps[j].2)).setIfInBounds j (Value.int ps[i].1 ps[i].2) := by
  unfold sw vals
  rw [getD_get hi, getD_get hj, Array.map_setIfInBounds, Array.map_setIfInBounds]
def dnC (ps : Array (Int × Tok)) (pos : Nat) : Nat := if 2 * pos + 1 + 1 < ps.size ∧ ¬ key ps (2 * pos + 1) < key ps (2 * pos + 1 + 1) then 2 * pos + 1 + 1 else 2 * pos + 1
theorem dnC_lt {ps : Array (Int × Tok)} {pos : Nat} (h : pos < ps.size / 2) : dnC ps pos < ps.size ∧ pos < dnC ps pos := by
  unfold dnC
  split <;> omega
def dn (ps : Array (Int × Tok)) (pos : Nat) : Array (Int × Tok) := if h : pos < ps.size / 2 then dn (sw ps (dnC ps pos) pos) (dnC ps pos) else up ps pos
termination_by ps.size - pos
decreasing_by
  have := dnC_lt h
  rw [sw_size]
  omega
theorem dn_perm (k : Nat) : ∀ (ps : Array (Int × Tok)) (pos : Nat), ps.size - pos = k → (dn ps pos).toList.Perm ps.toList := by
  induction k using Nat.strongRecOn with
  | ind k ih =>
    intro ps pos hk
    by_cases h : pos < ps.size / 2
    · have hc := dnC_lt h
      rw [dn, dif_pos h]
      exact (ih (ps.size - dnC ps pos) (by omega) (sw ps (dnC ps pos) pos) (dnC ps pos) (by rw [sw_size])).trans (sw_perm hc.1 (by omega))
    · rw [dn, dif_neg h]
      exact up_perm pos ps
theorem dn_heap (k : Nat) : ∀ (ps : Array (Int × Tok)) (pos : Nat), ps.size - pos = k → pos < ps.size → (∀ i, 0 < i → i < ps.size → i ≠ pos → (i - 1) / 2 ≠ pos → key ps ((i - 1) / 2) ≤ key ps i) →
    (0 < pos → ∀ i, i < ps.size → 0 < i → (i - 1) / 2 = pos → key ps ((pos - 1) / 2) ≤ key ps i) → IsHp (dn ps pos) := by
  induction k using Nat.strongRecOn with
  | ind k ih =>
    intro ps pos hk hp h1 h2
    by_cases h : pos < ps.size / 2
    · have hc := dnC_lt h
      have sm : ∀ i, i < ps.size → 0 < i → (i - 1) / 2 = pos → key ps (dnC ps pos) ≤ key ps i := fun i i1 i0 e => by
        have e2 : i = 2 * pos + 1 ∨ i = 2 * pos + 1 + 1 := by omega
        unfold dnC
        rcases e2 with rfl | rfl
        · split <;> omega
        · split
          · exact Int.le_refl _
          · rename_i g
            have g2 : key ps (2 * pos + 1) < key ps (2 * pos + 1 + 1) := Classical.byContradiction fun z => g ⟨i1, z⟩
            omega
      have pc : (dnC ps pos - 1) / 2 = pos := by
        unfold dnC
        split <;> omega
      rw [dn, dif_pos h]
      refine ih (ps.size - dnC ps pos) (by omega) (sw ps (dnC ps pos) pos) (dnC ps pos) (by rw [sw_size]) (by rw [sw_size]; exact hc.1) (fun i i0 i1 i2 i3 => ?_) (fun p0 i i1 i0 i2 => ?_)
      · rw [sw_size] at i1
        rw [sw_key hc.1 hp, sw_key hc.1 hp, if_neg i3, if_neg i2]
        by_cases e : i = pos
        · subst e
          rw [if_neg (by omega), if_pos rfl]
          exact h2 i0 _ hc.1 (by omega) pc
        · rw [if_neg e]
          by_cases e2 : (i - 1) / 2 = pos
          · rw [if_pos e2]
            exact sm i i1 i0 e2
          · rw [if_neg e2]
            exact h1 i i0 i1 e e2
      · rw [sw_size] at i1
        rw [sw_key hc.1 hp, sw_key hc.1 hp, pc, if_pos rfl, if_neg (by omega), if_neg (by omega)]
        have g := h1 i i0 i1 (by omega) (by omega)
        rw [i2] at g
        exact g
    · rw [dn, dif_neg h]
      exact up_heap pos ps hp (fun i i0 i1 i2 => h1 i i0 i1 i2 (by omega)) (fun p0 i i1 i0 i2 => by omega)
theorem sift_dn (l : Addr) (r : Value) (k : Nat) : ∀ (ps : Array (Int × Tok)) (pos : Nat) (n : Nat), ps.size - pos = k → pos < ps.size → ps.size ≤ 100001 →
    Meets (Builtin.«_heapq.heapify.sift» ⟨[.ref l, .bool false, .bool true, rawInt (pos : Nat), rawInt (0 : Nat), r, rawInt (-1)], []⟩) (upS l r ps (dn ps pos) n) := by
  induction k using Nat.strongRecOn with
  | ind k ih =>
    intro ps pos n hk hps hz prog w A R s h
    obtain ⟨hp, g, d, tk, os⟩ := s
    obtain ⟨hl, h⟩ := h
    have hz2 : (vals ps).size ≤ sizeLine := by rw [vals_size, sizeLine_eq]; omega
    wp_walk using wpAny_loadPart' hl
    by_cases hpos : pos < ps.size / 2
    · rw [if_pos (show ((pos : Nat) : Int).toNat < (vals ps).size / 2 by rw [Int.toNat_natCast, vals_size]; exact hpos)]
      simp only [Int.toNat_natCast]
      have hl2 : 2 * pos + 1 < ps.size := by omega
      wp_walk
      by_cases c1 : 2 * pos + 1 + 1 < ps.size
      · rw [if_pos (show 2 * pos + 1 + 1 < (vals ps).size by rw [vals_size]; exact c1)]
        wp_walk
        rw [vals_get hl2]
        wp_walk
        rw [vals_get c1]
        wp_walk using rc_lt, wpAny_loadPart' hl
        by_cases c2 : ¬ key ps (2 * pos + 1) < key ps (2 * pos + 1 + 1)
        · have c3 : (!decide ((ps[2 * pos + 1]).1 < (ps[2 * pos + 1 + 1]).1)) = true := by
            rw [key_get, key_get, decide_eq_false c2] <;> rfl
          rw [if_pos c3]
          have ec : dnC ps pos = 2 * pos + 1 + 1 := by
            unfold dnC
            rw [if_pos ⟨c1, c2⟩]
          have hc1 : 2 * pos + 1 + 1 < ps.size := by omega
          have g1 := PySem.IsL.update hl (fun xs => (xs.setIfInBounds (2 * pos + 1 + 1) (Value.int ps[pos].1 ps[pos].2)).setIfInBounds pos (Value.int (ps[2 * pos + 1 + 1]).1 (ps[2 * pos + 1 + 1]).2))
          rw [← sw_vals hc1 hps] at g1
          rw [dn, dif_pos hpos] at h
          have hz3 : (((vals ps).setIfInBounds (2 * pos + 1 + 1) (Value.int ps[pos].1 ps[pos].2)).setIfInBounds pos (Value.int (ps[2 * pos + 1 + 1]).1 (ps[2 * pos + 1 + 1]).2)).size ≤ sizeLine + 1 := by
            rw [Array.size_setIfInBounds, Array.size_setIfInBounds]
            omega
          wp_walk using wpAny_loadPart' hl
          rw [vals_get hc1]
          wp_walk
          rw [vals_get hps]
          wp_walk using (wpAny_updateSeq hl rfl (hz := hz2) (_hz' := hz3))
          refine ⟨plainId_quiet plain_sift _, codeAny_builtin entry_sift ?_⟩
          rw [Around.under_plainId plain_sift _]
          have key2 := fun n2 => ih (ps.size - dnC ps pos) (by have := dnC_lt hpos; omega) (sw ps (dnC ps pos) pos) (dnC ps pos) n2 (by rw [sw_size]) (by rw [sw_size]; exact (dnC_lt hpos).1) (by rw [sw_size]; exact hz) prog w A R
          rw [ec] at key2 h
          exact key2 _ _ ⟨g1, fun h' n' t' a1 a2 a3 => h h' n' t' a1 (fun b u hb hu => a2 b u hb ((Heap.get?_update_other hp _ (Ne.symm hb)).trans hu)) (a3.trans (by simp [Heap.update]))⟩
        · have c3 : ¬ (!decide ((ps[2 * pos + 1]).1 < (ps[2 * pos + 1 + 1]).1)) = true := by
            rw [key_get, key_get, decide_eq_true (Classical.not_not.mp c2)]
            decide
          rw [if_neg c3]
          have ec : dnC ps pos = 2 * pos + 1 := by
            unfold dnC
            rw [if_neg (fun z => z.2 (Classical.not_not.mp c2))]
          have hc1 : 2 * pos + 1 < ps.size := by omega
          have g1 := PySem.IsL.update hl (fun xs => (xs.setIfInBounds (2 * pos + 1) (Value.int ps[pos].1 ps[pos].2)).setIfInBounds pos (Value.int (ps[2 * pos + 1]).1 (ps[2 * pos + 1]).2))
          rw [← sw_vals hc1 hps] at g1
          rw [dn, dif_pos hpos] at h
          have hz3 : (((vals ps).setIfInBounds (2 * pos + 1) (Value.int ps[pos].1 ps[pos].2)).setIfInBounds pos (Value.int (ps[2 * pos + 1]).1 (ps[2 * pos + 1]).2)).size ≤ sizeLine + 1 := by
            rw [Array.size_setIfInBounds, Array.size_setIfInBounds]
            omega
          wp_walk using wpAny_loadPart' hl
          rw [vals_get hc1]
          wp_walk
          rw [vals_get hps]
          wp_walk using (wpAny_updateSeq hl rfl (hz := hz2) (_hz' := hz3))
          refine ⟨plainId_quiet plain_sift _, codeAny_builtin entry_sift ?_⟩
          rw [Around.under_plainId plain_sift _]
          have key2 := fun n2 => ih (ps.size - dnC ps pos) (by have := dnC_lt hpos; omega) (sw ps (dnC ps pos) pos) (dnC ps pos) n2 (by rw [sw_size]) (by rw [sw_size]; exact (dnC_lt hpos).1) (by rw [sw_size]; exact hz) prog w A R
          rw [ec] at key2 h
          exact key2 _ _ ⟨g1, fun h' n' t' a1 a2 a3 => h h' n' t' a1 (fun b u hb hu => a2 b u hb ((Heap.get?_update_other hp _ (Ne.symm hb)).trans hu)) (a3.trans (by simp [Heap.update]))⟩
      · rw [if_neg (show ¬ 2 * pos + 1 + 1 < (vals ps).size by rw [vals_size]; exact c1)]
        have ec : dnC ps pos = 2 * pos + 1 := by
          unfold dnC
          rw [if_neg (fun z => c1 z.1)]
        have hc1 : 2 * pos + 1 < ps.size := by omega
        have g1 := PySem.IsL.update hl (fun xs => (xs.setIfInBounds (2 * pos + 1) (Value.int ps[pos].1 ps[pos].2)).setIfInBounds pos (Value.int (ps[2 * pos + 1]).1 (ps[2 * pos + 1]).2))
        rw [← sw_vals hc1 hps] at g1
        rw [dn, dif_pos hpos] at h
        have hz3 : (((vals ps).setIfInBounds (2 * pos + 1) (Value.int ps[pos].1 ps[pos].2)).setIfInBounds pos (Value.int (ps[2 * pos + 1]).1 (ps[2 * pos + 1]).2)).size ≤ sizeLine + 1 := by
          rw [Array.size_setIfInBounds, Array.size_setIfInBounds]
          omega
        wp_walk using wpAny_loadPart' hl
        rw [vals_get hc1]
        wp_walk
        rw [vals_get hps]
        wp_walk using (wpAny_updateSeq hl rfl (hz := hz2) (_hz' := hz3))
        refine ⟨plainId_quiet plain_sift _, codeAny_builtin entry_sift ?_⟩
        rw [Around.under_plainId plain_sift _]
        have key2 := fun n2 => ih (ps.size - dnC ps pos) (by have := dnC_lt hpos; omega) (sw ps (dnC ps pos) pos) (dnC ps pos) n2 (by rw [sw_size]) (by rw [sw_size]; exact (dnC_lt hpos).1) (by rw [sw_size]; exact hz) prog w A R
        rw [ec] at key2 h
        exact key2 _ _ ⟨g1, fun h' n' t' a1 a2 a3 => h h' n' t' a1 (fun b u hb hu => a2 b u hb ((Heap.get?_update_other hp _ (Ne.symm hb)).trans hu)) (a3.trans (by simp [Heap.update]))⟩
    · rw [if_neg (show ¬ ((pos : Nat) : Int).toNat < (vals ps).size / 2 by rw [Int.toNat_natCast, vals_size]; exact hpos)]
      rw [dn, dif_neg hpos] at h
      wp_walk
      refine ⟨plainId_quiet plain_sift _, codeAny_builtin entry_sift ?_⟩
      rw [Around.under_plainId plain_sift _]
      exact sift_up l r pos ps n hps hz prog w A R _ ⟨hl, h⟩
end
section
open PySem.AutoSeq1 PySem.MeetsSeq
theorem pop_meets1 (l : Addr) (x : Int) (t : Tok) (n : Nat) : Meets (Builtin.«_heapq.heappop» ⟨[.ref l], []⟩) (upS l (.int x t) #[(x, t)] #[] n) := by
  intro prog w A R s h
  obtain ⟨hp, g, d, tk, os⟩ := s
  obtain ⟨hl, h⟩ := h
  have f2 := sub_tt
  have f3 := PySem.AutoSeq1.sub_list_list
  have f4 := PySem.AutoSeq1.sub_tuple_list
  have f5 := PySem.AutoSeq1.sub_list_tuple
  have eb : (vals #[(x, t)]).back? = some (.int x t) := by
    unfold vals
    simp
  have g1 := PySem.IsL.update hl (fun xs => xs.pop)
  have hz2 : (vals #[(x, t)]).size ≤ sizeLine := by rw [vals_size, sizeLine_eq]; simp
  have hz3 : ((vals #[(x, t)]).pop).size ≤ sizeLine + 1 := by rw [Array.size_pop, vals_size, sizeLine_eq]; simp
  have ep : (vals #[(x, t)]).pop = vals #[] := by
    unfold vals
    simp
  rw [ep] at g1
  wp_walk using wpAny_loadPart' hl
  rw [eb]
  wp_walk using (wpAny_updateSeq hl rfl (hz := hz2) (_hz' := hz3)), wpAny_loadPart' hl
  rw [if_pos (show ((vals #[(x, t)]).size == 1) = true by rw [vals_size]; rfl)]
  wp_walk
  exact h _ _ _ g1 (fun b u hb hu => (Heap.get?_update_other hp _ (Ne.symm hb)).trans hu) (by simp [Heap.update])
theorem pop_meets (l : Addr) (x y : Int) (t u : Tok) (ps : Array (Int × Tok)) (n : Nat) (hz : ps.size ≤ 100000) :
    Meets (Builtin.«_heapq.heappop» ⟨[.ref l], []⟩) (upS l (.int x t) (#[(x, t)] ++ ps ++ #[(y, u)]) (dn (#[(y, u)] ++ ps) 0) n) := by
  intro prog w A R s h
  obtain ⟨hp, g, d, tk, os⟩ := s
  obtain ⟨hl, h⟩ := h
  have f2 := sub_tt
  have f3 := PySem.AutoSeq1.sub_list_list
  have f4 := PySem.AutoSeq1.sub_tuple_list
  have f5 := PySem.AutoSeq1.sub_list_tuple
  have eb : (vals (#[(x, t)] ++ ps ++ #[(y, u)])).back? = some (.int y u) := by
    unfold vals
    simp
  have e0 : (vals (#[(x, t)] ++ ps ++ #[(y, u)]))[0]? = some (.int x t) := by
    unfold vals
    rw [Array.map_append, Array.map_append, Array.append_assoc, Array.getElem?_append_left (by simp)]
    simp
  have ep : (vals (#[(x, t)] ++ ps ++ #[(y, u)])).pop = vals (#[(x, t)] ++ ps) := by
    unfold vals
    simp
  have es : (vals (#[(x, t)] ++ ps)).setIfInBounds 0 (.int y u) = vals (#[(y, u)] ++ ps) := by
    unfold vals
    apply Array.ext'
    simp [Array.toList_setIfInBounds]
  have sz : (vals (#[(x, t)] ++ ps ++ #[(y, u)])).size = ps.size + 2 := by
    rw [vals_size]
    simp
    omega
  have sz2 : (vals (#[(x, t)] ++ ps)).size = ps.size + 1 := by
    rw [vals_size]
    simp
    omega
  have sz3 : (vals (#[(y, u)] ++ ps)).size = ps.size + 1 := by
    rw [vals_size]
    simp
    omega
  have g1 := PySem.IsL.update hl (fun xs => xs.pop)
  rw [ep] at g1
  have g2 := PySem.IsL.update g1 (fun xs => xs.setIfInBounds 0 (.int y u))
  rw [es] at g2
  have hz2 : (vals (#[(x, t)] ++ ps ++ #[(y, u)])).size ≤ sizeLine := by rw [sz, sizeLine_eq]; omega
  have hz3 : ((vals (#[(x, t)] ++ ps ++ #[(y, u)])).pop).size ≤ sizeLine + 1 := by rw [ep, sz2, sizeLine_eq]; omega
  have hz4 : (vals (#[(x, t)] ++ ps)).size ≤ sizeLine := by rw [sz2, sizeLine_eq]; omega
  have hz5 : ((vals (#[(x, t)] ++ ps)).setIfInBounds 0 (.int y u)).size ≤ sizeLine + 1 := by rw [es, sz3, sizeLine_eq]; omega
  have ne1 : ((vals (#[(x, t)] ++ ps ++ #[(y, u)])).size == 1) = false := by
    rw [sz]
    simp
  wp_walk using wpAny_loadPart' hl
  rw [eb]
  wp_walk using (wpAny_updateSeq hl rfl (hz := hz2) (_hz' := hz3)), wpAny_loadPart' hl
  rw [ne1]
  rw [if_neg (by decide)]
  wp_walk
  rw [e0]
  wp_walk using (wpAny_updateSeq g1 rfl (hz := hz4) (_hz' := hz5)), wpAny_loadPart' hl
  refine ⟨plainId_quiet plain_sift _, codeAny_builtin entry_sift ?_⟩
  rw [Around.under_plainId plain_sift _]
  exact sift_dn l (.int x t) ((#[(y, u)] ++ ps).size - 0) (#[(y, u)] ++ ps) 0 _ rfl (by simp; omega) (by simp; omega) prog w A R _
    ⟨g2, fun h' n' t' a1 a2 a3 => h h' n' t' a1 (fun b v hb hv => a2 b v hb ((Heap.get?_update_other _ _ (Ne.symm hb)).trans ((Heap.get?_update_other hp _ (Ne.symm hb)).trans hv))) (a3.trans (by simp [Heap.update]))⟩
end
/-- a heap, as a list of ints -/
def HpL (xs : List Int) : Prop := ∀ i, 0 < i → i < xs.length → xs.getD ((i - 1) / 2) 0 ≤ xs.getD i 0
theorem HpL.nil : HpL [] := fun i _ h => absurd h (by simp)
theorem key_getD {ps : Array (Int × Tok)} {xs : List Int} (h : ps.toList.map (·.1) = xs) (i : Nat) : key ps i = xs.getD i 0 := by
  subst h
  unfold key
  by_cases e : i < ps.size
  · rw [getD_get e]
    simp [List.getD_eq_getElem?_getD, e]
  · simp [Array.getD_eq_getD_getElem?, List.getD_eq_getElem?_getD, e]
theorem hpL_iff {ps : Array (Int × Tok)} {xs : List Int} (h : ps.toList.map (·.1) = xs) : IsHp ps ↔ HpL xs := by
  have sz : xs.length = ps.size := by
    rw [← h]
    simp
  unfold IsHp HpL
  rw [sz]
  constructor
  · intro q i i0 i1
    have := q i i0 i1
    rwa [key_getD h, key_getD h] at this
  · intro q i i0 i1
    have := q i i0 i1
    rwa [key_getD h, key_getD h]
theorem HpL.least : ∀ {xs : List Int}, HpL xs → ∀ (i : Nat), i < xs.length → xs.getD 0 0 ≤ xs.getD i 0 := by
  intro xs h i
  induction i using Nat.strongRecOn with
  | ind i ih =>
    intro hi
    by_cases e : i = 0
    · rw [e]
      exact Int.le_refl _
    · have a := ih ((i - 1) / 2) (by omega) (by omega)
      have b := h i (by omega) hi
      omega
theorem HpL.head {x : Int} {xs : List Int} (h : HpL (x :: xs)) : ∀ y ∈ xs, x ≤ y := by
  intro y hy
  obtain ⟨i, hi⟩ := List.mem_iff_getElem?.mp hy
  have := h.least (i + 1) (by have := (List.getElem?_eq_some_iff.mp hi).1; simp; omega)
  simpa [List.getD_eq_getElem?_getD, hi] using this
/-- a list of ints as it stands on the heap -/
theorem ints_arr : ∀ {its : List Value} {ns : List Int}, Vals (ns.map V.int) its → ∃ ps : List (Int × Tok), its = (ps.map fun p => Value.int p.1 p.2) ∧ ps.map (·.1) = ns
  | [], [], _ => ⟨[], rfl, rfl⟩
  | u :: us, n :: ns, h => by
    cases h with
    | cons a b =>
      obtain ⟨t, rfl⟩ := a
      obtain ⟨ps, e1, e2⟩ := ints_arr b
      exact ⟨(n, t) :: ps, by rw [e1]; rfl, by simp [e2]⟩
  | [], n :: ns, h => by cases h
  | u :: us, [], h => by cases h
theorem arr_ints {ps : List (Int × Tok)} : Vals ((ps.map (·.1)).map V.int) (ps.map fun p => Value.int p.1 p.2) := by
  induction ps with
  | nil => exact .nil
  | cons p ps ih => exact .cons ⟨p.2, rfl⟩ ih
def rPush : List V → Hp → VK → Prop := fun vs H Q => ∃ (l : Addr) (x : Int) (xs : List Int), vs = [.ref l, .int x] ∧ H l = some (.lst (xs.map V.int)) ∧ xs.length ≤ 100000 ∧
  ∀ ys : List Int, ys.Perm (x :: xs) → (HpL xs → HpL ys) → Q .non (upd H l (.lst (ys.map V.int)))
def rPopH : List V → Hp → VK → Prop := fun vs H Q => ∃ (l : Addr) (x : Int) (xs : List Int), vs = [.ref l] ∧ H l = some (.lst ((x :: xs).map V.int)) ∧ xs.length ≤ 100000 ∧
  ∀ ys : List Int, ys.Perm xs → (HpL (x :: xs) → HpL ys) → Q (.int x) (upd H l (.lst (ys.map V.int)))
theorem kind_push : builtinKind "_heapq.heappush" = none := by decide +kernel
theorem plain_push : plainId "_heapq.heappush" = true := by decide +kernel
theorem entry_push : entryFor table "_heapq.heappush" = some Builtin.«_heapq.heappush» := entryFor_of_fast (by kernel_rfl)
theorem kind_popH : builtinKind "_heapq.heappop" = none := by decide +kernel
theorem plain_popH : plainId "_heapq.heappop" = true := by decide +kernel
theorem entry_popH : entryFor table "_heapq.heappop" = some Builtin.«_heapq.heappop» := entryFor_of_fast (by kernel_rfl)
theorem args_push (a b : Value) : argsOk "_heapq.heappush" ⟨[a, b], []⟩ := by
  unfold argsOk
  first | rfl | kernel_rfl
theorem args_popH (a : Value) : argsOk "_heapq.heappop" ⟨[a], []⟩ := by
  unfold argsOk
  first | rfl | kernel_rfl
section
variable {X : Cx}
theorem inv_frame {pins : List (Addr × Obj)} {σ : L2.St} {H : Hp} {s : Shared} {l : Addr} {xs : List V} {ys : List Int} {qs : Array (Int × Tok)} {h' : Heap} {n' t' : Nat} (I : Inv X pins σ H s) (hH : H l = some (.lst xs))
    (a1 : h'.get? l = some { cls := .type "list", dict := none, data := .seq (vals qs) n', slots := #[] }) (a2 : ∀ b u, b ≠ l → s.heap.get? b = some u → h'.get? b = some u) (e : qs.toList.map (·.1) = ys) (hz : ys.length ≤ sizeLine) :
    Inv X pins σ (upd H l (.lst (ys.map V.int))) { s with heap := h', toks := t' } := by
  refine I.write (x := l) (e := l) (by rw [hH]; exact trivial) (.inl rfl) a2 ⟨_, a1⟩ ?_
  refine ⟨by rw [List.length_map]; exact hz, qs.toList.map fun p => Value.int p.1 p.2, n', ?_, ?_⟩
  · subst e
    exact arr_ints
  · rw [a1]
    have : (qs.toList.map fun p => Value.int p.1 p.2).toArray = vals qs := by
      unfold vals
      apply Array.ext'
      simp
    rw [this]
theorem call_push : CallR X (.builtin "_heapq.heappush") rPush := by
  intro pins s σ H vs us Q I r h
  obtain ⟨l, x, xs, rfl, hH, hz, q⟩ := h
  obtain ⟨u1, u2, rfl, r1, r2⟩ := vals2 r
  cases r1
  obtain ⟨t, rfl⟩ := r2
  obtain ⟨z, its, n, rv, hl, e⟩ := I.lstM hH
  obtain ⟨ps, e1, e2⟩ := ints_arr rv
  subst e1
  have ev : (ps.map fun p => Value.int p.1 p.2).toArray = vals ps.toArray := by
    unfold vals
    simp
  rw [ev] at e
  have sz : ps.toArray.size = xs.length := by
    rw [← e2]
    simp
  refine call_function_meets kind_push plain_push entry_push (args_push _ _) (push_meets l x t ps.toArray n (by omega)) ⟨e, fun h' n' t' a1 a2 a3 => ?_⟩
  have hp := up_perm ps.toArray.size (ps.toArray.push (x, t))
  have hp2 : ((up (ps.toArray.push (x, t)) ps.toArray.size).toList.map (·.1)).Perm (x :: xs) := by
    refine (hp.map (·.1)).trans ?_
    rw [Array.toList_push, List.map_append, e2]
    exact List.perm_append_comm
  refine ⟨.non, _, inv_frame I hH a1 a2 rfl ?_, rfl, q _ hp2 fun h => ?_⟩
  · rw [hp2.length_eq, List.length_cons, sizeLine_eq]
    omega
  · refine (hpL_iff rfl).mp (up_heap _ _ (by rw [Array.size_push]; omega) (fun i i0 i1 i2 => ?_) (fun p0 i i1 i0 i2 => ?_))
    · rw [Array.size_push] at i1
      have ps2 : (ps.toArray.push (x, t)).toList.map (·.1) = xs ++ [x] := by
        rw [Array.toList_push, List.map_append, e2]
        rfl
      rw [key_getD ps2, key_getD ps2]
      have := h i i0 (by omega)
      have a1 : (xs ++ [x]).getD ((i - 1) / 2) 0 = xs.getD ((i - 1) / 2) 0 := by
        rw [List.getD_eq_getElem?_getD, List.getElem?_append_left (by omega), List.getD_eq_getElem?_getD]
      have a2 : (xs ++ [x]).getD i 0 = xs.getD i 0 := by
        rw [List.getD_eq_getElem?_getD, List.getElem?_append_left (by omega), List.getD_eq_getElem?_getD]
      rw [a1, a2]
      exact this
    · rw [Array.size_push] at i1
      omega
theorem call_popH : CallR X (.builtin "_heapq.heappop") rPopH := by
  intro pins s σ H vs us Q I r h
  obtain ⟨l, x, xs, rfl, hH, hz, q⟩ := h
  have er := Vals.ref1 r
  subst er
  obtain ⟨z, its, n, rv, hl, e⟩ := I.lstM hH
  obtain ⟨ps, e1, e2⟩ := ints_arr rv
  subst e1
  have ev : (ps.map fun p => Value.int p.1 p.2).toArray = vals ps.toArray := by
    unfold vals
    simp
  rw [ev] at e
  rcases List.eq_nil_or_concat xs with hx | ⟨zs, y, hx⟩
  · subst hx
    match ps, e2 with
    | [(x', t)], e2 =>
      have : x' = x := by simpa using e2
      subst this
      refine call_function_meets kind_popH plain_popH entry_popH (args_popH _) (pop_meets1 l x' t n) ⟨e, fun h' n' t' a1 a2 a3 => ?_⟩
      exact ⟨.int x', _, inv_frame I hH a1 a2 (ys := []) rfl (Nat.zero_le _), ⟨_, rfl⟩, q [] (List.Perm.refl _) fun _ => HpL.nil⟩
  · rw [List.concat_eq_append] at hx
    subst hx
    have : ∃ t qs u, ps = (x, t) :: qs ++ [(y, u)] ∧ qs.map (·.1) = zs := by
      match ps, e2 with
      | (x', t) :: ps', e2 =>
        rw [List.map_cons, List.cons.injEq] at e2
        obtain ⟨e3, e4⟩ := e2
        rcases List.eq_nil_or_concat ps' with h | ⟨qs, w, h⟩
        · subst h
          simp at e4
        · rw [List.concat_eq_append] at h
          subst h
          rw [List.map_append] at e4
          have h1 := List.append_inj' e4 (by simp)
          have h2 : w.1 = y := by simpa using h1.2
          subst e3
          subst h2
          exact ⟨t, qs, w.2, rfl, h1.1⟩
    obtain ⟨t, qs, u, rfl, eq⟩ := this
    have ea : ((x, t) :: qs ++ [(y, u)]).toArray = #[(x, t)] ++ qs.toArray ++ #[(y, u)] := by
      apply Array.ext'
      simp
    rw [ea] at e
    have sq : qs.toArray.size = zs.length := by
      rw [← eq]
      simp
    rw [List.length_append] at hz
    have hz1 : zs.length + 1 ≤ 100000 := hz
    refine call_function_meets kind_popH plain_popH entry_popH (args_popH _) (pop_meets l x y t u qs.toArray n (by omega)) ⟨e, fun h' n' t' a1 a2 a3 => ?_⟩
    have hp := dn_perm _ (#[(y, u)] ++ qs.toArray) 0 rfl
    have hp2 : ((dn (#[(y, u)] ++ qs.toArray) 0).toList.map (·.1)).Perm (zs ++ [y]) := by
      refine (hp.map (·.1)).trans ?_
      rw [Array.toList_append, List.map_append, List.toList_toArray, eq]
      exact List.perm_append_comm
    refine ⟨.int x, _, inv_frame I hH a1 a2 rfl ?_, ⟨_, rfl⟩, q _ hp2 fun h => ?_⟩
    · rw [hp2.length_eq, List.length_append, sizeLine_eq]
      show zs.length + 1 ≤ _
      omega
    · have ps2 : (#[(y, u)] ++ qs.toArray).toList.map (·.1) = y :: zs := by
        simp [eq]
      have sz2 : (#[(y, u)] ++ qs.toArray).size = zs.length + 1 := by
        simp
        rw [← eq]
        simp
      refine (hpL_iff rfl).mp (dn_heap _ _ 0 rfl (by omega) (fun i i0 i1 i2 i3 => ?_) (fun p0 => absurd p0 (by omega)))
      rw [key_getD ps2, key_getD ps2]
      rw [sz2] at i1
      have g : ∀ j, 0 < j → j < zs.length + 1 → (y :: zs).getD j 0 = (x :: (zs ++ [y])).getD j 0 := fun j j0 j1 => by
        obtain ⟨k, rfl⟩ : ∃ k, j = k + 1 := ⟨j - 1, by omega⟩
        rw [List.getD_cons_succ, List.getD_cons_succ, List.getD_eq_getElem?_getD, List.getD_eq_getElem?_getD, List.getElem?_append_left (by omega)]
      rw [g _ (by omega) (by omega), g _ i0 i1]
      exact h i i0 (by simp; omega)
end

/-! ### xs[:] = ys, sorted of a dict, d.get(k) -/
theorem PE.by {X : Cx} {e : Expr} {t t' : TE} (h : PE X e t) (w : ∀ σ H Q, t' σ H Q → t σ H Q) : PE X e t' := ⟨fun pins s σ H Q I q => h.run pins s σ H Q I (w σ H Q q)⟩
section
variable {pg : Program} {wd : World} {Ar : Around} {Er : Value → Shared → Prop} {sh : Shared}
/-- where a whole list is replaced: from its beginning to its end, by ones -/
theorem whole_bounds {k : Nat} : sliceBounds none none none k = ((0 : Int), (k : Int), 1) := by simp [sliceBounds]
theorem set_whole {p q c : Addr} {old fresh : Array Value} {e1 e2 : Nat} {u v : Value} {R : Unit → Shared → Prop}
    (hp : sh.heap.get? p = some { cls := .type "list", data := .seq old e1 }) (hq : sh.heap.get? q = some { cls := .type "list", data := .seq fresh e2 }) (pq : p ≠ q)
    (hc : sh.heap.IsSliceOf c u v .none) (hu : IsPart u none) (hv : IsPart v none) (fits : old.size + fresh.size ≤ sizeLine)
    (k : R () { sh with heap := sh.heap.update p (Obj.mapSeq fun xs => xs.extract 0 0 ++ fresh ++ xs.extract old.size xs.size) }) : wpAny (model pg wd) Ar (setItem (.ref p) (.ref c) (.ref q)) R Er sh := by
  have lp := PySem.IsL.isList hp
  have lq := PySem.IsL.isList hq
  obtain ⟨oc, gc, cc, dc⟩ := id hc
  have tc : sh.TypeIs (.ref c) "slice" := ⟨oc, gc, cc⟩
  have other : Builtin.List.listSameRef (.ref p) (.ref q) = false := by unfold Builtin.List.listSameRef; exact beq_eq_false_iff_ne.mpr pq
  have upTo : (max ((0 : Nat) : Int) (old.size : Int)).toNat = old.size := by omega
  have grows : ((fun xs : Array Value => xs.extract 0 0 ++ fresh ++ xs.extract old.size xs.size) old).size ≤ sizeLine + 1 := by simp only [Array.size_append, Array.size_extract]; omega
  unfold setItem
  with_reducible refine wpAny_holding (wpAny_bind (wpAny_sequenceKey lp.typeIs (by decide) (wpAny_bind (wpAny_callSpecial?_slot (name := Str.ofString "__setitem__") lp.typeIs slot_list_setitem (wpAny_call_entry slot_list_setitem lp.typeIs entry_list_setitem ?_ (args_list_setitem _ _ _))))))
  show wpAny _ _ (Builtin.List.listSubscript? (.ref c) >>= _) _ _ sh; refine wpAny_bind ?_
  unfold Builtin.List.listSubscript?; refine wpAny_bind (wpAny_specialOf tc slice_no_index ?_)
  simp only [Option.isNone_none, if_true]; refine wpAny_pure ?_
  show wpAny _ _ (typeOf (.ref c) >>= _) _ _ sh; refine wpAny_bind (wpAny_typeOf tc (PySem.W.KFB.if_not (by decide) ?_))
  rw [listSliceParts_eq]; refine wpAny_bind (wpAny_bind (wpAny_field gc dc (x := .none) rfl (wpAny_bind (wpAny_listPart .none ?_)))); rw [if_neg (show ¬ (rawPart none == rawInt 0) = true from Bool.false_ne_true)]
  refine wpAny_bind (wpAny_field gc dc (x := u) rfl (wpAny_bind (wpAny_listPart hu (wpAny_bind (wpAny_field gc dc (x := v) rfl (wpAny_bind (wpAny_listPart hv (wpAny_pure ?_))))))))
  refine PySem.W.KFB.if_not other (wpAny_bind (m := Builtin.List.listAllItems (.ref q) _) ?_)
  unfold Builtin.List.listAllItems; refine wpAny_bind (wpAny_typeOf lq.typeIs (PySem.W.KFB.if_so (by decide) ?_))
  unfold Builtin.List.listItems; refine wpAny_bind (wpAny_seqItems hq rfl (wpAny_pure (wpAny_bind (wpAny_bind (wpAny_seqItems hp rfl (wpAny_pure ?_))))))
  refine wpAny_bind (wpAny_of_eq ((sliceIndices_raw none none none old.size (by simp)).trans (congrArg (pure : Int × Int × Int → Sem (Int × Int × Int)) whole_bounds)) ?_)
  show wpAny _ _ (if ((1 : Int) == 1) = true then _ else _) _ _ sh; rw [if_pos (by decide)]
  refine wpAny_bind (wpAny_rule (PySem.W.KFB.if_not (notLongL fits) ?_))
  first | refine wpAny_bind (wpAny_pure ?_) | (skip; skip)
  show wpAny _ _ (updateSeq p (fun xs => xs.extract 0 (((0 : Nat) : Int)).toNat ++ fresh ++ xs.extract (max ((0 : Nat) : Int) (old.size : Int)).toNat xs.size) >>= _) _ _ sh; rw [upTo, Int.toNat_natCast]
  refine wpAny_bind (wpAny_updateSeq (hz := Nat.le_trans (Nat.le_add_right _ _) fits) (_hz' := grows) hp rfl (wpAny_bind (wpAny_letGo ?_)))
  first | exact wpAny_bind (wpAny_pure (wpAny_pure ⟨.none, rfl, wpAny_pure k⟩)) | exact wpAny_pure ⟨.none, rfl, wpAny_pure k⟩
end
def gAll (to : TE) : TG := fun v σ H Q => to σ H fun x H1 => ∃ l b, x = .ref l ∧ v = .ref b ∧ l ≠ b ∧ lstAt H1 l fun xs => lstAt H1 b fun ys => xs.length + ys.length ≤ sizeLine ∧ Q σ (upd H1 l (.lst ys))
section
variable {X : Cx}
theorem pg_all {o : Expr} {to : TE} {p2 pos : Pos} (ho : PE X o to)
    (shape : ∀ v, assign (.Subscript o (.Slice none none none p2) pos) X.env v = (do let ov ← holding [v] (eval o X.env); let iv ← holding [v, ov] (eval (.Slice none none none p2) X.env); standAt pos; holding [v, ov, iv] (setItem ov iv v); release [iv, v, ov] []) := by intro _; rfl) : PG X (.Subscript o (.Slice none none none p2) pos) (gAll to) := by
  refine ⟨fun pins sh σ H v u Q inv rel ask => ?_⟩
  rw [shape]; refine wpAny_bind (wpAny_holding (thn (ho.run pins sh σ H _ inv ask) fun ov s1 hh => ?_))
  obtain ⟨x, H1, I1, r1, l, b, rfl, rfl, hne, q1⟩ := hh
  obtain ⟨xs, hx, q1⟩ := lstAt_get q1
  obtain ⟨ys, hy, hz, q1⟩ := lstAt_get q1
  cases r1
  cases rel
  refine wpAny_bind (wpAny_holding (wpAny_Slice ?_)); rw [evalPart_none]
  refine wpAny_pure (wpAny_pure (wpAny_pure ?_))
  have I4 : Inv X pins σ H1 { s1 with heap := s1.heap.push { cls := .type "slice", data := .fields #[.none, .none, .none] } } := I1.kept (t' := s1.toks) fun b ob q => Heap.get?_push_of_some _ q
  obtain ⟨_, its, n, rv, hl, e⟩ := I4.lstM hx
  obtain ⟨z2, its2, n2, r2, hl2, e2⟩ := I4.lstM hy
  refine wpAny_bind (wpAny_standAt (wpAny_bind (wpAny_holding (set_whole e e2 hne (Heap.IsSliceOf.new ..) .none .none (by rw [List.size_toArray, List.size_toArray]; omega) ?_))))
  refine wpAny_release ⟨σ, _, I4.lset (its' := its2) (t' := s1.toks) hx e ?_ r2 z2, q1⟩
  apply Array.ext'; simp
/-- sorted(d), d a dict of int keys, of any length -/
def rSortD : List V → Hp → VK → Prop := fun xs H Q => ∃ (a : Addr), xs = [.ref a] ∧ dcAt H a fun kvs => ∃ (ks : List Int), kvs.map (·.1) = ks.map Sum.inl ∧
    ∀ (ys : List Int) (p : Addr), ys.Perm ks → ys.Pairwise (· ≤ ·) → H p = none → Q (.ref p) (upd H p (.lst (ys.map V.int)))
theorem keys_ints {acc : Array Value} {vs : List (Key × Value)} {ks : List Int} (hk : vs.map (·.1) = ks.map Sum.inl) (sz : acc.size = vs.length) (each : ∀ (j : Nat) (u : Value), acc[j]? = some u → ∃ (k : Key) (x : _), vs[j]? = some (k, x) ∧ keyIs k u = true) : IntsAre acc.toList ks := by
  have lens : vs.length = ks.length := by simpa using congrArg List.length hk
  refine ints_each (by rw [Array.length_toList, sz, lens]) fun j u hu => ?_
  obtain ⟨k, x, here, is⟩ := each j u (by rw [← Array.getElem?_toList]; exact hu)
  have at_j : (ks.map Sum.inl)[j]? = some k := by rw [← hk, List.getElem?_map, here]; rfl
  rw [List.getElem?_map] at at_j
  obtain ⟨y, hy, same⟩ := Option.map_eq_some_iff.mp at_j
  subst same
  rcases keyIs_shape is with ⟨i, t, c, d⟩ | ⟨z, t, c, d⟩ <;> cases c
  exact ⟨_, t, hy, d⟩
theorem call_sortD (calm : X.calm = true) : CallR X (.builtin "sorted") rSortD := by
  intro pins sh σ H xs us Q inv rel ask
  obtain ⟨a, rfl, ask⟩ := ask
  obtain ⟨kvs, here, ks, hks, ask⟩ := dcAt_get ask
  obtain ⟨u, rfl, ra⟩ := vals1 rel
  cases ra
  obtain ⟨small, lo, vs, kv, dd⟩ := dk_rd inv.hok (.inl here)
  obtain ⟨ep, hat⟩ := dd.dictAt
  have vk : vs.map (·.1) = ks.map Sum.inl := kv.keys.symm.trans hks
  have l1 : vs.length = ks.length := by simpa using congrArg List.length vk
  have l2 : kvs.length = ks.length := by simpa using congrArg List.length hks
  refine Calls.call_function_entry kind_sorted plain_sorted entry_sorted (args_sorted1 (.ref a)) ?_
  unfold Builtin.«sorted»; refine wpAny_bind (m := checkCount "sorted" 1 1 _) (wpAny_pure (wpAny_bind ?_))
  refine PySem.W.kdu_collect (A := X.A.in1) (PySem.W.kdl_dict (knd := mixKind X.prog X.w) (kvs := vs) (ep := ep) lo) (inv.ok.hd calm) hat (by omega) fun h' tk acc kept got => ?_
  have nums := keys_ints vk got.1 got.2
  have fits : acc.toList.length ≤ sizeLine := by rw [Array.length_toList, got.1]; omega
  have I1 : Inv X pins σ H { sh with heap := h', toks := tk } := inv.kept kept
  refine wpAny_bind (wpAny_newList (wpAny_bind (wpAny_holding ?_)) fits)
  have new : (h'.push (seqObj "list" acc.toList.toArray 0)).get? h'.objs.size = some (seqObj "list" acc.toList.toArray 0) := Heap.get?_push_size _ rfl
  refine wpAny_call_entry (s := { sh with heap := h'.push (seqObj "list" acc.toList.toArray 0), toks := tk }) slot_list_sort ⟨_, new, rfl⟩ entry_list_sort (SrtO.list_sort_ord SrtO.swo_int new fits (fun two => SrtO.ints_sortable nums two) fun out o1 o2 => ⟨_, rfl, ?_⟩) (args_list_sort _)
  obtain ⟨k1, k2, k3⟩ := SrtO.ints_out nums o1 o2
  obtain ⟨e', he'⟩ := sortedHeap_at (vs := acc.toList) (out := out.toArray) new
  refine wpAny_pure ⟨_, rfl, .ref h'.objs.size, upd H h'.objs.size (.lst ((out.map SrtO.iv).map V.int)), I1.laid (t' := tk) (fun b u e => ?_) (Nat.le_refl _) ⟨by rw [List.length_map, k2.length_eq, ← l2]; exact small, out, e', vals_of_ints k1, he'⟩, rfl, ask _ _ k2 k3 (I1.hok.fresh (Nat.le_refl _))⟩
  have lt : b < h'.objs.size := Heap.lt_size e
  rw [sortedHeap_old (Nat.ne_of_lt lt) (by rw [size_push']; exact Nat.lt_succ_of_lt lt)]; exact Heap.get?_push_of_some _ e
/-- d.get(k) -/
def tDGetM (td ty : TE) : TE := fun σ H Q => td σ H fun x H1 => ∃ a, x = .ref a ∧ (dcAt H1 a fun _ => True) ∧ ty σ H1 fun y H2 => ∃ k, keyOf y = some k ∧ dcAt H2 a fun kvs => Q ((valV kvs k).getD .non) H2
theorem pe_dgetM {o e : Expr} {apos cpos : Pos} {td ty : TE} (hu : X.A.units + 1 < cLine) (ho : PE X o td) (he : PE X e ty) (m : M1 X o "get" apos e cpos) : PE X (.Call (.Attribute o "get" apos) [e] [] cpos) (tDGetM td ty) := by
  refine ⟨fun pins sh σ H Q inv ask => wpAny_Call_method m.base m.few m.line PySem.F.plainAttrs_dict PySem.F.slot_dict_get PySem.F.type_dict_get (thn (ho.run pins sh σ H _ inv ask) fun u s1 hh => ?_)⟩
  obtain ⟨x, H1, I1, rx, a, rfl, d, q1⟩ := hh
  cases rx
  obtain ⟨kvs0, hd0, _⟩ := dcAt_get d
  obtain ⟨t1, t2, _⟩ := isD_at I1 (.inl ⟨kvs0, .inl hd0⟩)
  refine ⟨t1, t2, ?_⟩; rw [m.trees]
  refine Calls.callWith_builtin rfl (Calls.evalArgs_plain (Calls.spliced_cons (thn (he.run pins s1 σ H1 _ I1 q1) fun iv s2 hh => Calls.spliced_nil ?_)))
  obtain ⟨y, H2, I2, ry, k, hk, q2⟩ := hh
  obtain ⟨kvs, hd, q3⟩ := dcAt_get q2
  obtain rfl := keyOf_kV hk
  exact d_get1 hu I2 (.k hd) ry fun w' s3 I3 rw' => ⟨_, H2, I3, rw', q3⟩
end
/-- o.m() that may raise -/
def tMethE0 (C : Addr) (m : Str) (sp : Sp) (E : L2.St → XK) (ta : TE) : TE := fun σ H Q => ta σ H fun x H1 => ∃ a dx fs, x = .ref a ∧ H1 a = some (.ins C dx fs) ∧ fs.lookup m = none ∧ sp [x] H1 Q (E σ)
theorem pe_methE0 {X : Cx} {CX : CXT} {k : Nat} {C f : Addr} {fd : FuncData} {ps : List Str} {m : Str} {sp : Sp} {E : L2.St → XK} {o : Expr} {ta : TE} {apos pos : Pos} {pl : Sem Bool} (he : PE X o ta) (c : Cls X.K C) (hm : Meth X.K C m f)
    (F : FnOk X.prog X.w X.K X.mg X.base CX k f fd ps sp) (hr : Room k X.A) (hb : Binds X.K fd ps []) (hx : ∀ σ, PassesAt CX X σ (E σ))
    (ht : eval (.Call (.Attribute o m apos) [] [] pos) X.env = (do let ov ← eval o X.env; standAt apos.atName; let (f, first) ← holding [ov] (getMethod ov m pl); callWith pos f first (backTo pos (starEach [] X.env)) (backToKw pos (keywordEach [] X.env))) := by rfl) :
    PE X (.Call (.Attribute o m apos) [] [] pos) (tMethE0 C m sp E ta) := by
  refine ⟨fun pins sh σ H Q inv ask => PySem.W.methodCall_KW (pl := pl) (thn (he.run pins sh σ H _ inv ask) fun u1 s1 hh => ?_) ht⟩
  obtain ⟨x, H1, I1, rx, a, dx, fs, rfl, ea, l, q⟩ := hh
  cases rx
  exact getmeth_ok I1 ea c hm l (PySem.W.callWith_K0 (first := [.ref a]) I1.kIn hm.kp (run_fnS (us := [.ref a]) (vs := [.ref a]) F hr hb (hx σ) I1 (.cons rfl .nil) q))

/-! ### comprehensions and loops, whose parts leave the heap as it is -/
inductive LcR (b : Nat → Bool) (Y : Nat → V → Prop) : Nat → List V → Prop
  | nil : LcR b Y 0 []
  | yes {i ys y} : LcR b Y i ys → b i = true → Y i y → LcR b Y (i + 1) (ys ++ [y])
  | no {i ys} : LcR b Y i ys → b i = false → LcR b Y (i + 1) ys
theorem LcR.len {b Y n ys} (h : LcR b Y n ys) : ys.length ≤ n := by
  induction h with
  | nil => exact Nat.le_refl _
  | yes h _ _ ih =>
    rw [List.length_append]
    show _ + 1 ≤ _
    omega
  | no h _ ih => omega
theorem LcR.map {b : Nat → Bool} {f : Nat → V} {n ys} (h : LcR b (fun i y => y = f i) n ys) : ys = ((List.range n).filter b).map f := by
  induction h with
  | nil => rfl
  | yes h hb hy ih =>
    rw [List.range_succ, List.filter_append, List.map_append, ← ih, List.filter_cons, if_pos hb, hy]
    rfl
  | no h hb ih =>
    rw [List.range_succ, List.filter_append, List.map_append, ← ih, List.filter_cons, if_neg (by rw [hb]; decide)]
    simp
theorem LcR.all {Y : Nat → V → Prop} {n ys} (h : LcR (fun _ => true) Y n ys) : ys.length = n ∧ ∀ i y, ys[i]? = some y → Y i y := by
  generalize hb : (fun _ : Nat => true) = b at h
  induction h with
  | nil => exact ⟨rfl, fun i y h => by simp at h⟩
  | @yes i ys y h _ hy ih =>
    obtain ⟨e, g⟩ := ih
    refine ⟨by rw [List.length_append, e]; rfl, fun j z hz => ?_⟩
    by_cases c : j < ys.length
    · rw [List.getElem?_append_left c] at hz
      exact g j z hz
    · rw [List.getElem?_append_right (by omega)] at hz
      have : j - ys.length = 0 := by
        have := (List.getElem?_eq_some_iff.mp hz).1
        simp at this
        omega
      rw [this] at hz
      have e2 : y = z := by simpa using hz
      have e3 : j = i := by omega
      rw [e3, ← e2]
      exact hy
  | no h hb2 ih =>
    subst hb
    cases hb2
/-- all values are ints -/
theorem LcR.ints {P : Nat → Int → Prop} {b n ys} (h : LcR b (fun i y => ∃ z, y = .int z ∧ P i z) n ys) : ∃ zs : List Int, ys = zs.map V.int := by
  induction h with
  | nil => exact ⟨[], rfl⟩
  | yes h _ hy ih =>
    obtain ⟨zs, e⟩ := ih
    obtain ⟨z, e2, _⟩ := hy
    exact ⟨zs ++ [z], by rw [e, e2, List.map_append]; rfl⟩
  | no h _ ih => exact ih
theorem lc_rngI {ta : TA} {tt : TT} {te : TE} {c : Nat} {σ : L2.St} {H : Hp} {Q : VK} (n : Nat) (b : Nat → Bool) (Y : Nat → V → Prop) (hta : ∀ R : List V → Hp → Prop, R [.int (n : Int)] H → ta σ H R) (hn : n ≤ 100000)
    (hb : ∀ i H' (R : Bool → Hp → Prop), i < n → Same H H' → R (b i) H' → tt ((σ.set c none).set c (some (.int (i : Int)))) H' R) (he : ∀ i H' (R : VK), i < n → b i = true → Same H H' → (∀ y, Y i y → R y H') → te ((σ.set c none).set c (some (.int (i : Int)))) H' R)
    (k : ∀ D ys, H D = none → LcR b Y n ys → Q (.ref D) (upd H D (.lst ys))) : tLc (iRng1 ta) (gName c) tt te [c] σ H Q := by
  refine hta _ ⟨n, rfl, by omega, by omega, fun D hD => ?_⟩
  rw [Int.toNat_natCast]
  refine lc_range (fun i H' => ∃ ys, LcR b Y i ys ∧ H' = upd H D (.lst ys)) ⟨[], .nil, rfl⟩ ?_ ?_
  · rintro i H' hi ⟨ys, hr, rfl⟩
    rw [Int.zero_add]
    have sm : Same H (upd H D (.lst ys)) := same_new hD
    have szl : (100000 : Nat) < sizeLine := by decide
    have hl := hr.len
    refine ⟨?_, hb i _ _ hi sm ?_⟩
    · show List.set (List.set (List.set σ c none) c _) c none = List.set σ c none
      rw [List.set_set, List.set_set]
    · by_cases hc : b i = true
      · rw [if_pos hc]
        refine he i _ _ hi hc sm fun y hy => ⟨ys, upd_same, by omega, ys ++ [y], hr.yes hc hy, by rw [upd_upd]⟩
      · rw [if_neg hc]
        exact ⟨ys, hr.no (by simpa using hc), rfl⟩
  · rintro H' ⟨ys, hr, rfl⟩
    exact k D ys hD hr
theorem lc_lstI {K : PySem.W.Frag} {tl : TE} {tt : TT} {te : TE} {c : Nat} {σ : L2.St} {H : Hp} {Q : VK} {a : Addr} (xs : List V) (b : Nat → Bool) (Y : Nat → V → Prop) (htl : ∀ R : V → Hp → Prop, R (.ref a) H → tl σ H R) (ha : SqL K H a xs) (hn : xs.length ≤ 100000)
    (hb : ∀ i x H' (R : Bool → Hp → Prop), xs[i]? = some x → Same H H' → R (b i) H' → tt ((σ.set c none).set c (some x)) H' R) (he : ∀ i x H' (R : VK), xs[i]? = some x → b i = true → Same H H' → (∀ y, Y i y → R y H') → te ((σ.set c none).set c (some x)) H' R)
    (k : ∀ D ys, H D = none → LcR b Y xs.length ys → Q (.ref D) (upd H D (.lst ys))) : tLc (iList K tl) (gName c) tt te [c] σ H Q := by
  refine htl _ ⟨a, rfl, ⟨_, ha⟩, fun D hD => lc_list (K := K) (a := a) (xs := xs) (fun i H' => ∃ ys, LcR b Y i ys ∧ H' = upd H D (.lst ys)) ⟨[], .nil, rfl⟩ ?_ ?_ ?_⟩
  · rintro i H' _ ⟨ys, hr, rfl⟩
    exact (same_new hD).seq ha
  · rintro i x H' hx ⟨ys, hr, rfl⟩
    have sm : Same H (upd H D (.lst ys)) := same_new hD
    have szl : (100000 : Nat) < sizeLine := by decide
    have hl := hr.len
    have hi := (List.getElem?_eq_some_iff.mp hx).1
    refine ⟨?_, hb i x _ _ hx sm ?_⟩
    · show List.set (List.set (List.set σ c none) c _) c none = List.set σ c none
      rw [List.set_set, List.set_set]
    · by_cases hc : b i = true
      · rw [if_pos hc]
        refine he i x _ _ hx hc sm fun y hy => ⟨ys, upd_same, by omega, ys ++ [y], hr.yes hc hy, by rw [upd_upd]⟩
      · rw [if_neg hc]
        exact ⟨ys, hr.no (by simpa using hc), rfl⟩
  · rintro H' ⟨ys, hr, rfl⟩
    exact k D ys hD hr
/-- for x in reversed(xs) -/
theorem for_revL {K : PySem.W.Frag} {ta : TA} {g : TG} {tb : TS} {D : Ends} {σ : L2.St} {H H0 : Hp} {a : Addr} (xs : List V) (hta : ∀ R : List V → Hp → Prop, R [.ref a] H0 → ta σ H R) (Pv : Nat → L2.St → Hp → Prop) (hp : Pv 0 σ H0) (hl : ∀ i σ H, i ≤ xs.length → Pv i σ H → SqL K H a xs)
    (hs : ∀ i x σ H, i < xs.length → xs[xs.length - 1 - i]? = some x → Pv i σ H → g x σ H fun σ2 H2 => tb { D with nx := Pv (i + 1), ct := Pv (i + 1), bk := D.nx } σ2 H2) (hd : ∀ σ H, Pv xs.length σ H → D.nx σ H) : tFor (iRev K ta) g tb D σ H := by
  refine hta _ ⟨a, xs, rfl, hl 0 σ H0 (Nat.zero_le _) hp, fun i m σ H => m = xs.length - i ∧ i ≤ xs.length ∧ Pv i σ H, ⟨xs.length, by simp, Nat.zero_le _, hp⟩, ?_⟩
  rintro i m σ H ⟨rfl, hi, p⟩
  have q := hl i σ H hi p
  by_cases hlt : i < xs.length
  · have hx : xs[xs.length - 1 - i]? = some (xs[xs.length - 1 - i]'(by omega)) := List.getElem?_eq_getElem (by omega)
    refine .inr ⟨⟨hlt, xs, _, q, hx⟩, Pv (i + 1), fun σ' H' p' => ⟨xs.length - (i + 1), by omega, rfl, hlt, p'⟩, fun x H' y => ?_⟩
    obtain ⟨e, y⟩ := y
    subst e
    exact hs i x σ _ hlt (y xs q) p
  · have e : i = xs.length := by omega
    subst e
    exact .inl ⟨Nat.le_refl _, hd σ H p⟩
/-- list(xs), sorted(xs), sum(xs) of a tracked list -/
def rListM : List V → Hp → VK → Prop := fun vs H Q => ∃ p, vs = [.ref p] ∧ lstAt H p fun xs => ∀ l, H l = none → Q (.ref l) (upd H l (.lst xs))
def rSortM : List V → Hp → VK → Prop := fun vs H Q => ∃ p, vs = [.ref p] ∧ lstAt H p fun xs => ∃ ns : List Int, xs = ns.map V.int ∧ ∀ (ys : List Int) (q : Addr), ys.Perm ns → ys.Pairwise (· ≤ ·) → H q = none → Q (.ref q) (upd H q (.lst (ys.map V.int)))
section
variable {X : Cx}
theorem call_listM : CallR X (.type "list") rListM := by
  intro pins s σ H xs us Q I r h
  obtain ⟨p, e, h⟩ := h
  obtain ⟨ys, hp, q⟩ := lstAt_get h
  exact call_list_of pins s σ H xs us Q I r ⟨p, ys, e, .inl (.inl (.inl hp)), q⟩
theorem cr_sortM : CallR X (.builtin "sorted") rSortM := by
  intro pins s σ H xs us Q I r h
  obtain ⟨p, e, h⟩ := h
  obtain ⟨ys, hp, ns, e2, q⟩ := lstAt_get h
  subst e2
  exact cr_sortedI pins s σ H xs us Q I r ⟨p, ns, e, .inl (.inl hp), q⟩
end
/-- two ascending lists of the same ints are one -/
theorem sorted_eq : ∀ {xs ys : List Int}, xs.Perm ys → xs.Pairwise (· ≤ ·) → ys.Pairwise (· ≤ ·) → xs = ys
  | [], ys, h, _, _ => h.nil_eq
  | x :: xs, [], h, _, _ => by simpa using h.length_eq
  | x :: xs, y :: ys, h, hx, hy => by
    have e : x = y := by
      have h1 : x ∈ y :: ys := h.mem_iff.mp (List.mem_cons_self ..)
      have h2 : y ∈ x :: xs := h.mem_iff.mpr (List.mem_cons_self ..)
      have p1 := List.pairwise_cons.mp hx
      have p2 := List.pairwise_cons.mp hy
      rcases List.mem_cons.mp h1 with e | h1
      · exact e
      · rcases List.mem_cons.mp h2 with e | h2
        · exact e.symm
        · have a := p1.1 y h2
          have b := p2.1 x h1
          omega
    subst e
    rw [sorted_eq (List.Perm.cons_inv h) (List.pairwise_cons.mp hx).2 (List.pairwise_cons.mp hy).2]
theorem flat_ints (xs : List Int) : (xs.map V.int).all flatV = true := by
  rw [List.all_eq_true]
  intro x hx
  obtain ⟨n, _, rfl⟩ := List.mem_map.mp hx
  rfl
theorem inV_int {x : Int} {xs : List Int} : inV (.int x) (xs.map V.int) = decide (x ∈ xs) := by
  unfold inV
  induction xs with
  | nil => simp
  | cons y ys ih =>
    rw [List.map_cons, List.any_cons, ih]
    show (decide (y = x) || decide (x ∈ ys)) = _
    by_cases h : x = y
    · subst h
      simp
    · have h2 : ¬ y = x := fun e => h e.symm
      simp [h, h2]
def rSumM : List V → Hp → VK → Prop := fun vs H Q => ∃ p, vs = [.ref p] ∧ lstAt H p fun xs => ∃ ns : List Int, xs = ns.map V.int ∧ Q (.int ns.sum) H
theorem call_sumM {X : Cx} (hc : X.calm = true) : CallR X (.builtin "sum") rSumM := by
  intro pins sh σ H xs us Q inv rel ask
  obtain ⟨p, e, ask⟩ := ask
  obtain ⟨ys, hp, ns, e2, q⟩ := lstAt_get ask
  subst e2
  exact cr_sum hc pins sh σ H xs us Q inv rel ⟨p, ns, e, .inl (.inl hp), q⟩
/-- isinstance(x, dict), x a tracked dict -/
def rIsD : List V → Hp → VK → Prop := fun xs H Q => ∃ p, xs = [.ref p, .ty "dict"] ∧ dcAt H p fun _ => Q (.bl true) H
theorem call_isD {X : Cx} : CallR X (.builtin "isinstance") rIsD := by
  intro pins sh σ H xs us Q inv rel ask
  obtain ⟨p, rfl, ask⟩ := ask
  obtain ⟨kvs, hp, q⟩ := dcAt_get ask
  exact call_isi pins sh σ H _ us Q inv rel ⟨.ref p, .ty "dict", .type "dict", .type "dict", true, rfl, .ty "dict", .base (.dK hp), kit_ty rfl, q⟩
theorem lc_keysI {td : TE} {tt : TT} {te : TE} {c : Nat} {σ : L2.St} {H : Hp} {Q : VK} {d : Addr} {od : Obj} (kvs : List (Key × V)) (b : Nat → Bool) (Y : Nat → V → Prop) (htd : ∀ R : V → Hp → Prop, R (.ref d) H → td σ H R) (hd : H d = some (.frz od (.dK kvs))) (hn : kvs.length ≤ 100000)
    (hb : ∀ i k v H' (R : Bool → Hp → Prop), kvs[i]? = some (k, v) → Same H H' → R (b i) H' → tt ((σ.set c none).set c (some (kV k))) H' R) (he : ∀ i k v H' (R : VK), kvs[i]? = some (k, v) → b i = true → Same H H' → (∀ y, Y i y → R y H') → te ((σ.set c none).set c (some (kV k))) H' R)
    (k : ∀ D ys, H D = none → LcR b Y kvs.length ys → Q (.ref D) (upd H D (.lst ys))) : tLc (iKeys td) (gName c) tt te [c] σ H Q := by
  refine htd _ ⟨d, od, rfl, .inl ⟨kvs, hd, fun D hD => ?_⟩⟩
  have sm : ∀ ys, Same H (upd H D (.lst ys)) := fun ys => same_new hD
  refine ⟨fun i m H' => m = kvs.length - i ∧ i ≤ kvs.length ∧ ∃ ys, LcR b Y i ys ∧ H' = upd H D (.lst ys), ⟨_, rfl, Nat.zero_le _, [], .nil, rfl⟩, ?_⟩
  rintro i m H' ⟨rfl, hi, ys, hr, rfl⟩
  have hd' := sm ys _ _ hd
  by_cases hlt : i < kvs.length
  · refine .inr ⟨⟨hd', hlt⟩, fun H2 => ∃ ys, LcR b Y (i + 1) ys ∧ H2 = upd H D (.lst ys), fun H2 h2 => ⟨kvs.length - (i + 1), by omega, rfl, hlt, h2⟩, fun x H2 hy => ?_⟩
    obtain ⟨rfl, key, v, hkv, rfl⟩ := hy
    have szl : (100000 : Nat) < sizeLine := by decide
    have hl := hr.len
    refine ⟨?_, hb i key v _ _ hkv (sm ys) ?_⟩
    · show List.set (List.set (List.set σ c none) c _) c none = List.set σ c none
      rw [List.set_set, List.set_set]
    · by_cases hc : b i = true
      · rw [if_pos hc]
        refine he i key v _ _ hkv hc (sm ys) fun y hy => ⟨ys, upd_same, by omega, ys ++ [y], hr.yes hc hy, by rw [upd_upd]⟩
      · rw [if_neg hc]
        exact ⟨ys, hr.no (by simpa using hc), rfl⟩
  · have e : i = kvs.length := by omega
    subst e
    exact .inl ⟨⟨hd', Nat.le_refl _⟩, k D ys hD hr⟩
theorem lc_rng2I {ta : TA} {tt : TT} {te : TE} {c : Nat} {σ : L2.St} {H : Hp} {Q : VK} (lo hi : Int) (b : Nat → Bool) (Y : Nat → V → Prop) (hta : ∀ R : List V → Hp → Prop, R [.int lo, .int hi] H → ta σ H R) (h1 : -1000000 ≤ lo ∧ lo ≤ 1000000) (h2 : -1000000 ≤ hi ∧ hi ≤ 1000000) (hn : hi - lo ≤ 100000)
    (hb : ∀ (i : Nat) H' (R : Bool → Hp → Prop), lo + (i : Int) < hi → Same H H' → R (b i) H' → tt ((σ.set c none).set c (some (.int (lo + (i : Int))))) H' R) (he : ∀ (i : Nat) H' (R : VK), lo + (i : Int) < hi → b i = true → Same H H' → (∀ y, Y i y → R y H') → te ((σ.set c none).set c (some (.int (lo + (i : Int))))) H' R)
    (k : ∀ D ys, H D = none → LcR b Y (hi - lo).toNat ys → Q (.ref D) (upd H D (.lst ys))) : tLc (iRng2 ta) (gName c) tt te [c] σ H Q := by
  refine hta _ ⟨lo, hi, rfl, ⟨by omega, by omega, by omega, by omega⟩, fun D hD => ?_⟩
  refine lc_range (fun i H' => ∃ ys, LcR b Y i ys ∧ H' = upd H D (.lst ys)) ⟨[], .nil, rfl⟩ ?_ ?_
  · rintro i H' hi2 ⟨ys, hr, rfl⟩
    have sm : Same H (upd H D (.lst ys)) := same_new hD
    have szl : (100000 : Nat) < sizeLine := by decide
    have hl := hr.len
    refine ⟨?_, hb i _ _ (by omega) sm ?_⟩
    · show List.set (List.set (List.set σ c none) c _) c none = List.set σ c none
      rw [List.set_set, List.set_set]
    · by_cases hc : b i = true
      · rw [if_pos hc]
        refine he i _ _ (by omega) hc sm fun y hy => ⟨ys, upd_same, by omega, ys ++ [y], hr.yes hc hy, by rw [upd_upd]⟩
      · rw [if_neg hc]
        exact ⟨ys, hr.no (by simpa using hc), rfl⟩
  · rintro H' ⟨ys, hr, rfl⟩
    exact k D ys hD hr
theorem lc_lstN {K : PySem.W.Frag} {tl : TE} {tt : TT} {te : TE} {c : Nat} {σ : L2.St} {H : Hp} {Q : VK} (xs : List V) (b : Nat → Bool) (Y : Nat → V → Prop) (htl : ∀ R : V → Hp → Prop, (∀ p H0, Same H H0 → SqL K H0 p xs → R (.ref p) H0) → tl σ H R) (hn : xs.length ≤ 100000)
    (hb : ∀ i x H' (R : Bool → Hp → Prop), xs[i]? = some x → Same H H' → R (b i) H' → tt ((σ.set c none).set c (some x)) H' R) (he : ∀ i x H' (R : VK), xs[i]? = some x → b i = true → Same H H' → (∀ y, Y i y → R y H') → te ((σ.set c none).set c (some x)) H' R)
    (k : ∀ H0 D ys, Same H H0 → H0 D = none → LcR b Y xs.length ys → Q (.ref D) (upd H0 D (.lst ys))) : tLc (iList K tl) (gName c) tt te [c] σ H Q :=
  htl _ fun p H0 sm0 hq => lc_lstI (K := K) (tl := fun _ H Q => Q (.ref p) H) (a := p) xs b Y (fun R h => h) hq hn (fun i x H' R hx sm h => hb i x H' R hx (fun b u e => sm _ _ (sm0 _ _ e)) h) (fun i x H' R hx ht sm h => he i x H' R hx ht (fun b u e => sm _ _ (sm0 _ _ e)) h) (fun D ys hD hy => k H0 D ys sm0 hD hy)
theorem range_all {α : Type} (g : α → V) (bs : List α) : (List.range bs.length).map (fun i => (bs[i]?.map g).getD .non) = bs.map g := by
  apply List.ext_getElem
  · simp
  · intro i h1 h2
    simp at h1
    simp [h1]

/-! ### a dict copied by a comprehension over its items -/
theorem valV_take {kvs : List (Key × V)} (nd : (kvs.map (·.1)).Nodup) {i : Nat} {k : Key} {v : V} (h : kvs[i]? = some (k, v)) : valV (kvs.take i) k = none := by
  unfold valV
  rw [Option.map_eq_none_iff, List.find?_eq_none]
  intro p hp
  rw [decide_eq_true_eq]
  intro e
  obtain ⟨j, hj⟩ := List.mem_iff_getElem?.mp hp
  have jl := (List.getElem?_eq_some_iff.mp hj).1
  rw [List.length_take] at jl
  rw [List.getElem?_take, if_pos (by omega)] at hj
  have a1 : (kvs.map (·.1))[j]? = some k := by rw [List.getElem?_map, hj, ← e]; rfl
  have a2 : (kvs.map (·.1))[i]? = some k := by rw [List.getElem?_map, h]; rfl
  obtain ⟨l1, g1⟩ := List.getElem?_eq_some_iff.mp a1
  obtain ⟨l2, g2⟩ := List.getElem?_eq_some_iff.mp a2
  have := (List.getElem_inj nd).mp (g1.trans g2.symm)
  omega
theorem dc_items {K : PySem.W.Frag} {td : TE} {c1 c2 : Nat} {σ : L2.St} {H : Hp} {Q : VK} {d : Addr} (kvs : List (Key × V)) (htd : ∀ od (R : V → Hp → Prop), R (.ref d) (upd H d (.frz od (.dK kvs))) → td σ (upd H d (.frz od (.dK kvs))) R)
    (hd : H d = some (.dK kvs)) (nd : (kvs.map (·.1)).Nodup) (hn : kvs.length ≤ 100000) (h1 : c1 < σ.length) (h2 : c2 < σ.length) (ne : c1 ≠ c2)
    (k : ∀ D H', Same H H' → H D = none → H' D = some (.dK kvs) → Q (.ref D) H') :
    tLockE (tDc (iItems td) (gTup K 2 (gCons (gName c1) (gCons (gName c2) gNil))) tYes (tVar c1) (tVar c2) [c1, c2]) σ H Q := by
  refine ⟨d, .dK kvs, hd, trivial, fun od => ?_⟩
  refine htd od _ ⟨d, od, kvs, rfl, upd_same, fun D hD => ?_⟩
  have dD : D ≠ d := fun e => by
    rw [e, upd_same] at hD
    cases hD
  have hD0 : H D = none := by
    rw [upd_ne dD] at hD
    exact hD
  have szl : (100000 : Nat) < sizeLine := by decide
  refine ⟨fun i m H' => m = kvs.length - i ∧ i ≤ kvs.length ∧ H' d = some (.frz od (.dK kvs)) ∧ H' D = some (.dK (kvs.take i)) ∧ ∀ b u, H b = some u → b ≠ d → H' b = some u, ⟨_, rfl, Nat.zero_le _, by rw [upd_ne (Ne.symm dD), upd_same], by rw [upd_same]; rfl, fun b u hb hbd => ?_⟩, ?_⟩
  · have : b ≠ D := fun e => by
      rw [e, hD0] at hb
      cases hb
    rw [upd_ne this, upd_ne hbd]
    exact hb
  rintro i m H' ⟨rfl, hi, e1, e2, sm⟩
  by_cases hlt : i < kvs.length
  · refine .inr ⟨⟨e1, hlt⟩, fun H2 => H2 d = some (.frz od (.dK kvs)) ∧ H2 D = some (.dK (kvs.take (i + 1))) ∧ ∀ b u, H b = some u → b ≠ d → H2 b = some u, fun H2 h => ⟨kvs.length - (i + 1), by omega, rfl, hlt, h⟩, fun x H2 hy => ?_⟩
    obtain ⟨T, key, v, hkv, rfl, hT, rfl⟩ := hy
    have nT : ∀ b u, H' b = some u → b ≠ T := fun b u hb e => by
      rw [e, hT] at hb
      cases hb
    have w1 : c1 < (wipe σ [c1, c2]).length := by rw [wipe_length]; exact h1
    have w2 : c2 < (wipe σ [c1, c2]).length := by rw [wipe_length]; exact h2
    refine ⟨T, [kV key, v], rfl, .inl (.inl upd_same), rfl, _, _, rfl, ?_⟩
    refine ⟨_, _, rfl, rfl, ?_, ?_⟩
    · show (((((σ.set c2 none).set c1 none).set c1 (some (kV key))).set c2 (some v)).set c2 none).set c1 none = (σ.set c2 none).set c1 none
      apply List.ext_getElem?
      intro j
      simp only [List.getElem?_set, List.length_set]
      repeat' split
      all_goals first | rfl | simp_all
    · simp only [tYes, if_true]
      refine ⟨kV key, ?_, v, ?_, kvs.take i, key, rfl, ?_, ?_, ?_, ?_, ?_⟩
      · rw [List.getElem?_set_ne (Ne.symm ne), List.getElem?_set_self w1]
      · rw [List.getElem?_set_self (by rw [List.length_set]; exact w2)]
      · rw [upd_ne (nT _ _ e2)]
        exact e2
      · have := List.length_take_le i kvs
        rw [List.length_take]
        omega
      · rw [upd_ne (Ne.symm dD), upd_ne (nT _ _ e1)]
        exact e1
      · rw [upd_same, putK_new _ (valV_take nd hkv), List.take_add_one, hkv]
        rfl
      · intro b u hb hbd
        have : b ≠ D := fun e => by
          rw [e, hD0] at hb
          cases hb
        rw [upd_ne this, upd_ne (nT _ _ (sm b u hb hbd))]
        exact sm b u hb hbd
  · have e : i = kvs.length := by omega
    subst e
    refine .inl ⟨⟨e1, Nat.le_refl _⟩, e1, k D _ (fun b u hb => ?_) hD0 ?_⟩
    · by_cases c : b = d
      · subst c
        rw [upd_same, ← hd, hb]
      · rw [upd_ne c]
        exact sm b u hb c
    · rw [upd_ne dD, e2, List.take_length]

/-! ### name = {..} by a dict comprehension -/
section
variable {X : Cx}
theorem sw_trueD {kx vx : Expr} {gs : List Comprehension} {scope : Scope} {pos py : Pos} {y : Str} {l : Nat} {env : Env} (hk : env.scope.kind = .function) (hy : env.scope.names.lookup y = some .local) (hl : (py.line == pos.line) = true)
    (ha : (scope.names.any fun (n, k) => n == y && (k == .local || k == .cell)) = false) : swapsWith (.DictComp kx vx gs scope pos) (some (.Name y py)) l env = pure true := by
  have ky : env.kindOf y = some .local := hy
  have hb : env.blockKind = .function := by unfold Env.blockKind; rw [hk]; rfl
  unfold swapsWith
  simp only [hb, ky, ha, Expr.pos, hl]
  rfl
theorem ps_setDc {i : Nat} {y : Str} {py : Pos} {kx vx tg iter : Expr} {ifs : List Expr} {scope : Scope} {own : List (Str × Nat)} {pos spos : Pos} {wi : TI} {g : TG} {tt : TT} {tk tv : TE} (hc : X.calm = true) (hN : X.N.Nodup) (hy : X.N[i]? = some y) (hyl : X.env.scope.names.lookup y = some .local)
    (hsw : swapsWith (.DictComp kx vx [⟨tg, iter, ifs, 0⟩] scope pos) (some (.Name y py)) spos.line X.env = pure true) (hi : PI X tg iter wi) (ok : BlkOk X.N X.env.scope scope own)
    (hg : ∀ (s : Shared) (H : Hp) (C : Addr) (cl : List (Str × Addr)) (fp : List Addr), PG (X.blk s H scope (compEnvC scope cl C X.env) fp) tg g) (ht : ∀ (s : Shared) (H : Hp) (C : Addr) (cl : List (Str × Addr)) (fp : List Addr), PTs (X.blk s H scope (compEnvC scope cl C X.env) fp) ifs tt)
    (hk : ∀ (s : Shared) (H : Hp) (C : Addr) (cl : List (Str × Addr)) (fp : List Addr), PE (X.blk s H scope (compEnvC scope cl C X.env) fp) kx tk)
    (he : ∀ (s : Shared) (H : Hp) (C : Addr) (cl : List (Str × Addr)) (fp : List Addr), PE (X.blk s H scope (compEnvC scope cl C X.env) fp) vx tv) (hs : ∀ x, foldedSetIterable iter X.env x = pure x := by intro _; rfl) :
    PS X (.Assign [.Name y py] (.DictComp kx vx [⟨tg, iter, ifs, 0⟩] scope pos) spos) (tAsg (tDc wi g tt tk tv (own.map (·.2))) (gName i)) := by
  refine ⟨fun pins s σ H D I h => ?_⟩
  rw [exec_Assign_Name_used _ _ _ _ hsw]
  refine wpAny_bind (wpAny_standAt (wpAny_bind ?_))
  show wpAny _ X.A (do let _ ← comprehension (.DictComp kx vx [⟨tg, iter, ifs, 0⟩] scope pos) scope X.env (firstIterPos [⟨tg, iter, ifs, 0⟩] pos) newDict false (eval iter X.env) (some (assign (.Name y py) X.env))) _ _ s
  have h : tDc wi g tt tk tv (own.map (·.2)) σ H (fun x H1 => gName i x σ H1 D.nx) := h
  refine wpAny_bind (thn (dc_core (Qf := fun _ s' => SP X pins D .next s') hc hN I hi ok hg ht hk he hs h fun L C s' m H' I' q hn f => ?_) fun _ s' hq => wpAny_pure (wpAny_pure hq))
  show wpAny _ _ (assign (.Name y py) X.env (.ref L)) _ _ _
  refine wpAny_assign_Name (store_ok2 (v := V.ref L) I' hN hy (.inl hyl) rfl (fun s2 I2 ⟨a, sb, ha⟩ => ?_) (.inr hyl))
  obtain ⟨f0, f1, f2, f3, f4, f5⟩ := f
  have haC : C ≠ a := by
    rcases ha with z | z
    · rw [z]; exact f1
    · exact fun e => f4 y a z e.symm
  refine ⟨m, hn.sameBut sb haC, fun h3 sb3 => ?_⟩
  exact ⟨_, H', I2.turned (t' := s2.toks) (fun b o hb e => (sb3.2 b hb).trans e) f0 f1 f3 f4 f5, q⟩
end
/-- the whole statement, the dict that is walked being locked -/
theorem t_lock_set {te : TE} {i : Nat} {D : Ends} {σ : L2.St} {H : Hp} (h : tLockE te σ H fun x H1 => D.nx (σ.set i (some x)) H1) : tLock (tAsg te (gName i)) D σ H := h
/-- a loop over a list that is made for it, of which something is known -/
theorem for_lstP {K : PySem.W.Frag} {tl : TE} {g : TG} {tb : TS} {D : Ends} {σ : L2.St} {H : Hp} (P : List V → Prop) (htl : ∀ R : V → Hp → Prop, (∀ p xs, P xs → H p = none → R (.ref p) (upd H p (.lst xs))) → tl σ H R) (Pv : Addr → List V → Nat → L2.St → Hp → Prop)
    (hp : ∀ p xs, P xs → H p = none → Pv p xs 0 σ (upd H p (.lst xs))) (hl : ∀ p xs i σ' H', H p = none → Pv p xs i σ' H' → H' p = some (.lst xs))
    (hs : ∀ p xs i x σ' H', P xs → H p = none → xs[i]? = some x → Pv p xs i σ' H' → g x σ' H' fun σ2 H2 => tb { D with nx := Pv p xs (i + 1), ct := Pv p xs (i + 1), bk := D.nx } σ2 H2) (hd : ∀ p xs σ' H', P xs → H p = none → Pv p xs xs.length σ' H' → D.nx σ' H') : tFor (iList K tl) g tb D σ H :=
  htl _ fun p xs hx h0 => ⟨p, rfl, ⟨xs, .inl (.inl upd_same)⟩, L2.for_list (K := K) (a := p) (xs := xs) (Pv p xs) (hp p xs hx h0) (fun i σ' H' _ h => .inl (.inl (hl p xs i σ' H' h0 h))) (fun i x σ' H' hx2 h => hs p xs i x σ' H' hx h0 hx2 h) (fun σ' H' h => hd p xs σ' H' hx h0 h)⟩
/-- a dict that is walked, or handed on, is locked from then on, if it is not yet -/
def tFrz (td : TE) : TE := fun σ H Q => td σ H fun x H1 => ∃ d, x = .ref d ∧ ((∃ u, H1 d = some u ∧ Mut (some u) ∧ ∀ od, Q x (upd H1 d (.frz od u))) ∨ Q x H1)
theorem pe_frz {X : Cx} {e : Expr} {td : TE} (h : PE X e td) : PE X e (tFrz td) := by
  refine ⟨fun pins s σ H Q I hw => ?_⟩
  refine thn (h.run pins s σ H _ I hw) fun v s1 ⟨x, H1, I1, r, d, ex, hh⟩ => ?_
  rcases hh with ⟨u, hd, mu, q⟩ | q
  · obtain ⟨od, I2⟩ := I1.lock hd mu
    exact ⟨x, _, I2, r, q od⟩
  · exact ⟨x, _, I1, r, q⟩
/-- for k in d: d a dict with int keys, which stays locked -/
theorem for_keysF {td : TE} {c : Nat} {tb : TS} {D : Ends} {σ : L2.St} {H : Hp} {d : Addr} {od : Obj} (kvs : List (Key × V)) (hd : H d = some (.frz od (.dK kvs))) (htd : ∀ (R : V → Hp → Prop), R (.ref d) H → td σ H R) (Pv : Nat → L2.St → Hp → Prop)
    (hp : Pv 0 σ H) (hl : ∀ i σ' H', Pv i σ' H' → H' d = some (.frz od (.dK kvs)))
    (hs : ∀ i k v σ' H', kvs[i]? = some (k, v) → Pv i σ' H' → tb { D with nx := Pv (i + 1), ct := Pv (i + 1), bk := D.nx } (σ'.set c (some (kV k))) H')
    (hx : ∀ σ' H', Pv kvs.length σ' H' → D.nx σ' H') : tFor (iKeys td) (gName c) tb D σ H := by
  refine htd _ ⟨d, od, rfl, .inl ⟨kvs, hd, ?_⟩⟩
  refine ⟨fun i m σ' H' => m = kvs.length - i ∧ i ≤ kvs.length ∧ Pv i σ' H', ⟨_, rfl, Nat.zero_le _, hp⟩, ?_⟩
  rintro i m σ' H' ⟨rfl, hi, p⟩
  have hd' := hl i σ' H' p
  by_cases hlt : i < kvs.length
  · refine .inr ⟨⟨hd', hlt⟩, Pv (i + 1), fun σ2 H2 q => ⟨kvs.length - (i + 1), by omega, rfl, hlt, q⟩, fun x H2 hy => ?_⟩
    obtain ⟨rfl, key, v, hkv, rfl⟩ := hy
    exact hs i key v σ' _ hkv p
  · have e : i = kvs.length := by omega
    subst e
    exact .inl ⟨⟨hd', Nat.le_refl _⟩, hx σ' H' p⟩

/-! ### walking a list while an exception is handled -/
section
variable {prog : Program} {w : World} {A : Around} {E : Value → Shared → Prop} {s : Shared}
theorem list_end_hot {it l x1 : Addr} {i : Nat} {items : Array Value} {Q : Option Value → Shared → Prop} (hot : HotX.HotAt A x1 s.heap) (hit : s.heap.IsListIter it l i) (hl : s.heap.IsList l items) (hx : items[i]? = none)
    (hQ : ∀ h', Heap.ExtBut it s.heap h' → Q none { s with heap := h' }) : wpAny (model prog w) A (pyNext (.ref it)) Q E s := by
  obtain ⟨o, ho, hc, hd⟩ := id hit
  obtain ⟨ol, hol, _, nl, hdl⟩ := hl
  obtain ⟨hh, o1, vs1, h1, d1, c1⟩ := hot
  have ne : x1 ≠ it := fun e => by
    rw [e, ho] at h1
    rw [← Option.some.inj h1, hd] at d1
    rw [← Data.fields.inj d1] at c1
    simp at c1
  unfold pyNext
  refine wpAny_bind (wpAny_attempt (wpAny_callSpecial?_slot (name := Str.ofString "__next__") hit.typeIs slot_listiter_next
    (wpAny_call_entry slot_listiter_next hit.typeIs entry_listiter_next ?_ (args_listiter_next _))))
  show wpAny _ _ (field (.ref it) 0 >>= _) _ _ s
  refine wpAny_bind (wpAny_field ho hd (x := .ref l) rfl ?_)
  show wpAny _ _ (if (Value.ref l == Value.none) = true then _ else _) _ _ s
  rw [if_neg (show ¬ ((Value.ref l == Value.none) = true) from Bool.false_ne_true)]
  show wpAny _ _ (field (.ref it) 1 >>= _) _ _ s
  refine wpAny_bind (wpAny_field ho hd (x := .int i 0) rfl ?_)
  show wpAny _ _ (seqItems? (.ref l) >>= _) _ _ s
  refine wpAny_bind (wpAny_seqItems hol hdl ?_)
  simp only [Int.toNat_natCast, hx]
  refine wpAny_bind (wpAny_rule (wpAny_bind (wpAny_setField ho hd (by simp) ?_)))
  show wpAny _ _ (newExc (.type "StopIteration") [] >>= _) _ _ _
  refine wpAny_bind ?_
  simp only [newExc, newTuple]
  refine wpAny_bind (wpAny_newObj_type ?_ (by size_fits))
  refine wpAny_bind (m := firstArgMember _ _) (wpAny_of_eq (a := Value.none) (by first | rfl | (simp only [firstArgMember]; rfl)) ?_)
  refine wpAny_newObj_type ?_ (by size_fits)
  have k1 := (Heap.get?_update_other s.heap (Obj.mapFields (·.setIfInBounds 0 .none)) (Ne.symm ne)).trans h1
  refine HotX.raiseNew_hot ⟨hh, o1, vs1, Heap.get?_push_of_some _ (Heap.get?_push_of_some _ k1), d1, c1⟩ (Nat.ne_of_lt (Heap.lt_size (Heap.get?_push_of_some _ k1))) (Heap.get?_push_size _ rfl) rfl (by first | (simp; done) | (simp; omega) | (simp only [Array.size_append]; simp; omega)) ?_
  refine wpAny_bind (wpAny_isInstance (T := "StopIteration") (b := true) ⟨_, Heap.get?_update_self _ (Heap.get?_push_size _ rfl) rfl, rfl⟩ isSubtype_stop ?_)
  refine wpAny_pure (hQ _ fun b o nb e => ?_)
  have e2 := (Heap.get?_update_other s.heap (Obj.mapFields (·.setIfInBounds 0 .none)) (Ne.symm nb)).trans e
  rw [Heap.get?_update_other _ _ (Nat.ne_of_gt (Heap.lt_size (Heap.get?_push_of_some _ e2)))]
  exact Heap.get?_push_of_some _ (Heap.get?_push_of_some _ e2)
end
theorem turn_listH {P : Program} {w : World} {K : PySem.W.Frag} {tg : Expr} (a it : Addr) : L2H.TurnH P w K tg (Itl K a) [it] it (fun i h => h.IsListIter it a i) where
  mem := by simp
  obj := fun i h st b hb => by
    rw [List.mem_singleton.mp hb]
    obtain ⟨o, e, _, d⟩ := st
    exact ⟨o, e, fun v z => by rw [d] at z; cases z⟩
  keep := fun i h h' st k => st.at fun o e => k it (by simp) o e
  item := by
    rintro X rfl rfl rfl hc i pins s σ H E I hf st ⟨xs, x, hq, hx⟩
    obtain ⟨its, rv, p, _⟩ := I.list hq
    obtain ⟨u, hu, ru⟩ := rv.get hx
    obtain ⟨f0, f1, f2, f3, f4, f5⟩ := hf it (by simp)
    refine wpAny_pyNext_list_item st p.isList (x := u) (by simpa using hu) fun h' st' sb => ?_
    have I1 : Inv X pins σ H { s with heap := h' } := I.turned (t' := s.toks) (fun b o hb e => (sb.2 b hb).trans e) f0 f1 f3 f4 f5
    obtain ⟨o, e, c, d⟩ := id st'
    exact ⟨u, rfl, go_of (s := { s with heap := h' }) e c d (by decide) ⟨x, H, I1, ru, ⟨rfl, fun ys hy => by rw [I.list_inj hy hq]; exact hx⟩, st', fun b hb => (hf b hb).1⟩⟩
  done := by
    rintro X rfl rfl rfl hc i pins s σ H E I hf st ⟨xs, hq, hx⟩
    obtain ⟨its, rv, p, _⟩ := I.list hq
    obtain ⟨f0, f1, f2, f3, f4, f5⟩ := hf it (by simp)
    obtain ⟨x1, hot⟩ := hc.at I
    have hl := rv.length
    exact list_end_hot hot st p.isList (by simp; omega) fun h' eb => ⟨rfl, I.turned (t' := s.toks) (fun b o hb e => eb b o hb e) f0 f1 f3 f4 f5⟩
  self := fun _ _ _ _ _ st h => wpAny_pyIter_listiter st h
section
variable {X : Cx} {tg : Expr}
theorem pi_listH {l : Expr} {tl : TE} (hl : PE X l tl) : L2H.PIH X tg l (iList X.K tl) := by
  refine ⟨fun pins s σ H R I h => ?_⟩
  refine thn (hl.run pins s σ H _ I h) fun v s1 ⟨x, H1, I1, r1, a, e, ⟨xs, hq⟩, q⟩ => ?_
  subst e
  cases r1
  obtain ⟨its, rv, p, _⟩ := I1.list hq
  refine wpAny_pyIter_list p.isList ⟨s1.heap.objs.size, [s1.heap.objs.size], _, _, H1, rfl, I1.kept (t' := s1.toks) fun b o e => Heap.get?_push_of_some _ e, turn_listH a _, ⟨_, Heap.get?_push_size _ rfl, rfl, rfl⟩, fun b hb => ?_, q⟩
  rw [List.mem_singleton.mp hb]
  exact I1.fpOk (Nat.le_refl _) (I1.hok.fresh (Nat.le_refl _))
end
/-! ### a comprehension's block while an exception is handled: what is handled is pinned there, too -/
section
variable {X : Cx}
theorem not_stack {p : Addr × Obj} {pins : List (Addr × Obj)} {σ : L2.St} {H : Hp} {s : Shared} (I : Inv X pins σ H s) (hp : p ∈ X.pn) : p.1 ∉ frs X.stack := by
  obtain ⟨_, _, nl, nf, _⟩ := I.pin p (List.mem_append_left _ hp)
  rcases I.ok.stk with e | ⟨e, ef⟩
  · rw [e]
    exact nf
  · rw [e]
    unfold frs
    rw [List.filterMap_cons, ef]
    intro z
    rcases List.mem_cons.mp z with z | z
    · exact nl z
    · exact nf z
/-- the block's context with what the def has pinned -/
abbrev blkH (X : Cx) (s : Shared) (H : Hp) (scope : Scope) (ce : Env) (fp : List Addr) : Cx := { X.blk s H scope ce fp with pn := X.pn }
theorem blk_up {s3 : Shared} {H3 : Hp} {scope : Scope} {ce : Env} {fp : List Addr} {pins pinsX : List (Addr × Obj)} {σ σX : L2.St} {H : Hp} {s : Shared} (I3 : Inv X pinsX σX H3 s3) (hl : s3.heap.objs.size ≤ ce.locals) (hf : ∀ p ∈ X.pn, p.1 ∉ fp)
    (I : Inv (X.blk s3 H3 scope ce fp) pins σ H s) : Inv (blkH X s3 H3 scope ce fp) pins σ H s := by
  obtain ⟨ok, os, bare, base, loc, cell, free, freeC, pin, hok, len⟩ := I
  refine ⟨⟨ok.mod, ok.kind, ok.glob, ok.blt, ok.above, ok.inj, ok.has, ok.cab, ok.hd, ok.frames, ok.stk, ok.exf, ok.bs, ok.bsz, ok.noex, ok.exfs, ok.funs, ok.frf⟩, os, bare, base, loc, cell, free, freeC, fun p hp => ?_, hok, len⟩
  rcases List.mem_append.mp hp with hp | hp
  · obtain ⟨g, n, _, _, nc⟩ := I3.pin p (List.mem_append_left _ hp)
    have ns := not_stack I3 hp
    exact ⟨base.keep _ _ g n ns (hf p hp), base.free _ _ g n (hf p hp), fun e => absurd (Nat.lt_of_lt_of_le (Heap.lt_size g) hl) (by rw [e]; exact Nat.lt_irrefl _), ns, nc⟩
  · exact pin p (List.mem_append_right _ hp)
theorem blk_dn {s3 : Shared} {H3 : Hp} {scope : Scope} {ce : Env} {fp : List Addr} {pins : List (Addr × Obj)} {σ : L2.St} {H : Hp} {s : Shared} (I : Inv (blkH X s3 H3 scope ce fp) pins σ H s) : Inv (X.blk s3 H3 scope ce fp) pins σ H s := by
  obtain ⟨ok, os, bare, base, loc, cell, free, freeC, pin, hok, len⟩ := I
  exact ⟨⟨ok.mod, ok.kind, ok.glob, ok.blt, ok.above, ok.inj, ok.has, ok.cab, ok.hd, ok.frames, ok.stk, ok.exf, ok.bs, ok.bsz, ok.noex, ok.exfs, ok.funs, ok.frf⟩, os, bare, base, loc, cell, free, freeC, fun p hp => pin p (List.mem_append_right _ (by simpa using hp)), hok, len⟩
theorem hotC_blk (hc : L2H.HotC X) (s : Shared) (H : Hp) (scope : Scope) (ce : Env) (fp : List Addr) : L2H.HotC (blkH X s H scope ce fp) := hc
end
section
variable {X : Cx}
theorem lc_coreH {pins : List (Addr × Obj)} {s : Shared} {σ : L2.St} {H : Hp} {Q : VK} {elt tg iter : Expr} {ifs : List Expr} {scope : Scope} {own : List (Str × Nat)} {pos pos' : Pos} {wi : TI} {g : TG} {tt : TT} {te : TE} {use : Option (Value → Sem Unit)} {Qf : Value → Shared → Prop}
    (hc : L2H.HotC X) (hN : X.N.Nodup) (I : Inv X pins σ H s) (hi : L2H.PIH X tg iter wi) (ok : BlkOk X.N X.env.scope scope own)
    (hg : ∀ (s : Shared) (H : Hp) (C : Addr) (cl : List (Str × Addr)) (fp : List Addr), PG (X.blk s H scope (compEnvC scope cl C X.env) fp) tg g) (ht : ∀ (s : Shared) (H : Hp) (C : Addr) (cl : List (Str × Addr)) (fp : List Addr), PTs (X.blk s H scope (compEnvC scope cl C X.env) fp) ifs tt)
    (he : ∀ (s : Shared) (H : Hp) (C : Addr) (cl : List (Str × Addr)) (fp : List Addr), PE (X.blk s H scope (compEnvC scope cl C X.env) fp) elt te) (hs : ∀ x, foldedSetIterable iter X.env x = pure x)
    (h : tLc wi g tt te (own.map (·.2)) σ H Q)
    (hRR : ∀ D C s' m H', Inv X pins σ H' s' → Q (.ref D) H' → s'.heap.Ns C m → FpOk X pins H' C → compPost (model X.prog X.w) X.A X.xe use Qf (.ref D) C (.ok .next) s') :
    wpAny (model X.prog X.w) X.A (comprehension (.ListComp elt [⟨tg, iter, ifs, 0⟩] scope pos) scope X.env pos' (newList []) false (eval iter X.env) use) Qf X.xe s := by
  have closes : ∀ y ∈ scope.names, y.2 = .free → ∃ c, X.env.cells.lookup y.1 = some c := fun y hy e => (ok.free y hy e).elim (fun k => I.ok.has _ (.inl k)) fun k => I.ok.has _ (.inr k)
  refine wpAny_comprehension_free (use := use) rfl hs (closure_ok closes) ok.kind (fun y hy e => by rw [ok.uniq y hy, e]) (thn (hi.run pins s σ H _ I h) fun _ s1 hx => thn hx fun itv s2 ⟨it, fp, tn, J, H2, e, I2, T, t2, f2, rest⟩ => ?_)
  subst e
  refine wpAny_newObj_type (newEnv_comp ?_) (by show 0 ≤ sizeLine; decide)
  obtain ⟨W, ⟨m0, w0⟩, turn⟩ := rest _ (I2.hok.fresh (Nat.le_refl _))
  have small : ∀ b ∈ fp, b < s2.heap.objs.size := fun b hb => Heap.lt_size (T.obj _ _ t2 b hb).choose_spec.1
  obtain ⟨s3, H3, hs3, hH3⟩ : ∃ (s3 : Shared) (H3 : Hp), s3 = { s2 with heap := s2.heap.push { cls := .type "list", data := .seq ([] : List Value).toArray } } ∧ H3 = upd H2 s2.heap.objs.size (.lst []) := ⟨_, _, rfl, rfl⟩
  have old3 : ∀ b o, s2.heap.get? b = some o → s3.heap.get? b = some o := fun b o e => by rw [hs3]; exact Heap.get?_push_of_some _ e
  have I3 : Inv X pins σ H3 s3 := by
    rw [hs3, hH3]
    exact I2.laid (t' := s2.toks) (fun b o e => Heap.get?_push_of_some _ e) (Nat.le_refl _) ⟨Nat.zero_le _, [], 0, .nil, Heap.get?_push_size _ rfl⟩
  have f3 : ∀ b ∈ fp, FpOk X pins H3 b ∧ b < s3.heap.objs.size := fun b hb => by
    refine ⟨⟨by rw [hH3, upd_ne (Nat.ne_of_lt (small b hb))]; exact (f2 b hb).1, (f2 b hb).2⟩, ?_⟩
    rw [hs3, Heap.size_push]
    exact Nat.lt_succ_of_lt (small b hb)
  have t3 : tn 0 s3.heap := T.keep _ _ _ t2 fun b _ o e => old3 b o e
  have w3 : W 0 m0 H3 := by rw [hH3]; exact w0
  generalize s2.heap.objs.size = D at turn
  rw [← hs3]
  clear w0 hH3 hs3
  have start := block_start I3 ok hN f3
  have pg := hg s3 H3 s3.heap.objs.size (cellsFrom (s3.heap.objs.size + 1) scope.names (cloFrom X.env.cells scope.names [])) fp
  have pt := ht s3 H3 s3.heap.objs.size (cellsFrom (s3.heap.objs.size + 1) scope.names (cloFrom X.env.cells scope.names [])) fp
  have pe := he s3 H3 s3.heap.objs.size (cellsFrom (s3.heap.objs.size + 1) scope.names (cloFrom X.env.cells scope.names [])) fp
  show codeAny _ _ (.compStart (.ListComp elt [⟨tg, iter, ifs, 0⟩] scope pos) 0 (.ref it) (.ref D) (compEnvC scope (cellsFrom (s3.heap.objs.size + 1) scope.names (cloFrom X.env.cells scope.names [])) s3.heap.objs.size X.env)) (compPost (model X.prog X.w) X.A X.xe use Qf (.ref D) s3.heap.objs.size) { s3 with heap := pushCells (s3.heap.push { cls := .type "dict", data := .dict #[] }) scope.names }
  have cL : (compEnvC scope (cellsFrom (s3.heap.objs.size + 1) scope.names (cloFrom X.env.cells scope.names [])) s3.heap.objs.size X.env).locals = s3.heap.objs.size := rfl
  generalize compEnvC scope (cellsFrom (s3.heap.objs.size + 1) scope.names (cloFrom X.env.cells scope.names [])) s3.heap.objs.size X.env = ce at start pg pt pe cL ⊢
  obtain ⟨s4, hs4⟩ : ∃ s4 : Shared, s4 = { s3 with heap := pushCells (s3.heap.push { cls := .type "dict", data := .dict #[] }) scope.names } := ⟨_, rfl⟩
  rw [← hs4] at start ⊢
  have t4 : tn 0 s4.heap := T.keep _ _ _ t3 fun b _ o e => by rw [hs4]; exact pushCells_keeps _ _ _ _ (Heap.get?_push_of_some _ e)
  have apart : ∀ p ∈ X.pn, p.1 ∉ fp := fun p hp z => (f2 _ z).2.2.2.2.2 p (List.mem_append_left _ hp) rfl
  have up : ∀ {σ' : L2.St} {H' : Hp} {s' : Shared}, Inv (X.blk s3 H3 scope ce fp) [] σ' H' s' → Inv (blkH X s3 H3 scope ce fp) [] σ' H' s' := fun J => blk_up I3 (by rw [cL]; exact Nat.le_refl _) apart J
  have okB : ∀ {σ' : L2.St} {H' : Hp} {s' : Shared}, Inv (X.blk s3 H3 scope ce fp) [] σ' H' s' → (∀ b ∈ fp, H' b = none) → ∀ b ∈ fp, FpOk (X.blk s3 H3 scope ce fp) [] H' b := fun J n b hb => ⟨n b hb, (J.ok.exf b hb).1, J.ok.exfs b hb, .inl hb, fun x c e => (J.ok.exf b hb).2 x c e, fun p hp => absurd (show p ∈ ([] : List (Addr × Obj)) ++ [] from hp) (by simp)⟩
  have okH : ∀ {σ' : L2.St} {H' : Hp} {s' : Shared}, Inv (X.blk s3 H3 scope ce fp) [] σ' H' s' → (∀ b ∈ fp, H' b = none) → ∀ b ∈ fp, FpOk (blkH X s3 H3 scope ce fp) [] H' b := fun J n b hb => ⟨n b hb, (J.ok.exf b hb).1, J.ok.exfs b hb, .inl hb, fun x c e => (J.ok.exf b hb).2 x c e, fun p hp z => apart p (by simpa using hp) (by rw [z]; exact hb)⟩
  have walk : codeAny (model X.prog X.w) X.A (.compLoop (.ListComp elt [⟨tg, iter, ifs, 0⟩] scope pos) 0 (.ref it) (.ref D) ce) (compPost (model X.prog X.w) X.A X.xe use Qf (.ref D) s3.heap.objs.size) s4 := by
    refine compLoop_any (fun n s' => ∃ i H', Inv (X.blk s3 H3 scope ce fp) [] (wipe σ (own.map (·.2))) H' s' ∧ tn i s'.heap ∧ (∀ b ∈ fp, H' b = none) ∧ W i n H') (fun n s5 ⟨i, H5, I5, t5, n5, w5⟩ => ?_) m0 ⟨0, H3, start, t4, fun b hb => (f3 b hb).1.1, w3⟩
    rcases turn i n H5 w5 with ⟨stop, qq⟩ | ⟨go, Nx, less, step⟩
    · refine thnF (T.done (blkH X s3 H3 scope ce fp) rfl rfl rfl (hotC_blk hc ..) i [] s5 _ H5 (fun _ _ => False) (up I5) (okH I5 n5) t5 stop) fun r s6 ⟨hr, J6⟩ => ?_
      subst hr
      have I6 := blk_dn J6
      have back : Inv X pins σ H5 s6 := I3.call' (ch := fp) I6.os I6.base I6.hok I6.bare fun b hb => ⟨(f3 b hb).1.2.2.2.1, (f3 b hb).1.2.1, (f3 b hb).1.2.2.2.2.1, (f3 b hb).1.2.2.2.2.2⟩
      have nC : H5 ce.locals = none := I6.free
      obtain ⟨m, hn, _⟩ := I6.loc
      have hn : s6.heap.Ns ce.locals m := hn
      rw [cL] at hn nC
      exact hRR D s3.heap.objs.size s6 m H5 back qq hn (I3.fpOk (Nat.le_refl _) nC)
    · refine thnF (T.item (blkH X s3 H3 scope ce fp) rfl rfl rfl (hotC_blk hc ..) i [] s5 _ H5 (fun _ _ => False) (up I5) (okH I5 n5) t5 go) fun r s6 ⟨u, hr, h6⟩ => ?_
      subst hr
      refine thnF h6 fun _ s7 ⟨x, H7, J7, r7, y7, t7, n7⟩ => ?_
      have I7 := blk_dn J7
      refine thnF (pg.run _ s7 _ H7 x u _ (I7.pinned (okB I7 n7) (T.obj _ _ t7)) r7 (step x H7 y7)) fun _ s8 ⟨σ8, H8, I8, same8, q8⟩ => ?_
      refine thnF (pt.run _ s8 σ8 H8 _ I8 q8) fun b s9 ⟨H9, I9, q9⟩ => ?_
      have done : ∀ {s' : Shared} {H' : Hp}, Inv (X.blk s3 H3 scope ce fp) ([] ++ pinsAt fp s7.heap) σ8 H' s' → Nx H' → ∃ m, m < n ∧ ∃ i H', Inv (X.blk s3 H3 scope ce fp) [] (wipe σ (own.map (·.2))) H' s' ∧ tn i s'.heap ∧ (∀ b ∈ fp, H' b = none) ∧ W i m H' := fun {s' H'} J nx => by
        obtain ⟨m', lt, w'⟩ := less H' nx
        have held : ∀ b ∈ fp, ∀ o, s7.heap.get? b = some o → s'.heap.get? b = some o ∧ H' b = none := fun b hb o e => by
          have z := J.pin (b, o) (List.mem_append_right _ (List.mem_append_right _ (mem_pinsAt hb e)))
          exact ⟨z.1, z.2.1⟩
        refine ⟨m', lt, i + 1, H', (J.unpinned (pins := [])).weak (by rw [← same8, wipe_length]) (fun j v e => ?_), T.keep _ _ _ t7 fun b hb o e => (held b hb o e).1, fun b hb => ?_, w'⟩
        · rw [← same8] at e
          exact (wipe_some e).1
        · obtain ⟨o, e, _⟩ := T.obj _ _ t7 b hb
          exact (held b hb o e).2
      cases b with
      | false => exact done I9 q9
      | true =>
        refine thnF (pe.run _ s9 σ8 H9 _ I9 q9) fun z s10 ⟨yv, H10, I10, r10, acc, hD, hz, nx⟩ => ?_
        exact app_ok (X := X.blk s3 H3 scope ce fp) I10 hD hz r10 fun s11 I11 => done I11 nx
  exact codeAny_compStart_list walk (T.self X.A 0 _ _ _ t4 walk)
end
section
variable {X : Cx}
/-- [..] as a value, there -/
theorem pe_lcH {elt tg iter : Expr} {ifs : List Expr} {scope : Scope} {own : List (Str × Nat)} {pos : Pos} {wi : TI} {g : TG} {tt : TT} {te : TE} (hc : L2H.HotC X) (hN : X.N.Nodup) (hi : L2H.PIH X tg iter wi) (ok : BlkOk X.N X.env.scope scope own)
    (hg : ∀ (s : Shared) (H : Hp) (C : Addr) (cl : List (Str × Addr)) (fp : List Addr), PG (X.blk s H scope (compEnvC scope cl C X.env) fp) tg g) (ht : ∀ (s : Shared) (H : Hp) (C : Addr) (cl : List (Str × Addr)) (fp : List Addr), PTs (X.blk s H scope (compEnvC scope cl C X.env) fp) ifs tt)
    (he : ∀ (s : Shared) (H : Hp) (C : Addr) (cl : List (Str × Addr)) (fp : List Addr), PE (X.blk s H scope (compEnvC scope cl C X.env) fp) elt te) (hs : ∀ x, foldedSetIterable iter X.env x = pure x := by intro _; rfl) :
    PE X (.ListComp elt [⟨tg, iter, ifs, 0⟩] scope pos) (tLc wi g tt te (own.map (·.2))) := by
  refine ⟨fun pins s σ H Q I h => ?_⟩
  rw [eval_ListComp]
  exact lc_coreH hc hN I hi ok hg ht he hs h fun D C s' m H' J q hn ⟨f0, f1, f2, f3, f4, f5⟩ => ⟨m, hn, fun _ sb => ⟨.ref D, H', J.turned (t' := s'.toks) (fun b o hb e => (sb.2 b hb).trans e) f0 f1 f3 f4 f5, rfl, q⟩⟩
/-- name = [..] on one line, there -/
theorem ps_setLcH {i : Nat} {y : Str} {py : Pos} {elt tg iter : Expr} {ifs : List Expr} {scope : Scope} {own : List (Str × Nat)} {pos spos : Pos} {wi : TI} {g : TG} {tt : TT} {te : TE} (hc : L2H.HotC X) (hN : X.N.Nodup) (hy : X.N[i]? = some y) (hyl : X.env.scope.names.lookup y = some .local)
    (hsw : swapsWith (.ListComp elt [⟨tg, iter, ifs, 0⟩] scope pos) (some (.Name y py)) spos.line X.env = pure true) (hi : L2H.PIH X tg iter wi) (ok : BlkOk X.N X.env.scope scope own)
    (hg : ∀ (s : Shared) (H : Hp) (C : Addr) (cl : List (Str × Addr)) (fp : List Addr), PG (X.blk s H scope (compEnvC scope cl C X.env) fp) tg g) (ht : ∀ (s : Shared) (H : Hp) (C : Addr) (cl : List (Str × Addr)) (fp : List Addr), PTs (X.blk s H scope (compEnvC scope cl C X.env) fp) ifs tt)
    (he : ∀ (s : Shared) (H : Hp) (C : Addr) (cl : List (Str × Addr)) (fp : List Addr), PE (X.blk s H scope (compEnvC scope cl C X.env) fp) elt te) (hs : ∀ x, foldedSetIterable iter X.env x = pure x := by intro _; rfl) :
    PS X (.Assign [.Name y py] (.ListComp elt [⟨tg, iter, ifs, 0⟩] scope pos) spos) (tAsg (tLc wi g tt te (own.map (·.2))) (gName i)) := by
  refine ⟨fun pins s σ H D I h => ?_⟩
  rw [exec_Assign_Name_used _ _ _ _ hsw]
  refine wpAny_bind (wpAny_standAt (wpAny_bind ?_))
  show wpAny _ X.A (do let _ ← comprehension (.ListComp elt [⟨tg, iter, ifs, 0⟩] scope pos) scope X.env (firstIterPos [⟨tg, iter, ifs, 0⟩] pos) (newList []) false (eval iter X.env) (some (assign (.Name y py) X.env))) _ _ s
  have h : tLc wi g tt te (own.map (·.2)) σ H (fun x H1 => gName i x σ H1 D.nx) := h
  refine wpAny_bind (thn (lc_coreH (Qf := fun _ s' => SP X pins D .next s') hc hN I hi ok hg ht he hs h fun L C s' m H' J q hn ⟨f0, f1, f2, f3, f4, f5⟩ => ?_) fun _ s' hq => wpAny_pure (wpAny_pure hq))
  show wpAny _ _ (assign (.Name y py) X.env (.ref L)) _ _ _
  refine wpAny_assign_Name (store_ok2 (v := V.ref L) J hN hy (.inl hyl) rfl (fun s2 I2 ⟨a, sb, ha⟩ => ?_) (.inr hyl))
  have apart : C ≠ a := ha.elim (fun z => by rw [z]; exact f1) fun z e => f4 y a z e.symm
  refine ⟨m, hn.sameBut sb apart, fun h3 sb3 => ⟨_, H', I2.turned (t' := s2.toks) (fun b o hb e => (sb3.2 b hb).trans e) f0 f1 f3 f4 f5, q⟩⟩
end
/-! ### the end of a walk over a dict's keys, there -/
section
variable {prog : Program} {w : World} {A : Around} {E : Value → Shared → Prop} {s : Shared}
theorem keys_end_hot {it d x1 : Addr} {i ep : Nat} {es : Array DictEntry} {Q : Option Value → Shared → Prop} (hot : HotX.HotAt A x1 s.heap) (hit : s.heap.IsKeyIter it d i es.size ep) (hm : s.heap.DictRaw d es ep) (hge : es.size ≤ i)
    (hQ : ∀ h', Heap.ExtBut it s.heap h' → Q none { s with heap := h' }) : wpAny (model prog w) A (pyNext (.ref it)) Q E s := by
  obtain ⟨o, ho, hc, hd⟩ := id hit
  obtain ⟨od, hod, hcd, hdd⟩ := id hm
  obtain ⟨hh, o1, vs1, h1, d1, c1⟩ := hot
  have ne : x1 ≠ it := fun e => by
    rw [e, ho] at h1
    rw [← Option.some.inj h1, hd] at d1
    rw [← Data.fields.inj d1] at c1
    simp [rawInt] at c1
  unfold pyNext
  refine wpAny_bind (wpAny_attempt (wpAny_callSpecial?_slot (name := Str.ofString "__next__") hit.typeIs F.slot_dict_keyiterator_next
    (wpAny_call_entry F.slot_dict_keyiterator_next hit.typeIs F.entry_dict_keyiterator_next ?_ (F.args_dict_keyiterator_next_1 _))))
  refine wpAny_bind (wpAny_pure (wpAny_bind (wpAny_bind ?_)))
  first | refine wpAny_bind (wpAny_typeNameOfWhole_keyiter hit.typeIs (wpAny_pure ?_)) | refine wpAny_bind (wpAny_typeNameOf_keyiter hit.typeIs (wpAny_pure ?_))
  refine wpAny_bind (wpAny_fieldsOf ho hd ?_)
  simp only [show Builtin.Dict_items.ownsTuple "dict_keyiterator" = false by decide, Bool.false_eq_true, if_false]
  show wpAny _ _ (if (Value.ref d == Value.none) = true then _ else _) _ _ s
  rw [if_neg (show ¬ ((Value.ref d == Value.none) = true) from Bool.false_ne_true)]
  refine wpAny_bind (wpAny_pure (wpAny_bind (wpAny_dictEntries hod hdd ?_)))
  rw [if_neg (by simp)]
  refine wpAny_bind (wpAny_pure (wpAny_bind (wpAny_dictEpoch hod hdd ?_)))
  rw [if_neg (by simp)]
  refine wpAny_pure ?_
  simp only [show ¬ ((i : Int) < 0) by omega, if_false, Int.toNat_natCast, Array.getElem?_eq_none hge]
  refine wpAny_bind ?_
  first | refine wpAny_bind (wpAny_typeNameOfWhole_keyiter hit.typeIs (wpAny_pure ?_)) | refine wpAny_bind (wpAny_typeNameOf_keyiter hit.typeIs (wpAny_pure ?_))
  show wpAny _ _ (setField (.ref it) 0 .none >>= _) _ _ s
  refine wpAny_bind (wpAny_setField ho hd (by simp) ?_)
  show wpAny _ _ (newExc (.type "StopIteration") [] >>= _) _ _ _
  refine wpAny_bind ?_
  simp only [newExc, newTuple]
  refine wpAny_bind (wpAny_newObj_type ?_ (by size_fits))
  refine wpAny_bind (m := firstArgMember _ _) (wpAny_of_eq (a := Value.none) (by first | rfl | (simp only [firstArgMember]; rfl)) ?_)
  refine wpAny_newObj_type ?_ (by size_fits)
  have k1 := (Heap.get?_update_other s.heap (Obj.mapFields (·.setIfInBounds 0 .none)) (Ne.symm ne)).trans h1
  refine HotX.raiseNew_hot ⟨hh, o1, vs1, Heap.get?_push_of_some _ (Heap.get?_push_of_some _ k1), d1, c1⟩ (Nat.ne_of_lt (Heap.lt_size (Heap.get?_push_of_some _ k1))) (Heap.get?_push_size _ rfl) rfl (by first | (simp; done) | (simp; omega) | (simp only [Array.size_append]; simp; omega)) ?_
  refine wpAny_bind (wpAny_isInstance (T := "StopIteration") (b := true) ⟨_, Heap.get?_update_self _ (Heap.get?_push_size _ rfl) rfl, rfl⟩ isSubtype_stop ?_)
  refine wpAny_pure (hQ _ fun b o nb e => ?_)
  have e2 := (Heap.get?_update_other s.heap (Obj.mapFields (·.setIfInBounds 0 .none)) (Ne.symm nb)).trans e
  rw [Heap.get?_update_other _ _ (Nat.ne_of_gt (Heap.lt_size (Heap.get?_push_of_some _ e2)))]
  exact Heap.get?_push_of_some _ (Heap.get?_push_of_some _ e2)
end
/-- the walk over a dict's keys, there: how what is handled stands is part of its state -/
theorem keys_walk_hot {prog : Program} {w : World} {A : Around} {KT : Type} [DecidableEq KT] {knd : KeyKind prog w KT} {x1 : Addr} {v1 : Array Value} (hh : A.handled = some (.ref x1)) (c1 : v1[2]? = some .none) (I d : Addr) (hne : d ≠ I) (h1 : x1 ≠ I) (kvs : List (KT × Value)) (ep : Nat) :
    Walks prog w A I [I, d, x1] [I] kvs.length (fun i v => ∃ k x, kvs[i]? = some (k, x) ∧ knd.is k v = true) (fun i h => h.IsKeyIter I d i kvs.length ep ∧ h.DictAt knd d kvs ep ∧ ∃ o, h.get? x1 = some o ∧ o.data = .fields v1) where
  sub := fun b hb => by rw [List.mem_singleton.mp hb]; simp
  frame := fun _ _ _ ⟨a, b, o, e, f⟩ hk => ⟨a.at fun o e => hk I (by simp) o e, b.at' fun o e => hk d (by simp) o e, o, hk x1 (by simp) o e, f⟩
  item := fun i s Q E hi ⟨a, b, o, e, f⟩ hQ => by
    refine wpAny_pyNext_dict_item a b (List.getElem?_eq_getElem hi) fun key h' hkey hit' hs' => ?_
    exact hQ key h' s.toks ⟨_, _, List.getElem?_eq_getElem hi, hkey⟩ ⟨hit', b.extBut hs'.extBut hne, o, hs'.extBut x1 o h1 e, f⟩ fun b o hb e => hs'.extBut b o (fun h => hb (by simp [h])) e
  done := fun s Q E ⟨a, b, o, e, f⟩ hQ => by
    obtain ⟨es, hr, hs, _⟩ := b.raw
    rw [← hs] at a
    exact keys_end_hot ⟨hh, o, v1, e, f, c1⟩ a hr (Nat.le_refl _) fun h' he' => hQ h' s.toks fun b o hb e => he' b o (fun h => hb (by simp [h])) e
  self := fun _ _ _ _ ⟨a, _, _⟩ hQ => wpAny_pyIter_keyiter a hQ
/-- l.extend(d) for a new list, there -/
theorem extend_hot {prog : Program} {w : World} {A : Around} {KT : Type} [DecidableEq KT] {knd : KeyKind prog w KT} {s : Shared} {R : Result → Shared → Prop} {d x1 S : Addr} {v1 : Array Value} {o1 : Obj} {kvs : List (KT × Value)} {ep c0 : Nat} (lo : (d == sysModules) = false) (hh : A.handled = some (.ref x1)) (h1 : s.heap.get? x1 = some o1) (d1 : o1.data = .fields v1) (c1 : v1[2]? = some .none)
    (hm : s.heap.DictAt knd d kvs ep) (Sd : S ≠ d) (Sx : S ≠ x1) (res : Value) (hS : s.heap.get? S = some { cls := .type "list", data := .seq #[] c0 }) (hn : kvs.length ≤ sizeLine)
    (hR : ∀ h' tk acc' c', (∀ b o, b ≠ S → s.heap.get? b = some o → h'.get? b = some o) → h'.get? S = some { cls := .type "list", dict := none, data := .seq acc' c', slots := #[] } → ItemsOf (fun i v => ∃ k x, kvs[i]? = some (k, x) ∧ knd.is k v = true) acc' kvs.length → R (.ok (.ret res)) { s with heap := h', toks := tk }) :
    wpAny (model prog w) A.in1 (Builtin.List.listExtendWith (.ref S) (.ref d) res)
      (fun fin s' => match fin with | .done f => R (.ok f) s' | .again c' => c'.quiet = true ∧ codeAny (model prog w) A c' R s') (fun e s' => R (.error e) s') s := by
  have K := PySem.W.kdl_dict (knd := knd) (kvs := kvs) (ep := ep) lo
  have n1 : S ≠ s.heap.objs.size := Nat.ne_of_lt (Heap.lt_size hS)
  have Wk := keys_walk_hot (prog := prog) (w := w) (A := A.in1) (knd := knd) (x1 := x1) (v1 := v1) hh c1 s.heap.objs.size d (Nat.ne_of_lt hm.lt_size) (Nat.ne_of_lt (Heap.lt_size h1)) kvs ep
  have out : S ∉ [s.heap.objs.size, d, x1] := by simp only [List.mem_cons, List.not_mem_nil, or_false, not_or]; exact ⟨n1, Sd, Sx⟩
  have key : ∀ (h : Heap) (c₁ tk : Nat), (h.IsKeyIter s.heap.objs.size d 0 kvs.length ep ∧ h.DictAt knd d kvs ep ∧ ∃ o, h.get? x1 = some o ∧ o.data = .fields v1) → (∀ b o, b ≠ S → s.heap.get? b = some o → h.get? b = some o) →
      h.get? S = some { cls := .type "list", data := .seq #[] c₁ } → codeAny (model prog w) A (.builtin "list.extend.loop" ⟨[.ref S, .ref s.heap.objs.size, res], []⟩) R { s with heap := h, toks := tk } := fun h c₁ tk st hk hS1 => by
    refine codeAny_extend_loopS Wk.toS hn S out res kvs.length 0 _ #[] c₁ rfl (Nat.zero_le _) st hS1 (ItemsOf.nil _) fun s' acc' c' hm' hS' hacc => ?_
    rw [Moved.eq_with hm']
    refine hR s'.heap s'.toks acc' c' (fun b o hb e => hm'.heap b o (fun z => ?_) (hk b o hb e)) hS' hacc
    rcases List.mem_cons.mp z with z | z
    · exact hb z
    · exact absurd (Heap.lt_size e) (by rw [List.mem_singleton.mp z]; exact Nat.lt_irrefl _)
  unfold Builtin.List.listExtendWith
  refine wpAny_bind (wpAny_typeOf (T := "dict") (K.type s hm) ?_)
  simp only [show Builtin.List.listSameRef (.ref S) (.ref d) = false by simp [Builtin.List.listSameRef, Sd], K.notList, K.notTuple, Bool.or_false, Bool.false_eq_true, if_false]
  refine wpAny_bind (wpAny_pyIter_dict lo hm ?_)
  have hS1 := Heap.get?_push_of_some ({ cls := .type "dict_keyiterator", data := .fields #[.ref d, .int 0 0, .int kvs.length 0, .int ep 0] } : Obj) hS
  refine wpAny_bind (wpAny_holding (K.hint _ _ _ _ (hm.push _) ?_))
  have st : (s.heap.push ({ cls := .type "dict_keyiterator", data := .fields #[.ref d, .int 0 0, .int kvs.length 0, .int ep 0] } : Obj)).IsKeyIter s.heap.objs.size d 0 kvs.length ep ∧ (s.heap.push ({ cls := .type "dict_keyiterator", data := .fields #[.ref d, .int 0 0, .int kvs.length 0, .int ep 0] } : Obj)).DictAt knd d kvs ep ∧ ∃ o, (s.heap.push ({ cls := .type "dict_keyiterator", data := .fields #[.ref d, .int 0 0, .int kvs.length 0, .int ep 0] } : Obj)).get? x1 = some o ∧ o.data = .fields v1 := ⟨⟨_, Heap.get?_push_size _ rfl, rfl, rfl⟩, hm.push _, o1, Heap.get?_push_of_some _ h1, d1⟩
  refine wpAny_ite_split (fun _ => ?_) (fun _ => wpAny_pure ⟨plainId_quiet PySem.F.plain_extend_loop _, key _ c0 _ st (fun b o _ e => Heap.get?_push_of_some _ e) hS1⟩)
  refine wpAny_bind (wpAny_rule (wpAny_bind ?_))
  show wpAny _ _ (updateSeq S (·.push .none) >>= fun _ => updateSeq S (·.pop)) _ _ _
  refine wpAny_bind (wpAny_updateSeq hS1 rfl ?_)
  have hS2 := Heap.get?_update_self (Obj.mapSeq (·.push Value.none)) hS1 rfl
  refine wpAny_updateSeq (hz := by seq_fits) hS2 rfl ?_
  have two : ∀ b o, b ≠ S → (s.heap.push ({ cls := .type "dict_keyiterator", data := .fields #[.ref d, .int 0 0, .int kvs.length 0, .int ep 0] } : Obj)).get? b = some o → _ := fun b o hb e => (Heap.get?_update_other _ (Obj.mapSeq (·.pop)) (Ne.symm hb)).trans ((Heap.get?_update_other _ (Obj.mapSeq (·.push Value.none)) (Ne.symm hb)).trans e)
  exact wpAny_pure ⟨plainId_quiet PySem.F.plain_extend_loop _, key _ _ _ (Wk.frame 0 _ _ st fun b hb o e => two b o (fun z => out (z ▸ hb)) e) (fun b o hb e => two b o hb (Heap.get?_push_of_some _ e)) (Heap.get?_update_self (Obj.mapSeq (·.pop)) hS2 rfl)⟩
/-- the list of a dict's keys, there -/
theorem collect_hot {prog : Program} {w : World} {A : Around} {E : Value → Shared → Prop} {KT : Type} [DecidableEq KT] {knd : KeyKind prog w KT} {s : Shared} {R : List Value → Shared → Prop} {d x1 : Addr} {v1 : Array Value} {o1 : Obj} {kvs : List (KT × Value)} {ep : Nat} (lo : (d == sysModules) = false) (hh : A.handled = some (.ref x1)) (h1 : s.heap.get? x1 = some o1) (d1 : o1.data = .fields v1) (c1 : v1[2]? = some .none)
    (hm : s.heap.DictAt knd d kvs ep) (hn : kvs.length ≤ sizeLine)
    (h : ∀ (h' : Heap) (tk : Nat) (acc : Array Value), (∀ b o, s.heap.get? b = some o → h'.get? b = some o) → ItemsOf (fun i v => ∃ k x, kvs[i]? = some (k, x) ∧ knd.is k v = true) acc kvs.length → R acc.toList { s with heap := h', toks := tk }) :
    wpAny (model prog w) A (collect (.ref d)) R E s := by
  unfold collect
  refine wpAny_bind (wpAny_runValue (codeAny_builtin entry_proto_collect' ?_))
  rw [Around.under_plainId PySem.F.plain_proto_collect _]
  show wpAny _ A.in1 (newList [] >>= fun l => again (.builtin "list.__iadd__" ⟨[l, .ref d], []⟩)) _ _ s
  refine wpAny_bind (wpAny_newObj_type (wpAny_pure ⟨plainId_quiet PySem.F.plain_list_iadd _, codeAny_builtin entry_list_iadd' ?_⟩))
  rw [Around.under_plainId PySem.F.plain_list_iadd _]
  show wpAny _ A.in1 (Builtin.List.listExtendWith (.ref s.heap.objs.size) (.ref d) (.ref s.heap.objs.size)) _ _ _
  have old : ∀ b o, s.heap.get? b = some o → (s.heap.push { cls := .type "list", data := .seq ([] : List Value).toArray }).get? b = some o := fun b o e => Heap.get?_push_of_some _ e
  have run := extend_hot (A := A) (s := { s with heap := s.heap.push { cls := .type "list", data := .seq ([] : List Value).toArray } }) (S := s.heap.objs.size) (c0 := 0)
    (R := fun (q : Result) (s' : Shared) => ∃ (h' : Heap) (tk : Nat) (acc' : Array Value) (c' : Nat), q = .ok (.ret (.ref s.heap.objs.size)) ∧ s' = { s with heap := h', toks := tk } ∧ (∀ b o, s.heap.get? b = some o → h'.get? b = some o) ∧
      h'.get? s.heap.objs.size = some { cls := .type "list", dict := none, data := .seq acc' c', slots := #[] } ∧ ItemsOf (fun i v => ∃ k x, kvs[i]? = some (k, x) ∧ knd.is k v = true) acc' kvs.length)
    lo hh (old _ _ h1) d1 c1 (hm.push _) (Nat.ne_of_gt hm.lt_size) (Nat.ne_of_gt (Heap.lt_size h1)) (.ref s.heap.objs.size) (Heap.get?_push_size _ rfl) hn
    (fun h' tk acc' c' hk hS' hacc => ⟨h', tk, acc', c', rfl, rfl, fun b o e => hk b o (Nat.ne_of_lt (Heap.lt_size e)) (old b o e), hS', hacc⟩)
  refine wpAny_mono run (fun fin s' x => ?_) fun e s' ⟨_, _, _, _, e', _⟩ => by cases e'
  cases fin with
  | done f =>
    obtain ⟨h', tk, acc', c', e, rfl, hk, hS', hacc⟩ := x
    cases e
    show wpAny _ A (load s.heap.objs.size >>= _) _ _ _
    exact wpAny_bind (wpAny_load hS' (wpAny_pure (h h' tk acc' hk hacc)))
  | again c₁ =>
    refine ⟨x.1, codeAny_mono x.2 fun q s₂ y => ?_⟩
    obtain ⟨h', tk, acc', c', rfl, rfl, hk, hS', hacc⟩ := y
    show wpAny _ A (load s.heap.objs.size >>= _) _ _ _
    exact wpAny_bind (wpAny_load hS' (wpAny_pure (h h' tk acc' hk hacc)))
/-- sorted(d), d a dict with int keys, there -/
theorem call_sortDH {X : Cx} (hc : L2H.HotC X) : CallR X (.builtin "sorted") rSortD := by
  intro pins sh σ H xs us Q inv rel ask
  obtain ⟨a, rfl, ask⟩ := ask
  obtain ⟨kvs, here, ks, hks, ask⟩ := dcAt_get ask
  obtain ⟨u, rfl, ra⟩ := vals1 rel
  cases ra
  obtain ⟨p, ⟨hh, v1, d1, c1⟩, hp⟩ := hc
  have h1 := (inv.pin p (List.mem_append_left _ hp)).1
  obtain ⟨small, lo, vs, kv, dd⟩ := dk_rd inv.hok (.inl here)
  obtain ⟨ep, hat⟩ := dd.dictAt
  have vk : vs.map (·.1) = ks.map Sum.inl := kv.keys.symm.trans hks
  have l1 : vs.length = ks.length := by simpa using congrArg List.length vk
  have l2 : kvs.length = ks.length := by simpa using congrArg List.length hks
  refine Calls.call_function_entry kind_sorted plain_sorted entry_sorted (args_sorted1 (.ref a)) ?_
  unfold Builtin.«sorted»
  refine wpAny_bind (m := checkCount "sorted" 1 1 _) (wpAny_pure (wpAny_bind ?_))
  refine collect_hot (A := X.A.in1) (knd := mixKind X.prog X.w) (kvs := vs) (ep := ep) lo hh h1 d1 c1 hat (by omega) fun h' tk acc kept got => ?_
  have all := keys_ints vk got.1 got.2
  have fits : acc.toList.length ≤ sizeLine := by rw [Array.length_toList, got.1]; omega
  have I1 : Inv X pins σ H { sh with heap := h', toks := tk } := inv.kept kept
  refine wpAny_bind (wpAny_newList (wpAny_bind (wpAny_holding ?_)) fits)
  have new : (h'.push (seqObj "list" acc.toList.toArray 0)).get? h'.objs.size = some (seqObj "list" acc.toList.toArray 0) := Heap.get?_push_size _ rfl
  refine wpAny_call_entry (s := { sh with heap := h'.push (seqObj "list" acc.toList.toArray 0), toks := tk }) slot_list_sort ⟨_, new, rfl⟩ entry_list_sort (SrtO.list_sort_ord SrtO.swo_int new fits (fun two => SrtO.ints_sortable all two) fun out o1 o2 => ⟨_, rfl, ?_⟩) (args_list_sort _)
  obtain ⟨k1, k2, k3⟩ := SrtO.ints_out all o1 o2
  obtain ⟨e', he'⟩ := sortedHeap_at (vs := acc.toList) (out := out.toArray) new
  refine wpAny_pure ⟨_, rfl, .ref h'.objs.size, upd H h'.objs.size (.lst ((out.map SrtO.iv).map V.int)), I1.laid (t' := tk) (fun b u e => ?_) (Nat.le_refl _) ⟨by rw [List.length_map, k2.length_eq, ← l2]; exact small, out, e', vals_of_ints k1, he'⟩, rfl, ask _ _ k2 k3 (I1.hok.fresh (Nat.le_refl _))⟩
  have lt : b < h'.objs.size := Heap.lt_size e
  rw [sortedHeap_old (Nat.ne_of_lt lt) (by rw [size_push']; exact Nat.lt_succ_of_lt lt)]
  exact Heap.get?_push_of_some _ e

/-! ### calls where an error is handled, told as the calm ones are -/
section
variable {X : Cx} {k : Nat} {f C : Addr} {fd : FuncData} {ps : List Str} {sp : Sp} {x m : Str} {q pos apos : Pos} {e o : Expr} {es : List Expr} {ta : TE} {t : TA}
theorem hu_ofH {A : Around} (hr : L2H.RoomH k A) : A.units + 1 < cLine := by
  have := hr.un
  omega
theorem pe_callHc (F : L2H.FnH X.prog X.w X.K X.mg X.base CX0 k f fd ps sp) (hr : L2H.RoomH k X.A) (hc : L2H.HotC X) (hg : Gl X x) (hm : X.mg x = some (.ref f)) (hk : PySem.W.keepIn X.K (.ref f) = true) (hb : Binds X.K fd ps [])
    (ha : PA X (e :: es) t) (hdb : (x == ("__debug__" : Str)) = false := by decide) (he : starEach (e :: es) X.env = (false, eval e X.env) :: starEach es X.env := by rfl) (hpl : (backTo pos (starEach es X.env)).any (·.1) = false := by rfl) :
    PE X (.Call (.Name x q) (e :: es) [] pos) (tCall sp [] E0 t) :=
  PE.by (L2H.pe_callH F hr hc hg hm hk hb (E := fun _ => E0) (fun σ => passAt0) ha hdb he hpl) fun σ H Q h => by
    have e1 : (fun (vs : List V) H1 => sp (vs ++ []) H1 Q E0) = fun vs H1 => sp vs H1 Q E0 := by
      funext vs H1
      rw [List.append_nil]
    have h2 : t σ H fun vs H1 => sp (vs ++ []) H1 Q E0 := h
    rw [e1] at h2
    exact h2
theorem pe_methHc {pl : Sem Bool} (he : PE X o ta) (c : Cls X.K C) (hm : Meth X.K C m f) (F : L2H.FnH X.prog X.w X.K X.mg X.base CX0 k f fd ps sp) (hr : L2H.RoomH k X.A) (hc : L2H.HotC X) (hb : Binds X.K fd ps []) (ha : PA X (e :: es) t)
    (hst : starEach (e :: es) X.env = (false, eval e X.env) :: starEach es X.env := by rfl) (hpl : (backTo pos (starEach es X.env)).any (·.1) = false := by rfl)
    (ht : eval (.Call (.Attribute o m apos) (e :: es) [] pos) X.env = (do
      let ov ← eval o X.env
      standAt apos.atName
      let (f, first) ← holding [ov] (getMethod ov m pl)
      callWith pos f first (backTo pos (starEach (e :: es) X.env)) (backToKw pos (keywordEach [] X.env))) := by rfl) :
    PE X (.Call (.Attribute o m apos) (e :: es) [] pos) (tMeth C m sp [] E0 ta t) :=
  PE.by (L2H.pe_methH he c hm F hr hc hb (E := fun _ => E0) (fun σ => passAt0) ha hst hpl ht) fun σ H Q h => by
    have e1 : ∀ x : V, (fun (vs : List V) H1 => sp (x :: (vs ++ [])) H1 Q E0) = fun vs H1 => sp (x :: vs) H1 Q E0 := fun x => by
      funext vs H1
      rw [List.append_nil]
    have h2 : ta σ H fun x H1 => ∃ a dx fs, x = .ref a ∧ H1 a = some (.ins C dx fs) ∧ fs.lookup m = none ∧ t σ H1 fun vs H2 => sp (x :: (vs ++ [])) H2 Q E0 := h
    simp only [e1] at h2
    exact h2
theorem pe_methHc0 {pl : Sem Bool} (he : PE X o ta) (c : Cls X.K C) (hm : Meth X.K C m f) (F : L2H.FnH X.prog X.w X.K X.mg X.base CX0 k f fd ps sp) (hr : L2H.RoomH k X.A) (hc : L2H.HotC X) (hb : Binds X.K fd ps [])
    (ht : eval (.Call (.Attribute o m apos) [] [] pos) X.env = (do let ov ← eval o X.env; standAt apos.atName; let (f, first) ← holding [ov] (getMethod ov m pl); callWith pos f first (backTo pos (starEach [] X.env)) (backToKw pos (keywordEach [] X.env))) := by rfl) :
    PE X (.Call (.Attribute o m apos) [] [] pos) (tMeth C m sp [] E0 ta tNil) := by
  refine ⟨fun pins sh σ H Q inv ask => PySem.W.methodCall_KW (pl := pl) (thn (he.run pins sh σ H _ inv ask) fun u1 s1 hh => ?_) ht⟩
  obtain ⟨x, H1, I1, rx, a, dx, fs, rfl, ea, l, q⟩ := hh
  cases rx
  exact getmeth_ok I1 ea c hm l (PySem.W.callWith_K0 (first := [.ref a]) I1.kIn hm.kp (L2H.run_fnH (us := [.ref a]) (vs := [.ref a]) (E := fun _ => E0) F hr hc hb passAt0 I1 (.cons rfl .nil) q))
end
/-- a def as it is called where an error is handled, which lets none out -/
theorem okH0 {P : Program} {w : World} {K : PySem.W.Frag} {mg : Str → Option Value} {base : Heap} {x qual : Str} {st : Stmt} {f : Addr} {fd : FuncData} {N ps : List Str} {k : Nat} {sp : Sp} (F : Fun K x qual st f fd) (S : FnScope N ps (defScope st)) (len : ∀ vs H Q E, sp vs H Q E → vs.length = ps.length)
    (body : ∀ (cdv : Value) (A : Around) (outer : List Env) (s : Shared) (H : Hp) (vs : List V) (Q : VK) (E : XK) (p : Addr × Obj), L2H.Hot1 A p → L2H.RoomH k (A.deeper (envOfC qual (defScope st) s.heap.objs.size f cdv)) → sp vs H Q E →
      ∃ t, PSs (L2H.cxH CX0 P w K mg base N qual (defScope st) f cdv A outer s H E p).nox (defBody st) t ∧ t { nx := fun _ H' => Q .non H', rt := Q } (L2.start N vs) H) : L2H.FnH P w K mg base CX0 (k + 1) f fd ps sp :=
  okH F S len fun cdv A outer s H vs Q E p hot hr h => by
    obtain ⟨t, ht, q⟩ := body cdv A outer s H vs Q E p hot hr h
    exact ⟨t, ht.nox, q⟩
/-- o.n where the context is not to be seen in what is read -/
theorem pe_fldK {X : Cx} {K' : PySem.W.Frag} {e : Expr} {te : TE} {f : Str} {pos : Pos} (hK : X.K = K') (he : PE X e te) (hb : attributeBase e f X.env (eval e X.env) = eval e X.env) : PE X (.Attribute e f pos) (tFld K' te f) := by
  subst hK
  exact pe_fld he hb
/-! ### except (A, B): without a name -/
theorem flyZ_keeps {B : Heap} {l : List Env} {a : Addr} {Z : Obj → Prop} {h h' : Heap} (R : HandSPX.FlyingZ B l a Z h) (k : ∀ b o, h.get? b = some o → h'.get? b = some o) : HandSPX.FlyingZ B l a Z h' := by
  obtain ⟨f1, f2, f3, oe, ws, T, oT, ts, he, hz, hd, h1, hn, hne, hT, hdT, h3⟩ := R
  exact ⟨fun b o q => k b o (f1 b o q), f2, f3.of_keeps fun b o q _ => ⟨o, k b o q, rfl⟩, oe, ws, T, oT, ts, k _ _ he, hz, hd, h1, hn, hne, k _ _ hT, hdT, h3⟩
theorem exm_pair {K : PySem.W.Frag} {cls c1 c2 : Value} {b1 b2 : Bool} (h1 : PySem.W.exmOne K cls c1 = some b1) (h2 : PySem.W.exmOne K cls c2 = some b2) : PySem.W.exmAny K cls [c1, c2] = some (b1 || b2) := by
  unfold PySem.W.exmAny PySem.W.exmAny PySem.W.exmAny
  rw [h1, h2]
  simp
/-- what the clause 'except (x, y)' wishes of an exception of the body -/
def wPair (K : PySem.W.Frag) (c1 c2 : Value) (ts : Addr → Value → Option Addr → TS) (Wout : WX) (D : Ends) : WX := fun cls d σ H =>
  ∃ b1 b2, PySem.W.exmOne K cls c1 = some b1 ∧ PySem.W.exmOne K cls c2 = some b2 ∧ ((b1 || b2) = true → ∀ a, H a = none → ts a cls d D σ H) ∧ ((b1 || b2) = false → Wout cls d σ H)
section
variable {X : Cx} {x1 x2 : Str} {c1 c2 : Value} {body suite : List Stmt} {b₀ : Stmt} {p1 p2 tpos pos pos' : Pos} {kk : Nat} {tb : WX → TS} {ts : Addr → Value → Option Addr → TS} {Wout : WX}
theorem ps_try_pair (hs : X.stack = X.env :: X.outer) (hf : X.env.frame = some X.env.locals) (hc1 : Names X x1 c1) (hc2 : Names X x2 c2) (tk : L2N.Takes X Wout)
    (hb : ∀ (W : WX) (pn : List (Addr × Obj)) (xe : Value → Shared → Prop), L2N.Takes (X.tr pn xe) W → PassesOwn (model X.prog X.w) X.A X.env xe → PSs (X.tr pn xe) body (tb W))
    (hsu : ∀ (a : Addr) (oe : Obj) (cls : Value) (d : Option Addr) (pn : List (Addr × Obj)), L2N.Zn cls d oe → (∃ vs, oe.data = .fields vs) → PSs (X.suite a ((a, oe) :: pn)) (b₀ :: suite) (ts a cls d)) :
    PS X (.Try body [.ExceptHandler (some (.Tuple [.Name x1 p1, .Name x2 p2] kk tpos)) none (b₀ :: suite) pos'] [] [] pos) (fun D σ H => tb (wPair X.K c1 c2 ts Wout D) D σ H) := by
  refine ⟨fun pins s σ H D I h => ?_⟩
  have ok := I.ok
  have hfr : X.A.frames = some (X.env :: X.outer) := by rw [ok.frames, hs]
  refine wpAny_Try_except ?_
  refine wpAny_mono ((hb (wPair X.K c1 c2 ts Wout D) (X.pn ++ pins) (fun e s₁ => wpAny (model X.prog X.w) X.A (noteFrame e X.env) (fun _ s₂ => wpAny (model X.prog X.w) X.A (setFlight e none) (fun _ s₃ =>
    wpAny (model X.prog X.w) X.A (handleBy e X.env [.ExceptHandler (some (.Tuple [.Name x1 p1, .Name x2 p2] kk tpos)) none (b₀ :: suite) pos']) (SP X pins D) X.xe s₃) X.xe s₂) X.xe s₁) (fun u s' xx => ?_) PassesOwn.looking).run [] s σ H D (I.toTry _) h) (fun f s1 hsp => ?_) (fun e s1 he => he)
  · obtain ⟨a, B, sI, pins', σ', H', cls, d, rfl, J', nb, up, sky, na, os, ag, b1, b2, hb1, hb2, hyes, hno⟩ := xx
    have J : Inv X pins σ' H' sI := J'.ofTry ok
    have sky' : L2.Sky B (X.env :: X.outer) a (L2N.Zn cls d) X.env.locals s'.heap := by rw [← hs]; exact sky
    show wpAny (model X.prog X.w) X.A (noteFrame (.ref a) X.env) _ _ _
    refine L2N.Sky.land L2N.Zn.steady hfr hf sky' fun h3 fl3 up3 => ?_
    have J3 : Inv X pins σ' H' { s' with heap := h3 } := J.landed nb fl3.1 (up.trans up3) os ag
    obtain ⟨oe3, vs3, he3, hz3, hd3⟩ := fl3.there
    have notFr : ∀ {h : Heap} {o : Obj} {vs : Array Value}, h.FunFrames B (X.env :: X.outer) → h.get? a = some o → o.data = .fields vs → a ∉ frs (X.env :: X.outer) := fun {h o vs} ff e dd hm => by
      obtain ⟨_, o', e', hnf⟩ := ff.mem hm
      rw [e] at e'; cases e'
      exact hnf _ dd
    have nfr := notFr fl3.2.2.1 he3 hd3
    have nL : a ≠ X.env.locals := fun z => nfr (List.mem_filterMap.mpr ⟨X.env, List.mem_cons_self, by rw [hf, z]⟩)
    have nF : a ∉ X.fs := fun hm => by
      obtain ⟨e, he, q⟩ := List.mem_filterMap.mp hm
      exact nfr (List.mem_filterMap.mpr ⟨e, List.mem_cons_of_mem _ he, q⟩)
    have S3 := J3.suite he3 hd3 na nL nF
    have test : ∀ {x : Str} {c : Value} {np : Pos} {Q : Value → Shared → Prop} {E : Value → Shared → Prop}, Names X x c → Q c { s' with heap := h3 } → wpAny (model X.prog X.w) (X.A.mark (some (.ref a))) (eval (.Name x np) X.env) Q E { s' with heap := h3 } := fun {x c np Q E} hc q => by
      obtain ⟨hg, hdbg, hm | ⟨hm, hv, hnn⟩⟩ := hc
      · exact ld_glob (X := X.suite a ((a, oe3) :: (X.pn ++ pins))) S3 hg hm q hdbg
      · exact ld_blt (X := X.suite a ((a, oe3) :: (X.pn ++ pins))) S3 hg hm hv q hnn hdbg
    refine wpAny_handleBy_cons (codeAny_handlers_test ?_) (by intro q; cases q)
    refine wpAny_Tuple ?_
    refine wpAny_items_cons (test hc1 ?_)
    refine wpAny_items_cons (test hc2 ?_)
    refine wpAny_items_nil ⟨by show 2 ≤ sizeLine; decide, ?_⟩
    obtain ⟨h5, e5⟩ : ∃ h5 : Heap, h5 = h3.push { cls := .type "tuple", data := .seq [c1, c2].toArray } := ⟨_, rfl⟩
    have kp : ∀ q o, h3.get? q = some o → h5.get? q = some o := fun _ _ z => by rw [e5]; exact Heap.get?_push_of_some _ z
    have tp : h5.get? h3.objs.size = some { cls := .type "tuple", data := .seq [c1, c2].toArray } := by rw [e5]; exact Heap.get?_push_size h3 rfl
    have fl5 := flyZ_keeps fl3 kp
    have up5 := up3.trans (Heap.UpToSlots.of_keeps kp)
    have J5 : Inv X pins σ' H' { s' with heap := h5 } := J.landed nb fl5.1 (up.trans up5) os ag
    have LT : PySem.W.Looks (model X.prog X.w) h5 (typeOf (.ref a)) cls := fun A Q E s k q => wpAny_typeOf_ref (k _ _ (kp _ _ he3)) (by rw [hz3.1]; exact q)
    have LM := PySem.W.exm_tup2 (M := model X.prog X.w) J5.kIn LT tp (exm_pair hb1 hb2)
    show wpAny _ _ (excMatches (.ref a) (.ref h3.objs.size)) _ _ { s' with heap := h3.push { cls := .type "tuple", data := .seq [c1, c2].toArray } }
    rw [← e5]
    refine LM.here ?_
    cases hbb : (b1 || b2) with
    | true =>
      refine codeAny_handlers_suite ?_
      refine HandSPX.lands_againZ fl5 fun h4 fl4 up4 => ?_
      have J4 : Inv X pins σ' H' { s' with heap := h4 } := J.landed nb fl4.1 ((up.trans up5).trans up4) os ag
      obtain ⟨oe4, vs4, he4, hz4, hd4⟩ := fl4.there
      have S4 := J4.suite he4 hd4 na nL nF
      refine wpAny_mono ((hsu a oe4 cls d (X.pn ++ pins) hz4 ⟨_, hd4⟩).run [] _ _ H' _ S4 (hyes hbb a na)) (fun f s6 hsp => ?_) (fun _ _ z => False.elim z)
      cases f with
      | next =>
        obtain ⟨σ6, H6, S6, q6⟩ := hsp
        exact ⟨_, _, S6.unsuite ok, q6⟩
      | brk =>
        obtain ⟨σ6, H6, S6, q6⟩ := hsp
        exact ⟨_, _, S6.unsuite ok, q6⟩
      | cont =>
        obtain ⟨σ6, H6, S6, q6⟩ := hsp
        exact ⟨_, _, S6.unsuite ok, q6⟩
      | ret u =>
        obtain ⟨v6, σ6, H6, S6, r6, q6⟩ := hsp
        exact ⟨_, _, _, S6.unsuite ok, r6, q6⟩
    | false =>
      show wpAny _ X.A (handleBy (.ref a) X.env []) _ _ _
      refine wpAny_handleBy_nil ?_
      obtain ⟨k1, k2, k3, oe, vs, T, oT, ts', he, hz, hd, h1, hr⟩ := id fl5
      unfold PySem.passOn
      refine wpAny_bind (wpAny_field he hd h1 ?_)
      rw [if_neg (show ¬ ((Value.ref T == Value.none) = true) from by simp)]
      have fin : wpAny (model X.prog X.w) X.A (setFlight (.ref a) X.env.frame) (fun _ s4 => wpAny (model X.prog X.w) X.A (throw (.ref a) : Sem Flow) (SP X pins D) X.xe s4) X.xe { s' with heap := h5 } := by
        rw [hf]
        refine HandSPX.setFlight_upZ fl5 fun h4 hh4 up4 => wpAny_throw (tk _ _ ?_)
        exact ⟨a, B, sI, pins, σ', H', cls, d, rfl, J, nb, (up.trans up5).trans up4, .inr (.inr (by rw [hs]; exact hh4)), na, os, ag, hno hbb⟩
      first
        | exact wpAny_bind (wpAny_pure (wpAny_bind fin))
        | exact wpAny_bind fin
  · cases f with
    | next =>
      obtain ⟨σ', H', J', q⟩ := hsp
      exact wpAny_execs_nil ⟨σ', H', J'.ofTry ok, q⟩
    | brk =>
      obtain ⟨σ', H', J', q⟩ := hsp
      exact ⟨σ', H', J'.ofTry ok, q⟩
    | cont =>
      obtain ⟨σ', H', J', q⟩ := hsp
      exact ⟨σ', H', J'.ofTry ok, q⟩
    | ret u =>
      obtain ⟨v, σ', H', J', r, q⟩ := hsp
      exact ⟨v, σ', H', J'.ofTry ok, r, q⟩
end
/-! ### len(d), d locked or not -/
def rDLenR : List V → Hp → VK → Prop := fun vs H Q => ∃ a, vs = [.ref a] ∧ dcRd H a fun kvs => Q (.int kvs.length) H
theorem call_lenDR {X : Cx} : CallR X (.builtin "len") rDLenR := by
  intro pins s σ H xs us Q I r h
  obtain ⟨a, rfl, h⟩ := h
  obtain ⟨kvs, hp, q⟩ := dcRd_get h
  obtain ⟨u, rfl, ru⟩ := vals1 r
  cases ru
  exact d_len I hp fun t s' J => ⟨.int kvs.length, H, J, ⟨t, rfl⟩, q⟩
/-! ### del xs[c:] -/
theorem zip_cut {sel : Nat → Bool} {a : Nat} : ∀ (l : List Value) (k : Nat), (∀ i, k ≤ i → i < k + l.length → sel i = decide (a ≤ i)) → ((l.zipIdx k).filterMap fun x => if sel x.2 then none else some x.1) = l.take (a - k)
  | [], k, _ => by simp
  | x :: l, k, h => by
    rw [List.zipIdx_cons, List.filterMap_cons]
    have h0 := h k (Nat.le_refl _) (by simp)
    have ih := zip_cut l (k + 1) fun i h1 h2 => h i (by omega) (by rw [List.length_cons]; omega)
    by_cases c : a ≤ k
    · simp only [h0, decide_eq_true c, if_true]
      rw [ih, show a - (k + 1) = 0 by omega, show a - k = 0 by omega]
      simp
    · simp only [h0, decide_eq_false c, Bool.false_eq_true, if_false]
      rw [ih, show a - k = (a - (k + 1)) + 1 by omega, List.take_succ_cons]
section
variable {pg : Program} {wd : World} {Ar : Around} {Er : Value → Shared → Prop} {sh : Shared}
theorem tail_bounds {a k : Nat} (h : a ≤ k) : sliceBounds (some (a : Int)) none none k = ((a : Int), (k : Int), 1) := by
  simp only [sliceBounds, Option.getD_none]
  have h1 : ¬ ((a : Int) < 0) := by omega
  simp only [h1, if_false, show (1 : Int) > 0 by decide, if_true]
  congr 1
  omega
theorem del_cut {p c : Addr} {old : Array Value} {e1 a : Nat} {u : Value} {R : Unit → Shared → Prop} (hp : sh.heap.get? p = some { cls := .type "list", data := .seq old e1 }) (hc : sh.heap.IsSliceOf c u .none .none) (hu : IsPart u (some (a : Int))) (ha : a ≤ old.size) (fits : old.size ≤ sizeLine)
    (k : ∀ f : Array Value → Array Value, f old = (old.toList.take a).toArray → R () { sh with heap := sh.heap.update p (Obj.mapSeq f) }) : wpAny (model pg wd) Ar (delItem (.ref p) (.ref c)) R Er sh := by
  have lp := PySem.IsL.isList hp
  obtain ⟨oc, gc, cc, dc⟩ := id hc
  have tc : sh.TypeIs (.ref c) "slice" := ⟨oc, gc, cc⟩
  refine wpAny_delItem_slot lp.typeIs (by decide) F.slot_list_delitem (wpAny_call_entry F.slot_list_delitem lp.typeIs F.entry_list_delitem ?_ (F.args_list_delitem_2 _ _))
  show wpAny _ _ (Builtin.List.listSubscript? (.ref c) >>= _) _ _ sh; refine wpAny_bind ?_
  unfold Builtin.List.listSubscript?; refine wpAny_bind (wpAny_specialOf tc slice_no_index ?_)
  simp only [Option.isNone_none, if_true]; refine wpAny_pure ?_
  show wpAny _ _ (typeOf (.ref c) >>= _) _ _ sh; refine wpAny_bind (wpAny_typeOf tc (PySem.W.KFB.if_not (by decide) ?_))
  rw [listSliceParts_eq]; refine wpAny_bind (wpAny_bind (wpAny_field gc dc (x := .none) rfl (wpAny_bind (wpAny_listPart .none ?_)))); rw [if_neg (show ¬ (rawPart none == rawInt 0) = true from Bool.false_ne_true)]
  refine wpAny_bind (wpAny_field gc dc (x := u) rfl (wpAny_bind (wpAny_listPart hu (wpAny_bind (wpAny_field gc dc (x := .none) rfl (wpAny_bind (wpAny_listPart .none (wpAny_pure ?_))))))))
  unfold Builtin.List.listItems; refine wpAny_bind (wpAny_bind (wpAny_seqItems hp rfl (wpAny_pure ?_)))
  refine wpAny_bind (wpAny_of_eq ((sliceIndices_raw (some (a : Int)) none none old.size (by simp)).trans (congrArg (pure : Int × Int × Int → Sem (Int × Int × Int)) (tail_bounds ha))) ?_)
  have fin : ∀ (f : Array Value → Array Value) (g : List Value), f old = (old.toList.take a).toArray → wpAny (model pg wd) Ar.in1 (do Builtin.List.listUpdate (.ref p) f; letGo g; ret .none) (fun fin s' => ∃ v, fin = Fin.done (Flow.ret v) ∧ R () s') Er sh := fun f g hf => by
    have hz : (f old).size ≤ sizeLine + 1 := by
      rw [hf]
      simp
      omega
    show wpAny _ _ (updateSeq p f >>= _) _ _ sh
    refine wpAny_bind (wpAny_updateSeq (hz := fits) (_hz' := hz) hp rfl (wpAny_bind (wpAny_letGo ?_)))
    exact wpAny_pure ⟨.none, rfl, k _ hf⟩
  refine wpAny_bind (wpAny_rule ?_)
  refine fin _ _ ?_
  refine congrArg List.toArray (zip_cut (a := a) old.toList 0 fun i _ h2 => ?_)
  show (if (1 : Int) > 0 then (decide ((a : Int) ≤ (i : Int)) && decide ((i : Int) < (old.size : Int)) && (((i : Int) - (a : Int)) % 1 == 0)) else _) = _
  rw [if_pos (by decide)]
  have e : (((i : Int) - (a : Int)) % 1 == 0) = true := by simp
  have h3 : (i : Int) < (old.size : Int) := by
    rw [Nat.zero_add, Array.length_toList] at h2
    omega
  rw [e, decide_eq_true h3]
  by_cases c : a ≤ i
  · rw [decide_eq_true c, decide_eq_true (by omega)] <;> rfl
  · rw [decide_eq_false c, decide_eq_false (by omega)] <;> rfl
end
def tDelT (to tc : TE) : TS := fun D σ H => to σ H fun x H1 => tc σ H1 fun y H2 => ∃ (l : Addr) (xs : List V) (c : Nat), x = .ref l ∧ y = .int (c : Int) ∧ H2 l = some (.lst xs) ∧ c ≤ xs.length ∧ D.nx σ (upd H2 l (.lst (xs.take c)))
theorem Vals.take {xs : List V} {us : List Value} (h : Vals xs us) : ∀ n : Nat, Vals (xs.take n) (us.take n) := by
  induction h with
  | nil => intro n; simp; exact .nil
  | cons a b ih =>
    intro n
    cases n with
    | zero => exact .nil
    | succ n => exact .cons a (ih n)
theorem ps_delT {X : Cx} {o i : Expr} {to ti : TE} {p2 tpos pos : Pos} (ho : PE X o to) (hi : PE X i ti) : PS X (.Delete [.Subscript o (.Slice (some i) none none p2) tpos] pos) (tDelT to ti) := by
  refine ⟨fun pins s σ H D I h => ?_⟩
  refine wpAny_Delete (wpAny_deleteEach_cons (wpAny_delete_Subscript (thn (ho.run pins s σ H _ I h) fun u s1 ⟨x, H1, I1, rx, q1⟩ => wpAny_Slice ?_)))
  rw [evalPart_some]
  refine thn (hi.run pins s1 σ H1 _ I1 q1) fun iv s2 ⟨y, H2, I2, ry, l, xs, c, ex, ey, hH, hc, q⟩ => ?_
  subst ex
  subst ey
  cases (show u = Value.ref l from rx)
  obtain ⟨t, rfl⟩ := (show ∃ t, iv = Value.int (c : Int) t from ry)
  rw [evalPart_none]
  refine wpAny_pure (wpAny_pure ?_)
  have I4 : Inv X pins σ H2 { s2 with heap := s2.heap.push { cls := .type "slice", data := .fields #[.int (c : Int) t, .none, .none] } } := I2.kept (t' := s2.toks) fun b ob q => Heap.get?_push_of_some _ q
  obtain ⟨hz, its, n, rv, hl, e⟩ := I4.lstM hH
  refine del_cut e (Heap.IsSliceOf.new ..) (a := c) ?_ (by rw [List.size_toArray]; omega) (by rw [List.size_toArray]; omega) fun f hf => wpAny_deleteEach_nil ⟨σ, _, I4.lset (its' := its.take c) (t' := s2.toks) hH e ?_ (rv.take c) ?_, q⟩
  · exact .int _ _
  · rw [hf]
  · rw [List.length_take]
    omega

structure Ad where
  C_SaggarError : Addr
  C_BadClass : Addr
  C_Kind : Addr
  C_Change : Addr
  f_BadClass___init__ : Addr
  d_BadClass___init__ : FuncData
  f_is_name : Addr
  d_is_name : FuncData
  f_letters_end : Addr
  d_letters_end : FuncData
  f_name_end : Addr
  d_name_end : FuncData
  f_is_field_name : Addr
  d_is_field_name : FuncData
  f_Kind___init__ : Addr
  d_Kind___init__ : FuncData
  f_Change___init__ : Addr
  d_Change___init__ : FuncData
  f_plan_change : Addr
  d_plan_change : FuncData
  f_all_fields : Addr
  d_all_fields : FuncData
  f_is_under : Addr
  d_is_under : FuncData
  f_by_name : Addr
  d_by_name : FuncData
  f_line_of : Addr
  d_line_of : FuncData
  f_fields_in : Addr
  d_fields_in : FuncData
  f_check_classes : Addr
  d_check_classes : FuncData
  f_check_fields : Addr
  d_check_fields : FuncData
  f_check_all_fields : Addr
  d_check_all_fields : FuncData
  f__law_draw : Addr
  d__law_draw : FuncData
  f__law_kinds : Addr
  d__law_kinds : FuncData
  f__law_all : Addr
  d__law_all : FuncData
  f__law_under : Addr
  d__law_under : FuncData
  f__law_good : Addr
  d__law_good : FuncData
  f__law_why : Addr
  d__law_why : FuncData
  f__law_behind : Addr
  d__law_behind : FuncData
  f__law_planned : Addr
  d__law_planned : FuncData
  f__law_due : Addr
  d__law_due : FuncData
  f_law : Addr
  d_law : FuncData
  t_LONGEST_NAME : Tok
  t_LETTERS : Tok
  t_DIGITS : Tok
  t_RESERVED : Addr
  t_KERNEL : Addr
  t_MOST_FIELDS : Tok
structure Txt (K : PySem.W.Frag) (mg : Str → Option Value) (A : Ad) : Prop where
  m_SaggarError : mg "SaggarError" = some (.ref A.C_SaggarError)
  m_BadClass : mg "BadClass" = some (.ref A.C_BadClass)
  x_BadClass : ExF K A.C_BadClass A.f_BadClass___init__
  no_BadClass_why : PySem.W.findIn K (.ref A.C_BadClass) "why" = some none
  ex_BadClass_BadClass : PySem.W.exmOne K (.ref A.C_BadClass) (.ref A.C_BadClass) = some true
  m_Kind : mg "Kind" = some (.ref A.C_Kind)
  cl_Kind : Cls K A.C_Kind
  mk_Kind : Mk K A.C_Kind A.f_Kind___init__
  no_Kind_name : NoAttr K A.C_Kind "name"
  no_Kind_superclass : NoAttr K A.C_Kind "superclass"
  no_Kind_fields : NoAttr K A.C_Kind "fields"
  m_Change : mg "Change" = some (.ref A.C_Change)
  cl_Change : Cls K A.C_Change
  mk_Change : Mk K A.C_Change A.f_Change___init__
  no_Change_name : NoAttr K A.C_Change "name"
  no_Change_old : NoAttr K A.C_Change "old"
  no_Change_new : NoAttr K A.C_Change "new"
  no_Change_origins : NoAttr K A.C_Change "origins"
  k_BadClass___init__ : PySem.W.keepIn K (.ref A.f_BadClass___init__) = true
  F_BadClass___init__ : Fun K "__init__" "BadClass.__init__" s_BadClass___init__ A.f_BadClass___init__ A.d_BadClass___init__
  b_BadClass___init__ : Binds K A.d_BadClass___init__ ["self", "why"] []
  g_is_name : mg "is_name" = some (.ref A.f_is_name)
  k_is_name : PySem.W.keepIn K (.ref A.f_is_name) = true
  F_is_name : Fun K "is_name" "is_name" s_is_name A.f_is_name A.d_is_name
  b_is_name : Binds K A.d_is_name ["text"] []
  g_letters_end : mg "letters_end" = some (.ref A.f_letters_end)
  k_letters_end : PySem.W.keepIn K (.ref A.f_letters_end) = true
  F_letters_end : Fun K "letters_end" "letters_end" s_letters_end A.f_letters_end A.d_letters_end
  b_letters_end : Binds K A.d_letters_end ["source", "at"] []
  g_name_end : mg "name_end" = some (.ref A.f_name_end)
  k_name_end : PySem.W.keepIn K (.ref A.f_name_end) = true
  F_name_end : Fun K "name_end" "name_end" s_name_end A.f_name_end A.d_name_end
  b_name_end : Binds K A.d_name_end ["source", "at"] []
  g_is_field_name : mg "is_field_name" = some (.ref A.f_is_field_name)
  k_is_field_name : PySem.W.keepIn K (.ref A.f_is_field_name) = true
  F_is_field_name : Fun K "is_field_name" "is_field_name" s_is_field_name A.f_is_field_name A.d_is_field_name
  b_is_field_name : Binds K A.d_is_field_name ["text"] []
  k_Kind___init__ : PySem.W.keepIn K (.ref A.f_Kind___init__) = true
  F_Kind___init__ : Fun K "__init__" "Kind.__init__" s_Kind___init__ A.f_Kind___init__ A.d_Kind___init__
  b_Kind___init__ : Binds K A.d_Kind___init__ ["self", "name", "superclass", "fields"] []
  k_Change___init__ : PySem.W.keepIn K (.ref A.f_Change___init__) = true
  F_Change___init__ : Fun K "__init__" "Change.__init__" s_Change___init__ A.f_Change___init__ A.d_Change___init__
  b_Change___init__ : Binds K A.d_Change___init__ ["self", "name", "old", "new"] []
  g_plan_change : mg "plan_change" = some (.ref A.f_plan_change)
  k_plan_change : PySem.W.keepIn K (.ref A.f_plan_change) = true
  F_plan_change : Fun K "plan_change" "plan_change" s_plan_change A.f_plan_change A.d_plan_change
  b_plan_change : Binds K A.d_plan_change ["kinds", "name", "superclass", "fields"] []
  g_all_fields : mg "all_fields" = some (.ref A.f_all_fields)
  k_all_fields : PySem.W.keepIn K (.ref A.f_all_fields) = true
  F_all_fields : Fun K "all_fields" "all_fields" s_all_fields A.f_all_fields A.d_all_fields
  b_all_fields : Binds K A.d_all_fields ["kinds", "name"] []
  g_is_under : mg "is_under" = some (.ref A.f_is_under)
  k_is_under : PySem.W.keepIn K (.ref A.f_is_under) = true
  F_is_under : Fun K "is_under" "is_under" s_is_under A.f_is_under A.d_is_under
  b_is_under : Binds K A.d_is_under ["kinds", "name", "other"] []
  g_by_name : mg "by_name" = some (.ref A.f_by_name)
  k_by_name : PySem.W.keepIn K (.ref A.f_by_name) = true
  F_by_name : Fun K "by_name" "by_name" s_by_name A.f_by_name A.d_by_name
  b_by_name : Binds K A.d_by_name ["kinds"] []
  g_line_of : mg "line_of" = some (.ref A.f_line_of)
  k_line_of : PySem.W.keepIn K (.ref A.f_line_of) = true
  F_line_of : Fun K "line_of" "line_of" s_line_of A.f_line_of A.d_line_of
  b_line_of : Binds K A.d_line_of ["table", "name"] []
  g_fields_in : mg "fields_in" = some (.ref A.f_fields_in)
  k_fields_in : PySem.W.keepIn K (.ref A.f_fields_in) = true
  F_fields_in : Fun K "fields_in" "fields_in" s_fields_in A.f_fields_in A.d_fields_in
  b_fields_in : Binds K A.d_fields_in ["table", "name"] []
  g_check_classes : mg "check_classes" = some (.ref A.f_check_classes)
  k_check_classes : PySem.W.keepIn K (.ref A.f_check_classes) = true
  F_check_classes : Fun K "check_classes" "check_classes" s_check_classes A.f_check_classes A.d_check_classes
  b_check_classes : Binds K A.d_check_classes ["table", "name", "superclass"] []
  g_check_fields : mg "check_fields" = some (.ref A.f_check_fields)
  k_check_fields : PySem.W.keepIn K (.ref A.f_check_fields) = true
  F_check_fields : Fun K "check_fields" "check_fields" s_check_fields A.f_check_fields A.d_check_fields
  b_check_fields : Binds K A.d_check_fields ["fields"] []
  g_check_all_fields : mg "check_all_fields" = some (.ref A.f_check_all_fields)
  k_check_all_fields : PySem.W.keepIn K (.ref A.f_check_all_fields) = true
  F_check_all_fields : Fun K "check_all_fields" "check_all_fields" s_check_all_fields A.f_check_all_fields A.d_check_all_fields
  b_check_all_fields : Binds K A.d_check_all_fields ["fields"] []
  g__law_draw : mg "_law_draw" = some (.ref A.f__law_draw)
  k__law_draw : PySem.W.keepIn K (.ref A.f__law_draw) = true
  F__law_draw : Fun K "_law_draw" "_law_draw" s__law_draw A.f__law_draw A.d__law_draw
  b__law_draw : Binds K A.d__law_draw ["state", "script", "size"] []
  g__law_kinds : mg "_law_kinds" = some (.ref A.f__law_kinds)
  k__law_kinds : PySem.W.keepIn K (.ref A.f__law_kinds) = true
  F__law_kinds : Fun K "_law_kinds" "_law_kinds" s__law_kinds A.f__law_kinds A.d__law_kinds
  b__law_kinds : Binds K A.d__law_kinds ["state", "script"] []
  g__law_all : mg "_law_all" = some (.ref A.f__law_all)
  k__law_all : PySem.W.keepIn K (.ref A.f__law_all) = true
  F__law_all : Fun K "_law_all" "_law_all" s__law_all A.f__law_all A.d__law_all
  b__law_all : Binds K A.d__law_all ["kinds", "name"] []
  g__law_under : mg "_law_under" = some (.ref A.f__law_under)
  k__law_under : PySem.W.keepIn K (.ref A.f__law_under) = true
  F__law_under : Fun K "_law_under" "_law_under" s__law_under A.f__law_under A.d__law_under
  b__law_under : Binds K A.d__law_under ["kinds", "name", "other"] []
  g__law_good : mg "_law_good" = some (.ref A.f__law_good)
  k__law_good : PySem.W.keepIn K (.ref A.f__law_good) = true
  F__law_good : Fun K "_law_good" "_law_good" s__law_good A.f__law_good A.d__law_good
  b__law_good : Binds K A.d__law_good ["name"] []
  g__law_why : mg "_law_why" = some (.ref A.f__law_why)
  k__law_why : PySem.W.keepIn K (.ref A.f__law_why) = true
  F__law_why : Fun K "_law_why" "_law_why" s__law_why A.f__law_why A.d__law_why
  b__law_why : Binds K A.d__law_why ["kinds", "name", "above", "own"] []
  g__law_behind : mg "_law_behind" = some (.ref A.f__law_behind)
  k__law_behind : PySem.W.keepIn K (.ref A.f__law_behind) = true
  F__law_behind : Fun K "_law_behind" "_law_behind" s__law_behind A.f__law_behind A.d__law_behind
  b__law_behind : Binds K A.d__law_behind ["kinds", "name", "above", "own"] []
  g__law_planned : mg "_law_planned" = some (.ref A.f__law_planned)
  k__law_planned : PySem.W.keepIn K (.ref A.f__law_planned) = true
  F__law_planned : Fun K "_law_planned" "_law_planned" s__law_planned A.f__law_planned A.d__law_planned
  b__law_planned : Binds K A.d__law_planned ["kinds", "name", "above", "own"] []
  g__law_due : mg "_law_due" = some (.ref A.f__law_due)
  k__law_due : PySem.W.keepIn K (.ref A.f__law_due) = true
  F__law_due : Fun K "_law_due" "_law_due" s__law_due A.f__law_due A.d__law_due
  b__law_due : Binds K A.d__law_due ["kinds", "name", "above", "own"] []
  g_law : mg "law" = some (.ref A.f_law)
  k_law : PySem.W.keepIn K (.ref A.f_law) = true
  F_law : Fun K "law" "law" s_law A.f_law A.d_law
  b_law : Binds K A.d_law ["script"] []
  c_LONGEST_NAME : mg "LONGEST_NAME" = some (.int (32) A.t_LONGEST_NAME)
  c_LETTERS : mg "LETTERS" = some (.str "abcdefghijklmnopqrstuvwxyzABCDEFGHIJKLMNOPQRSTUVWXYZ" A.t_LETTERS)
  c_DIGITS : mg "DIGITS" = some (.str "0123456789" A.t_DIGITS)
  c_RESERVED : mg "RESERVED" = some (.ref A.t_RESERVED)
  q_RESERVED : ∀ H, SqT K H A.t_RESERVED [.str "nil", .str "true", .str "false", .str "self", .str "super"]
  c_KERNEL : mg "KERNEL" = some (.ref A.t_KERNEL)
  q_KERNEL : ∀ H, SqT K H A.t_KERNEL [.str "Object", .str "Class", .str "Undefined", .str "True", .str "False", .str "Integer", .str "Symbol", .str "Array", .str "Association", .str "Method", .str "Code", .str "Block", .str "Context", .str "Process", .str "Semaphore"]
  c_MOST_FIELDS : mg "MOST_FIELDS" = some (.int (32) A.t_MOST_FIELDS)
  z_ValueError : mg "ValueError" = none
  z_dict : mg "dict" = none
  z_enumerate : mg "enumerate" = none
  z_int : mg "int" = none
  z_len : mg "len" = none
  z_list : mg "list" = none
  z_range : mg "range" = none
  z_repr : mg "repr" = none
  z_reversed : mg "reversed" = none
  z_set : mg "set" = none
  z_str : mg "str" = none
  z_tuple : mg "tuple" = none

theorem exf_BadClass {K : PySem.W.Frag} {mg : Str → Option Value} {A : Ad} (T : Txt K mg A) : (∃ x, ExF K A.C_BadClass x) = True := tt_true ⟨_, T.x_BadClass⟩
theorem sne_Kind_name_superclass : ((Str.ofString "name") = Str.ofString "superclass") = False := eq_false (by decide)
theorem sne_Kind_name_fields : ((Str.ofString "name") = Str.ofString "fields") = False := eq_false (by decide)
theorem sne_Kind_superclass_fields : ((Str.ofString "superclass") = Str.ofString "fields") = False := eq_false (by decide)
theorem sne_Change_name_old : ((Str.ofString "name") = Str.ofString "old") = False := eq_false (by decide)
theorem sne_Change_name_new : ((Str.ofString "name") = Str.ofString "new") = False := eq_false (by decide)
theorem sne_Change_old_new : ((Str.ofString "old") = Str.ofString "new") = False := eq_false (by decide)
theorem sne_Change_name_origins : ((Str.ofString "name") = Str.ofString "origins") = False := eq_false (by decide)
theorem sne_Change_old_origins : ((Str.ofString "old") = Str.ofString "origins") = False := eq_false (by decide)
theorem sne_Change_new_origins : ((Str.ofString "new") = Str.ofString "origins") = False := eq_false (by decide)
section
variable {P : Program} {w : World} {K : PySem.W.Frag} {mg : Str → Option Value} {base : Heap} {A : Ad}
theorem ok_BadClass___init__ (T : Txt K mg A) : FnOk P w K mg base CX0 1 A.f_BadClass___init__ A.d_BadClass___init__ ["self", "why"] (sp_ex1 A.C_BadClass "why") := by
  refine Fun.ok T.F_BadClass___init__ sc_BadClass___init__ (fun vs H Q E h => ?_) (fun cdv Ar outer s H vs Q E hr h => ?_)
  · obtain ⟨_, _, rfl, _⟩ := h
    rfl
  · obtain ⟨a, v, rfl, ha, k⟩ := h
    refine ⟨_, pss_one (ps_ost (pv 0) (pv 1)), ?_⟩
    exact ⟨v, rfl, .ref a, rfl, a, A.C_BadClass, rfl, T.x_BadClass.o, T.no_BadClass_why, .inl ⟨ha, fun dx hdx ne => k dx hdx ne⟩⟩
end

set_option hygiene false in
local macro_rules
  | `(tactic| simp! only [$xs,*]) => `(tactic| simp (config := { maxSteps := 4000000 }) only [tSeq, tNext, tDrop, tRet, tRetN, tIfS, tAsg, tTest, tAnd, tOr, tNot, tAndV, tOrV, tNotV, tIf, tOp, tUn, tVar, tC, tCB, tCons, tNil, tCall, tPart, tNoPart, tM0, tM1, tTup, tLst, tB, tIsN, tNotN, rI0, rI, rU, rEq, rNe, rAdd, gName, gTup, gCons, gNil, gSub, rSetL, rIxL, rIxT, rIxS, L2.start,
      List.map_cons, List.map_nil, List.cons_append, List.nil_append, List.append_nil, List.length_cons, List.length_nil, List.replicate, List.getElem?_cons_zero, List.getElem?_cons_succ, List.set_cons_zero, List.set_cons_succ, Nat.reduceAdd, Nat.reduceSub, Nat.sub_self, Nat.zero_add,
      Option.some.injEq, V.int.injEq, V.str.injEq, V.bl.injEq, V.ref.injEq, V.ty.injEq, List.cons.injEq, and_true, true_and, exists_eq_left, exists_eq_left', exists_eq_right, exists_and_left, exists_and_right, exists_const, decide_eq_true_eq, decide_eq_false_iff_not, if_true, if_false, reduceIte, Bool.false_eq_true, Bool.not_eq_true', sc_ii, sc_ss, sc_bb, str1, cx_K, lstAt, rIxM, rSetM, rLenM, atI_0, atI_1, atI_2, atI_3, setI_0, setI_1, setI_2, setI_3, upd_same, upd_upd, ite_true, ite_false, exists_eq', eq_self, and_assoc, rIsS, isTy_bb, isTy_bi, isTy_ib, isTy_ii, isTy_ss, isTy_nb, isTy_ni, Bool.not_true, Bool.not_false, not_true_eq_false, not_false_eq_true, tChain, tRz1, tRz2, rIsX, tFx, tMethE, tCallS, tCallZ, tMeth, tMake, tFld, sFld, HO.ins.injEq, HO.lst.injEq, HO.dK.injEq, HO.tup.injEq, dcAt, dcRd, rDInM, rDGetM, rDSetM, rDLenM, keyOf_int, keyOf_str, rIsBM, plainV_b, plainV_i, plainV_n, plainV_s, rInM, rListM, rSortM, rSumM, rIsD, tBMM, tBM0M, tSl, rSlM, rAppend, rPop, rClear, wAs, reduceCtorEq, false_implies, true_implies, implies_true, forall_const, cxH_K, clsV_ref, clsV_ty, HO.xd.injEq, Value.ref.injEq, lkc, lkn, pfn, pfc, List.map_nil, rExtend, rCat, rRep, tMethE0, rSortD, rPush, rPopH, tDGetM, gAll, iRev, tCB, sDDel, wPair, tBreak, tDelT, rDLenR, tMethN, exf_BadClass T, sne_Kind_name_superclass, sne_Kind_name_fields, sne_Kind_superclass_fields, sne_Change_name_old, sne_Change_name_new, sne_Change_old_new, sne_Change_name_origins, sne_Change_old_origins, sne_Change_new_origins, T.no_BadClass_why, T.ex_BadClass_BadClass, $xs,*])
set_option hygiene false in
local macro_rules
  | `(tactic| dsimp! only [$xs,*]) => `(tactic| simp (config := { maxSteps := 4000000 }) only [tSeq, tNext, tDrop, tRet, tRetN, tIfS, tAsg, tTest, tAnd, tOr, tNot, tAndV, tOrV, tNotV, tIf, tOp, tUn, tVar, tC, tCB, tCons, tNil, tCall, tPart, tNoPart, tM0, tM1, tTup, tLst, tB, tIsN, tNotN, rI0, rI, rU, rEq, rNe, rAdd, gName, gTup, gCons, gNil, gSub, rSetL, rIxL, rIxT, rIxS, L2.start,
      List.map_cons, List.map_nil, List.cons_append, List.nil_append, List.append_nil, List.length_cons, List.length_nil, List.replicate, List.getElem?_cons_zero, List.getElem?_cons_succ, List.set_cons_zero, List.set_cons_succ, Nat.reduceAdd, Nat.reduceSub, Nat.sub_self, Nat.zero_add,
      Option.some.injEq, V.int.injEq, V.str.injEq, V.bl.injEq, V.ref.injEq, V.ty.injEq, List.cons.injEq, and_true, true_and, exists_eq_left, exists_eq_left', exists_eq_right, exists_and_left, exists_and_right, exists_const, decide_eq_true_eq, decide_eq_false_iff_not, if_true, if_false, reduceIte, Bool.false_eq_true, Bool.not_eq_true', sc_ii, sc_ss, sc_bb, str1, cx_K, lstAt, rIxM, rSetM, rLenM, atI_0, atI_1, atI_2, atI_3, setI_0, setI_1, setI_2, setI_3, upd_same, upd_upd, ite_true, ite_false, exists_eq', eq_self, and_assoc, rIsS, isTy_bb, isTy_bi, isTy_ib, isTy_ii, isTy_ss, isTy_nb, isTy_ni, Bool.not_true, Bool.not_false, not_true_eq_false, not_false_eq_true, tChain, tRz1, tRz2, rIsX, tFx, tMethE, tCallS, tCallZ, tMeth, tMake, tFld, sFld, HO.ins.injEq, HO.lst.injEq, HO.dK.injEq, HO.tup.injEq, dcAt, dcRd, rDInM, rDGetM, rDSetM, rDLenM, keyOf_int, keyOf_str, rIsBM, plainV_b, plainV_i, plainV_n, plainV_s, rInM, rListM, rSortM, rSumM, rIsD, tBMM, tBM0M, tSl, rSlM, rAppend, rPop, rClear, wAs, reduceCtorEq, false_implies, true_implies, implies_true, forall_const, cxH_K, clsV_ref, clsV_ty, HO.xd.injEq, Value.ref.injEq, lkc, lkn, pfn, pfc, List.map_nil, rExtend, rCat, rRep, tMethE0, rSortD, rPush, rPopH, tDGetM, gAll, iRev, tCB, sDDel, wPair, tBreak, tDelT, rDLenR, tMethN, exf_BadClass T, sne_Kind_name_superclass, sne_Kind_name_fields, sne_Kind_superclass_fields, sne_Change_name_old, sne_Change_name_new, sne_Change_old_new, sne_Change_name_origins, sne_Change_old_origins, sne_Change_new_origins, T.no_BadClass_why, T.ex_BadClass_BadClass, T.cl_Kind, $xs,*])
set_option hygiene false in
local macro_rules
  | `(tactic| simp_all! only [$xs,*]) => `(tactic| simp (config := { maxSteps := 4000000 }) only [tSeq, tNext, tDrop, tRet, tRetN, tIfS, tAsg, tTest, tAnd, tOr, tNot, tAndV, tOrV, tNotV, tIf, tOp, tUn, tVar, tC, tCB, tCons, tNil, tCall, tPart, tNoPart, tM0, tM1, tTup, tLst, tB, tIsN, tNotN, rI0, rI, rU, rEq, rNe, rAdd, gName, gTup, gCons, gNil, gSub, rSetL, rIxL, rIxT, rIxS, L2.start,
      List.map_cons, List.map_nil, List.cons_append, List.nil_append, List.append_nil, List.length_cons, List.length_nil, List.replicate, List.getElem?_cons_zero, List.getElem?_cons_succ, List.set_cons_zero, List.set_cons_succ, Nat.reduceAdd, Nat.reduceSub, Nat.sub_self, Nat.zero_add,
      Option.some.injEq, V.int.injEq, V.str.injEq, V.bl.injEq, V.ref.injEq, V.ty.injEq, List.cons.injEq, and_true, true_and, exists_eq_left, exists_eq_left', exists_eq_right, exists_and_left, exists_and_right, exists_const, decide_eq_true_eq, decide_eq_false_iff_not, if_true, if_false, reduceIte, Bool.false_eq_true, Bool.not_eq_true', sc_ii, sc_ss, sc_bb, str1, cx_K, lstAt, rIxM, rSetM, rLenM, atI_0, atI_1, atI_2, atI_3, setI_0, setI_1, setI_2, setI_3, upd_same, upd_upd, ite_true, ite_false, exists_eq', eq_self, and_assoc, rIsS, isTy_bb, isTy_bi, isTy_ib, isTy_ii, isTy_ss, isTy_nb, isTy_ni, Bool.not_true, Bool.not_false, not_true_eq_false, not_false_eq_true, tChain, tRz1, tRz2, rIsX, tFx, tMethE, tCallS, tCallZ, tMeth, tMake, tFld, sFld, HO.ins.injEq, HO.lst.injEq, HO.dK.injEq, HO.tup.injEq, dcAt, dcRd, rDInM, rDGetM, rDSetM, rDLenM, keyOf_int, keyOf_str, rIsBM, plainV_b, plainV_i, plainV_n, plainV_s, rInM, rListM, rSortM, rSumM, rIsD, tBMM, tBM0M, tSl, rSlM, rAppend, rPop, rClear, wAs, reduceCtorEq, false_implies, true_implies, implies_true, forall_const, cxH_K, clsV_ref, clsV_ty, HO.xd.injEq, Value.ref.injEq, lkc, lkn, pfn, pfc, List.map_nil, rExtend, rCat, rRep, tMethE0, rSortD, rPush, rPopH, tDGetM, gAll, iRev, tCB, sDDel, wPair, tBreak, tDelT, rDLenR, tMethN, exf_BadClass T, sne_Kind_name_superclass, sne_Kind_name_fields, sne_Kind_superclass_fields, sne_Change_name_old, sne_Change_name_new, sne_Change_old_new, sne_Change_name_origins, sne_Change_old_origins, sne_Change_new_origins, T.no_BadClass_why, T.ex_BadClass_BadClass, T.cl_Kind, T.cl_Change, $xs,*])

/-! ### o.m(e, .., k = v) -/
def tMethN (C : Addr) (m : Str) (n l : Nat) (sp : Sp) (gV : List V → List V → List V) (E : XK) (ta : TE) (t tk : TA) : TE := fun σ H Q => ta σ H fun x H1 => ∃ a dx fs, x = .ref a ∧ H1 a = some (.ins C dx fs) ∧ fs.lookup m = none ∧ t σ H1 fun vs H2 => tk σ H2 fun zs H3 => (x :: vs).length = n ∧ zs.length = l ∧ sp (gV (x :: vs) zs) H3 Q E
theorem pe_methN {X : Cx} {CX : CXT} {k n : Nat} {C f : Addr} {fd : FuncData} {ps ks : List Str} {m : Str} {sp : Sp} {E : XK} {o e : Expr} {es : List Expr} {kws : List Keyword} {ta : TE} {t tk : TA} {apos pos : Pos} {pl : Sem Bool} {g : List Value → List Value → List Value} {gV : List V → List V → List V} (he : PE X o ta) (c : Cls X.K C) (hm : Meth X.K C m f)
    (F : FnOk X.prog X.w X.K X.mg X.base CX k f fd ps sp) (hr : Room k X.A) (hb : KBn X.K fd ps n ks g gV) (hx : Passes CX X E) (ha : PA X (e :: es) t) (hkw : L2.PK X kws tk)
    (hall : (backToKw pos (keywordEach kws X.env)).all (·.1.isSome) = true := by rfl) (hks : (backToKw pos (keywordEach kws X.env)).filterMap (·.1) = ks := by rfl)
    (hst : starEach (e :: es) X.env = (false, eval e X.env) :: starEach es X.env := by rfl)
    (hpl : ((backTo pos (starEach (e :: es) X.env)).any (·.1) || (backToKw pos (keywordEach kws X.env)).any (·.1.isNone)) = false := by rfl)
    (ht : eval (.Call (.Attribute o m apos) (e :: es) kws pos) X.env = (do
      let ov ← eval o X.env
      standAt apos.atName
      let (f, first) ← holding [ov] (getMethod ov m pl)
      callWith pos f first (backTo pos (starEach (e :: es) X.env)) (backToKw pos (keywordEach kws X.env))) := by rfl) :
    PE X (.Call (.Attribute o m apos) (e :: es) kws pos) (tMethN C m n ks.length sp gV E ta t tk) := by
  refine ⟨fun pins s σ H Q I h => ?_⟩
  refine PySem.W.methodCall_KW (pl := pl) (thn (he.run pins s σ H _ I h) fun u1 s1 hh => ?_) ht
  obtain ⟨x, H1, I1, rx, a, dx, fs, rfl, ea, l, q⟩ := hh
  cases rx
  refine getmeth_ok I1 ea c hm l ?_
  refine PySem.W.callWith_KW (first := [.ref a]) (h₀ := X.base) I.ok.mod.kin hm.kp hall (thn (ha.run pos pins s1 σ H1 _ I1 q) fun us s2 ⟨vs, H2, I2, r, q2⟩ => ?_) hpl hst
  refine thn (hkw.run pos pins s2 σ H2 _ I2 q2) fun ws s3 ⟨zs, H3, I3, rz, l1, l2, q3⟩ => ⟨I3.kIn, ?_⟩
  rw [hks]
  exact run_fnN (us := .ref a :: us) (vs := .ref a :: vs) F hr hb hx I3 (.cons rfl r) rz l1 l2 q3
/-- all keyword-only parameters are given -/
theorem Fun.kbinds {K : PySem.W.Frag} {x qual : Str} {st : Stmt} {f : Addr} {fd : FuncData} {ps : List Str} (F : Fun K x qual st f fd) (n : Nat) (ks : List Str)
    (h : ∀ (kV doc pm : Value) (an : Option Addr) (cdv ct : Value) (us ws : List Value), us.length = n → ws.length = ks.length → bindArgs (PySem.W.fnOf x qual (defArgs st) (defBody st) (defScope st) .none kV doc pm an cdv ct) ⟨us, ks.zip ws⟩ = pure (ps.zip (us ++ ws))) :
    KBn K fd ps n ks (fun us ws => us ++ ws) (fun vs zs => vs ++ zs) := by
  obtain ⟨oc, od, kV, doc, pm, an, cdv, ct, osl, rfl, lk, hcd⟩ := F.ex
  exact ⟨fun s us ws X l1 l2 => .of_eq (h kV doc pm an cdv ct us ws l1 l2), fun r1 r2 => r1.append r2⟩
theorem FunD.kbinds0 {K : PySem.W.Frag} {x qual : Str} {params : Arguments} {body : List Stmt} {scope : Scope} {kws : List (Str × V)} {f : Addr} {fd : FuncData} {ps : List Str} (F : FunD K x qual params body scope [] kws f fd) (n : Nat) (ks : List Str)
    (h : ∀ (kV doc pm : Value) (an : Option Addr) (cdv ct : Value) (us ws : List Value), us.length = n → ws.length = ks.length → bindArgs (PySem.W.fnOf x qual params body scope .none kV doc pm an cdv ct) ⟨us, ks.zip ws⟩ = pure (ps.zip (us ++ ws))) :
    KBn K fd ps n ks (fun us ws => us ++ ws) (fun vs zs => vs ++ zs) := by
  obtain ⟨oc, od, dV, kV, doc, pm, an, cdv, ct, osl, rfl, lk, hcd, hD, hK⟩ := F.ex
  rcases hD with ⟨_, rfl⟩ | ⟨e, _⟩
  · exact ⟨fun s us ws X l1 l2 => .of_eq (h kV doc pm an cdv ct us ws l1 l2), fun r1 r2 => r1.append r2⟩
  · exact absurd rfl e
/-- {x: True for x in xs} -/
def mkF (xs : List Int) : List (Key × V) := xs.foldl (fun kvs n => putK kvs (Sum.inl n) (.bl true)) []
theorem mkF_snoc (xs : List Int) (n : Int) : mkF (xs ++ [n]) = putK (mkF xs) (Sum.inl n) (.bl true) := by
  unfold mkF
  rw [List.foldl_append]
  rfl
theorem mkF_some (xs : List Int) (n : Int) : (valV (mkF xs) (Sum.inl n)).isSome = decide (n ∈ xs) := by
  have h : ∀ (xs : List Int) (kvs : List (Key × V)), (valV (xs.foldl (fun kvs n => putK kvs (Sum.inl n) (.bl true)) kvs) (Sum.inl n)).isSome = ((valV kvs (Sum.inl n)).isSome || decide (n ∈ xs)) := by
    intro xs
    induction xs with
    | nil => intro kvs; simp
    | cons m xs ih =>
      intro kvs
      rw [List.foldl_cons, ih, valV_put]
      by_cases c : n = m
      · subst c
        simp
      · rw [if_neg (fun z => c (Sum.inl.inj z))]
        simp [c]
  have := h xs []
  rw [valV_nil] at this
  unfold mkF
  simpa using this
theorem mkF_len (xs : List Int) : (mkF xs).length ≤ xs.length := by
  have h : ∀ (xs : List Int) (kvs : List (Key × V)), (xs.foldl (fun kvs n => putK kvs (Sum.inl n) (.bl true)) kvs).length ≤ kvs.length + xs.length := by
    intro xs
    induction xs with
    | nil => intro kvs; exact Nat.le_refl _
    | cons m xs ih =>
      intro kvs
      have h1 := ih (putK kvs (Sum.inl m) (.bl true))
      have h2 := length_putK kvs (Sum.inl m) (.bl true)
      rw [List.foldl_cons, List.length_cons]
      omega
  have := h xs []
  rw [List.length_nil, Nat.zero_add] at this
  exact this
theorem dc_ints {K : PySem.W.Frag} {tl : TE} {c : Nat} {σ : L2.St} {H : Hp} {Q : VK} {a : Addr} (ns : List Int) (htl : ∀ R : V → Hp → Prop, R (.ref a) H → tl σ H R) (ha : H a = some (.lst (ns.map V.int))) (hc : c < σ.length) (hn : ns.length ≤ 100000)
    (k : ∀ D, H D = none → Q (.ref D) (upd H D (.dK (mkF ns)))) : tDc (iList K tl) (gName c) tYes (tVar c) (tC (.bl true)) [c] σ H Q := by
  refine htl _ ⟨a, rfl, ⟨_, .inl (.inl ha)⟩, fun D hD => ?_⟩
  have sm : ∀ kvs, Same H (upd H D (.dK kvs)) := fun kvs => same_new hD
  have szl : (100000 : Nat) < sizeLine := by decide
  refine ⟨fun i m H' => m = ns.length - i ∧ i ≤ ns.length ∧ H' = upd H D (.dK (mkF (ns.take i))), ⟨_, rfl, Nat.zero_le _, rfl⟩, ?_⟩
  rintro i m H' ⟨rfl, hi, rfl⟩
  have hd' := sm (mkF (ns.take i)) _ _ ha
  have sq : SqL K (upd H D (.dK (mkF (ns.take i)))) a (ns.map V.int) := .inl (.inl hd')
  by_cases hlt : i < ns.length
  · have hx : (ns.map V.int)[i]? = some (.int ns[i]) := by rw [List.getElem?_map, List.getElem?_eq_getElem hlt]; rfl
    refine .inr ⟨⟨_, _, sq, hx⟩, fun H2 => H2 = upd H D (.dK (mkF (ns.take (i + 1)))), fun H2 h2 => ⟨ns.length - (i + 1), by omega, rfl, hlt, h2⟩, fun x H2 hy => ?_⟩
    obtain ⟨rfl, hy⟩ := hy
    have ex := hy _ sq
    rw [hx] at ex
    have ex := Option.some.inj ex
    subst ex
    refine ⟨?_, ?_⟩
    · show List.set (List.set (List.set σ c none) c _) c none = List.set σ c none
      rw [List.set_set, List.set_set]
    · simp only [tYes, if_true]
      refine ⟨.int ns[i], ?_, mkF (ns.take i), Sum.inl ns[i], rfl, upd_same, ?_, ?_⟩
      · show (List.set (List.set σ c none) c _)[c]? = _
        rw [List.getElem?_set_self (by rw [List.length_set]; exact hc)]
      · have := mkF_len (ns.take i)
        rw [List.length_take] at this
        omega
      · rw [upd_upd, List.take_add_one, List.getElem?_eq_getElem hlt]
        show _ = upd H D (.dK (mkF (ns.take i ++ [ns[i]])))
        rw [mkF_snoc]
  · have e : i = ns.length := by omega
    subst e
    refine .inl ⟨⟨_, sq, by rw [List.length_map]; exact Nat.le_refl _⟩, ?_⟩
    rw [List.take_length]
    exact k D hD

/-! ### enumerate over a tuple; a loop over enumerate -/
theorem meets_enumerate_newB1 {v : Value} {o : Obj} {H : Heap → Prop} (B : Begins v o H) :
    Meets (Builtin.«enumerate.__new__» ⟨[.type "enumerate", v], []⟩) (fun _ R s => H s.heap ∧
      R (.ok (.ret (.ref (s.heap.push o).objs.size))) { s with heap := (s.heap.push o).push { cls := .type "enumerate", data := .fields #[.none, .bool false, .ref s.heap.objs.size, rawInt 0, .none, .none] } }) :=
  .of_wp fun prog w A R s h => by
    obtain ⟨hp, g, d, tk, os⟩ := s; obtain ⟨h1, h⟩ := h
    have hsub := sub_enumerate
    have q1 : ∀ {A' : Around} {E : Value → Shared → Prop} {Q : Value → Shared → Prop}, Q (.ref hp.objs.size) ⟨hp.push o, g, d, tk, os⟩ → wpAny (model prog w) A' (pyIter v) Q E ⟨hp, g, d, tk, os⟩ :=
      fun q => B.iter prog w _ _ ⟨hp, g, d, tk, os⟩ _ h1 q
    wp_walk using q1
    refine wpAny_stack_any fun st => wpAny_pure ?_
    split
    · rename_i c _ _ _ _ _
      cases (c == Value.type "enumerate")
      · wp_walk using q1
        exact ⟨_, rfl, h⟩
      · wp_walk using q1
        exact ⟨_, rfl, h⟩
    · wp_walk using q1
      exact ⟨_, rfl, h⟩
theorem call_enumerate_tuple {prog : Program} {w : World} {A : Around} {E : Value → Shared → Prop} {s : Shared} {l : Addr} {items : Array Value} {Q : Value → Shared → Prop} (hL : s.heap.IsTuple l items)
    (h : ∀ h', IsEnum h' (s.heap.objs.size + 1) s.heap.objs.size 0 .none → h'.IsTupleIter s.heap.objs.size l 0 → h'.objs.size = s.heap.objs.size + 2 →
      (∀ b o, s.heap.get? b = some o → h'.get? b = some o) → Q (.ref (s.heap.objs.size + 1)) { s with heap := h' }) :
    wpAny (model prog w) A (call (.type "enumerate") [.ref l]) Q E s := by
  refine callType_new F.called_enumerate (by decide) (F.typeCall_enumerate_1 _) (F.newCall_enumerate_1 _) (fun obj => F.args_object_init_2 obj _) F.entry_enumerate_new
    (meets_enumerate_newB1 (begins_tuple l items)) ⟨hL, ?_⟩
  have hz : (s.heap.push { cls := .type "tuple_iterator", data := .fields #[.ref l, .int 0 0] }).objs.size = s.heap.objs.size + 1 := Heap.size_push ..
  show _ ∧ _
  rw [hz]
  have he : IsEnum ((s.heap.push { cls := .type "tuple_iterator", data := .fields #[.ref l, .int 0 0] }).push
      { cls := .type "enumerate", data := .fields #[.none, .bool false, .ref s.heap.objs.size, rawInt 0, .none, .none] }) (s.heap.objs.size + 1) s.heap.objs.size 0 .none := by
    have := Heap.get?_push_size (s.heap.push { cls := .type "tuple_iterator", data := .fields #[.ref l, .int 0 0] })
      (o := { cls := .type "enumerate", data := .fields #[.none, .bool false, .ref s.heap.objs.size, rawInt 0, .none, .none] }) rfl
    rw [hz] at this; exact this
  refine ⟨⟨_, he, rfl⟩, h _ he ⟨_, Heap.get?_push_of_some _ (Heap.get?_push_size _ rfl), rfl, rfl⟩ (by rw [Heap.size_push, hz]) fun b o x => Heap.get?_push_of_some _ (Heap.get?_push_of_some _ x)⟩
/-- the tuple at a as it stands at each turn, each item in a new pair -/
def Itet (K : PySem.W.Frag) (a : Addr) : It :=
  ⟨fun i H => ∃ (xs : List V) (x : V), SqT K H a xs ∧ xs[i]? = some x, fun i H v H' => ∃ T x, v = .ref T ∧ H T = none ∧ H' = upd H T (.tup [.int (i : Nat), x]) ∧ ∀ xs, SqT K H a xs → xs[i]? = some x, fun i H => ∃ xs : List V, SqT K H a xs ∧ xs.length ≤ i⟩
theorem enumT_end {prog : Program} {w : World} {A : Around} {E : Value → Shared → Prop} {s : Shared} {e it t : Addr} {i : Nat} {k : Int} {items : Array Value} {old : Value} {Q : Option Value → Shared → Prop} (hh : A.in1.handled = none)
    (he : IsEnum s.heap e it k old) (hit : s.heap.IsTupleIter it t i) (ht : s.heap.IsTuple t items) (hx : items[i]? = none) (hQ : ∀ h', Heap.ExtBut it s.heap h' → Q none { s with heap := h' }) : wpAny (model prog w) A (pyNext (.ref e)) Q E s := by
  have hT : s.TypeIs (.ref e) "enumerate" := ⟨_, he, rfl⟩
  unfold pyNext
  refine wpAny_bind (wpAny_attempt (wpAny_callSpecial?_slot (name := Str.ofString "__next__") hT F.slot_enumerate_next
    (wpAny_call_entry F.slot_enumerate_next hT F.entry_enumerate_next ?_ (F.args_enumerate_next_1 _))))
  show wpAny _ _ (field (.ref e) 2 >>= _) _ _ _
  refine wpAny_bind (wpAny_field he rfl (x := .ref it) rfl ?_)
  refine wpAny_bind (wpAny_nextOf_tuple_end hh hit ht hx fun h' x he' hx' => ?_)
  obtain ⟨o, ho, hc⟩ := hx'
  refine wpAny_bind (wpAny_isInstance (T := "StopIteration") (b := true) ⟨o, ho, hc⟩ isSubtype_stop ?_)
  exact wpAny_pure (hQ _ he')
theorem turn_enumT {P : Program} {w : World} {K : PySem.W.Frag} {elts : List Expr} {kk : Nat} {tpos : Pos} (a e it : Addr) :
    Turn P w K (.Tuple elts kk tpos) (Itet K a) [e, it] e (fun i h => (∃ old, IsEnum h e it ((i : Nat) : Int) old) ∧ h.IsTupleIter it a i ∧ e ≠ it ∧ a ≠ it ∧ e ≠ a) where
  mem := by simp
  obj := fun i h st b hb => by
    obtain ⟨⟨old, he⟩, ⟨o, ho, hc, hd⟩, _⟩ := st
    have e' : b = e ∨ b = it := by simpa using hb
    rcases e' with z | z
    · rw [z]; exact ⟨_, he, fun v q => nomatch q⟩
    · rw [z]; exact ⟨o, ho, fun v q => by rw [hd] at q; cases q⟩
  keep := fun i h h' st k => let ⟨⟨old, he⟩, hi, hne⟩ := st; ⟨⟨old, k e (by simp) _ he⟩, hi.at fun o q => k it (by simp) o q, hne⟩
  item := by
    intro X hP hw hK hc i pins s σ H E I hf st hg
    subst hP hw hK
    obtain ⟨⟨old, he⟩, hit, hne, hai, hea⟩ := st
    obtain ⟨xs, x, hq, hx⟩ := hg
    obtain ⟨its, rv, p, hz⟩ := I.tuple hq
    obtain ⟨u, hu, ru⟩ := rv.get hx
    have hel : e < s.heap.objs.size := Heap.lt_size he
    have hil : it < s.heap.objs.size := by obtain ⟨_, q, _⟩ := hit; exact Heap.lt_size q
    have hisz : i < its.toArray.size := by
      have := (List.getElem?_eq_some_iff.mp hu).1
      simpa using this
    have D : Draws X.prog X.w X.A.in1 it [it, a] its.toArray.size (fun i v => its.toArray[i]? = some v) (fun i h => h.IsTupleIter it a i ∧ h.IsTuple a its.toArray) := Draws.tuple (A := X.A.in1) (show X.A.in1.handled = none from I.ok.hd hc) it a hai its.toArray
    refine wpAny_pyNext_enum_itemD D he ⟨hit, p⟩ hisz hne (by simp [hne, hea]) fun x' h' tk hx' ho hit' hT hsz hk => ?_
    have exu : x' = u := by
      have : its.toArray[i]? = some x' := hx'
      have h2 : its[i]? = some x' := by simpa using this
      rw [hu] at h2
      exact (Option.some.inj h2).symm
    subst exu
    refine ⟨_, rfl, wpAny_letOwnedTupleGo_enum (s := { s with heap := h', toks := tk + 1 }) ho fun h'' he' sb => ?_⟩
    have hT2 : h''.get? s.heap.objs.size = some { cls := .type "tuple", data := .seq #[.int i tk, x'] } := (sb.2 _ (Nat.ne_of_gt hel)).trans hT
    have new : ObjOk X.prog X.w (upd H s.heap.objs.size (.tup [.int (i : Nat), x])) h'' s.heap.objs.size (.tup [.int (i : Nat), x]) :=
      ⟨by show 2 ≤ sizeLine; decide, [.int i tk, x'], .cons ⟨_, rfl⟩ (.cons ru .nil), ⟨_, hT2, rfl, _, rfl⟩⟩
    have I1 : Inv X pins σ (upd H s.heap.objs.size (.tup [.int (i : Nat), x])) { s with heap := h'', toks := tk + 1 } :=
      I.turnedNew (ch := [e, it]) (fun b ob hb q => (sb.2 b (fun z => hb (by simp [z]))).trans (hk b ob (fun z => hb (by simp [z])) (fun z => hb (by simp [z])) q)) hf (Nat.le_refl _) new
    refine ⟨.ref s.heap.objs.size, _, I1, rfl, ⟨_, x, rfl, I.hok.fresh (Nat.le_refl _), rfl, fun ys hy => by rw [I.tuple_inj hy hq]; exact hx⟩, ⟨⟨x', ?_⟩, hit'.1.at fun o q => (sb.2 it (Ne.symm hne)).trans q, hne, hai, hea⟩, fun b hb => ?_⟩
    · have e1 : ((i + 1 : Nat) : Int) = (i : Int) + 1 := by omega
      rw [e1]; exact he'
    · have hb' : b < s.heap.objs.size := by
        have e' : b = e ∨ b = it := by simpa using hb
        rcases e' with z | z
        · rw [z]; exact hel
        · rw [z]; exact hil
      rw [upd_ne (Nat.ne_of_lt hb')]
      exact (hf b hb).1
  done := by
    intro X hP hw hK hc i pins s σ H E I hf st hg
    subst hP hw hK
    obtain ⟨⟨old, he⟩, hit, hne, hai, hea⟩ := st
    obtain ⟨xs, hq, hx⟩ := hg
    obtain ⟨its, rv, p, hz⟩ := I.tuple hq
    obtain ⟨f0, f1, f2, f3, f4, f5⟩ := hf it (by simp)
    have hl := rv.length
    exact enumT_end (I.ok.hd hc) he hit p (by simp; omega) fun h' eb => ⟨rfl, I.turned (t' := s.toks) (fun b o hb e => eb b o hb e) f0 f1 f3 f4 f5⟩
  self := fun A i s Q E st h => let ⟨⟨_, he⟩, _⟩ := st; wpAny_pyIter_enum he h
def iEnumT (K : PySem.W.Frag) (ta : TA) : TI := fun σ H R => ta σ H fun vs H1 => ∃ a xs, vs = [.ref a] ∧ SqT K H1 a xs ∧ R (Itet K a) H1
theorem pi_enumT {X : Cx} {e : Expr} {ta : TA} {p pos tpos : Pos} {elts : List Expr} {kk : Nat} (hg : Gl X "enumerate") (hm : X.mg "enumerate" = none) (ha : PA X [e] ta) (hs : starEach [e] X.env = [(false, eval e X.env)] := by rfl) :
    PI X (.Tuple elts kk tpos) (.Call (.Name "enumerate" p) [e] [] pos) (iEnumT X.K ta) := by
  refine ⟨fun pins s σ H R I h => ?_⟩
  refine Call_ (ld_blt I hg hm boot_enumerate (PyProof.Rows.callWith_type1 (thn (ha.run pos pins s σ H _ I h) fun us s1 ⟨vs, H1, I1, r1, q1⟩ => ?_) hs rfl))
  obtain ⟨a, xs, ex, hq, q⟩ := q1
  subst ex
  cases r1 with
  | cons r rr =>
    cases rr
    cases r
    obtain ⟨its, rv, p', hz⟩ := I1.tuple hq
    have hal : a < s1.heap.objs.size := by
      obtain ⟨o, ho, _⟩ := id p'
      exact Heap.lt_size ho
    refine call_enumerate_tuple p' fun h' he hit hsz hk => wpAny_pyIter_enum he ?_
    have I2 : Inv X pins σ H1 { s1 with heap := h' } := I1.kept (t' := s1.toks) hk
    refine ⟨s1.heap.objs.size + 1, [s1.heap.objs.size + 1, s1.heap.objs.size], _, _, H1, rfl, I2, turn_enumT a (s1.heap.objs.size + 1) s1.heap.objs.size, ⟨⟨.none, he⟩, hit, Nat.succ_ne_self _, Nat.ne_of_lt hal, Nat.ne_of_gt (Nat.lt_succ_of_lt hal)⟩, fun b hb => ?_, q⟩
    have e' : b = s1.heap.objs.size + 1 ∨ b = s1.heap.objs.size := by simpa using hb
    have hle : s1.heap.objs.size ≤ b := by
      rcases e' with z | z
      · rw [z]; exact Nat.le_add_right _ _
      · rw [z]; exact Nat.le_refl _
    exact I1.fpOk hle (I1.hok.fresh hle)
/-- for k, x in enumerate(l) -/
theorem for_enum {K : PySem.W.Frag} {ta : TA} {c1 c2 : Nat} {tb : TS} {D : Ends} {σ : L2.St} {H H0 : Hp} {a : Addr} (xs : List V) (hta : ∀ R : List V → Hp → Prop, R [.ref a] H0 → ta σ H R) (Pv : Nat → L2.St → Hp → Prop)
    (hp : Pv 0 σ H0) (hl : ∀ i σ' H', i ≤ xs.length → Pv i σ' H' → SqL K H' a xs)
    (hs : ∀ i x σ' H' T, xs[i]? = some x → Pv i σ' H' → H' T = none → tb { D with nx := Pv (i + 1), ct := Pv (i + 1), bk := D.nx } ((σ'.set c1 (some (.int (i : Nat)))).set c2 (some x)) (upd H' T (.tup [.int (i : Nat), x])))
    (hd : ∀ σ' H', Pv xs.length σ' H' → D.nx σ' H') : tFor (iEnum K ta) (gTup K 2 (gCons (gName c1) (gCons (gName c2) gNil))) tb D σ H := by
  refine hta _ ⟨a, xs, rfl, hl 0 σ H0 (Nat.zero_le _) hp, ?_⟩
  refine ⟨fun i m σ' H' => m = xs.length - i ∧ i ≤ xs.length ∧ Pv i σ' H', ⟨_, rfl, Nat.zero_le _, hp⟩, ?_⟩
  rintro i m σ' H' ⟨rfl, hi, p⟩
  have q := hl i σ' H' hi p
  by_cases hlt : i < xs.length
  · refine .inr ⟨⟨xs, xs[i], q, by simp [hlt]⟩, Pv (i + 1), fun σ2 H2 p' => ⟨xs.length - (i + 1), by omega, rfl, hlt, p'⟩, fun x H2 y => ?_⟩
    obtain ⟨T, x', rfl, hT, rfl, hx⟩ := y
    have hx' := hx xs q
    refine ⟨T, [.int (i : Nat), x'], rfl, .inl (.inl upd_same), rfl, ?_⟩
    exact ⟨_, _, rfl, _, _, rfl, rfl, hs i x' σ' H' T hx' p hT⟩
  · have e : i = xs.length := by omega
    subst e
    exact .inl ⟨⟨xs, q, Nat.le_refl _⟩, hd σ' H' p⟩
theorem for_enumT {K : PySem.W.Frag} {ta : TA} {c1 c2 : Nat} {tb : TS} {D : Ends} {σ : L2.St} {H H0 : Hp} {a : Addr} (xs : List V) (hta : ∀ R : List V → Hp → Prop, R [.ref a] H0 → ta σ H R) (Pv : Nat → L2.St → Hp → Prop)
    (hp : Pv 0 σ H0) (hl : ∀ i σ' H', i ≤ xs.length → Pv i σ' H' → SqT K H' a xs)
    (hs : ∀ i x σ' H' T, xs[i]? = some x → Pv i σ' H' → H' T = none → tb { D with nx := Pv (i + 1), ct := Pv (i + 1), bk := D.nx } ((σ'.set c1 (some (.int (i : Nat)))).set c2 (some x)) (upd H' T (.tup [.int (i : Nat), x])))
    (hd : ∀ σ' H', Pv xs.length σ' H' → D.nx σ' H') : tFor (iEnumT K ta) (gTup K 2 (gCons (gName c1) (gCons (gName c2) gNil))) tb D σ H := by
  refine hta _ ⟨a, xs, rfl, hl 0 σ H0 (Nat.zero_le _) hp, ?_⟩
  refine ⟨fun i m σ' H' => m = xs.length - i ∧ i ≤ xs.length ∧ Pv i σ' H', ⟨_, rfl, Nat.zero_le _, hp⟩, ?_⟩
  rintro i m σ' H' ⟨rfl, hi, p⟩
  have q := hl i σ' H' hi p
  by_cases hlt : i < xs.length
  · refine .inr ⟨⟨xs, xs[i], q, by simp [hlt]⟩, Pv (i + 1), fun σ2 H2 p' => ⟨xs.length - (i + 1), by omega, rfl, hlt, p'⟩, fun x H2 y => ?_⟩
    obtain ⟨T, x', rfl, hT, rfl, hx⟩ := y
    have hx' := hx xs q
    refine ⟨T, [.int (i : Nat), x'], rfl, .inl (.inl upd_same), rfl, ?_⟩
    exact ⟨_, _, rfl, _, _, rfl, rfl, hs i x' σ' H' T hx' p hT⟩
  · have e : i = xs.length := by omega
    subst e
    exact .inl ⟨⟨xs, q, Nat.le_refl _⟩, hd σ' H' p⟩

/-! ### several except clauses that name what they catch -/
def wManyAs (K : PySem.W.Frag) (Wout : WX) (D : Ends) : List (Value × Nat × (Addr → Value → Option Addr → TS)) → WX
  | [] => Wout
  | (c, i, ts) :: r => wAs K c i ts (wManyAs K Wout D r) D
inductive HdsAs (X : Cx) : List ExceptHandler → List (Value × Nat × (Addr → Value → Option Addr → TS)) → Prop
  | nil : HdsAs X [] []
  | cons {x n : Str} {c : Value} {i : Nat} {ts : Addr → Value → Option Addr → TS} {b₀ : Stmt} {suite : List Stmt} {np pos' : Pos} {hds : List ExceptHandler} {l : List (Value × Nat × (Addr → Value → Option Addr → TS))}
      (hi : X.N[i]? = some n) (hln : X.env.kindOf n = some .local) (hc : Names X x c)
      (hsu : ∀ (a : Addr) (oe : Obj) (cls : Value) (d : Option Addr) (pn : List (Addr × Obj)), L2N.Zn cls d oe → (∃ vs, oe.data = .fields vs) → PSs (X.suite a ((a, oe) :: pn)) (b₀ :: suite) (ts a cls d)) (r : HdsAs X hds l) :
      HdsAs X (.ExceptHandler (some (.Name x np)) (some n) (b₀ :: suite) pos' :: hds) ((c, i, ts) :: l)
section
variable {X : Cx} {body : List Stmt} {h₀ : ExceptHandler} {hds : List ExceptHandler} {l : List (Value × Nat × (Addr → Value → Option Addr → TS))} {pos : Pos} {tb : WX → TS} {Wout : WX}
theorem ps_try_manyAs (hs : X.stack = X.env :: X.outer) (hf : X.env.frame = some X.env.locals) (hN : X.N.Nodup) (tk : L2N.Takes X Wout)
    (hb : ∀ (W : WX) (pn : List (Addr × Obj)) (xe : Value → Shared → Prop), L2N.Takes (X.tr pn xe) W → PassesOwn (model X.prog X.w) X.A X.env xe → PSs (X.tr pn xe) body (tb W))
    (hh : HdsAs X (h₀ :: hds) l) : PS X (.Try body (h₀ :: hds) [] [] pos) (fun D σ H => tb (wManyAs X.K Wout D l) D σ H) := by
  refine ⟨fun pins s σ H D I h => ?_⟩
  have ok := I.ok
  have hfr : X.A.frames = some (X.env :: X.outer) := by rw [ok.frames, hs]
  refine wpAny_Try_except ?_
  refine wpAny_mono ((hb (wManyAs X.K Wout D l) (X.pn ++ pins) (fun e s₁ => wpAny (model X.prog X.w) X.A (noteFrame e X.env) (fun _ s₂ => wpAny (model X.prog X.w) X.A (setFlight e none) (fun _ s₃ =>
    wpAny (model X.prog X.w) X.A (handleBy e X.env (h₀ :: hds)) (SP X pins D) X.xe s₃) X.xe s₂) X.xe s₁) (fun u s' xx => ?_) PassesOwn.looking).run [] s σ H D (I.toTry _) h) (fun f s1 hsp => ?_) (fun e s1 he => he)
  · obtain ⟨a, B, sI, pins', σ', H', cls, d, rfl, J', nb, up, sky, na, os, ag, w⟩ := xx
    have J : Inv X pins σ' H' sI := J'.ofTry ok
    have sky' : L2.Sky B (X.env :: X.outer) a (L2N.Zn cls d) X.env.locals s'.heap := by rw [← hs]; exact sky
    show wpAny (model X.prog X.w) X.A (noteFrame (.ref a) X.env) _ _ _
    refine L2N.Sky.land L2N.Zn.steady hfr hf sky' fun h3 fl3 up3 => ?_
    have J3 : Inv X pins σ' H' { s' with heap := h3 } := J.landed nb fl3.1 (up.trans up3) os ag
    obtain ⟨oe3, vs3, he3, hz3, hd3⟩ := fl3.there
    have notFr : ∀ {h : Heap} {o : Obj} {vs : Array Value}, h.FunFrames B (X.env :: X.outer) → h.get? a = some o → o.data = .fields vs → a ∉ frs (X.env :: X.outer) := fun {h o vs} ff e dd hm => by
      obtain ⟨_, o', e', hnf⟩ := ff.mem hm
      rw [e] at e'; cases e'
      exact hnf _ dd
    have nfr := notFr fl3.2.2.1 he3 hd3
    have nL : a ≠ X.env.locals := fun z => nfr (List.mem_filterMap.mpr ⟨X.env, List.mem_cons_self, by rw [hf, z]⟩)
    have nF : a ∉ X.fs := fun hm => by
      obtain ⟨e, he, q⟩ := List.mem_filterMap.mp hm
      exact nfr (List.mem_filterMap.mpr ⟨e, List.mem_cons_of_mem _ he, q⟩)
    have S3 := J3.suite he3 hd3 na nL nF
    have LT : PySem.W.Looks (model X.prog X.w) h3 (typeOf (.ref a)) cls := fun A Q E s k q => wpAny_typeOf_ref (k _ _ he3) (by rw [hz3.1]; exact q)
    have go : ∀ {hds' : List ExceptHandler} {l' : List (Value × Nat × (Addr → Value → Option Addr → TS))}, HdsAs X hds' l' → wManyAs X.K Wout D l' cls d σ' H' →
        wpAny (model X.prog X.w) X.A (handleBy (.ref a) X.env hds') (SP X pins D) X.xe { s' with heap := h3 } := by
      intro hds' l' hk
      induction hk with
      | nil =>
        intro w
        refine wpAny_handleBy_nil ?_
        obtain ⟨k1, k2, k3, oe, vs, T, oT, ts', he, hz, hd, h1, hr⟩ := id fl3
        unfold PySem.passOn
        refine wpAny_bind (wpAny_field he hd h1 ?_)
        rw [if_neg (show ¬ ((Value.ref T == Value.none) = true) from by simp)]
        have fin : wpAny (model X.prog X.w) X.A (setFlight (.ref a) X.env.frame) (fun _ s4 => wpAny (model X.prog X.w) X.A (throw (.ref a) : Sem Flow) (SP X pins D) X.xe s4) X.xe { s' with heap := h3 } := by
          rw [hf]
          refine HandSPX.setFlight_upZ fl3 fun h4 hh4 up4 => wpAny_throw (tk _ _ ?_)
          exact ⟨a, B, sI, pins, σ', H', cls, d, rfl, J, nb, (up.trans up3).trans up4, .inr (.inr (by rw [hs]; exact hh4)), na, os, ag, w⟩
        first
          | exact wpAny_bind (wpAny_pure (wpAny_bind fin))
          | exact wpAny_bind fin
      | @cons x n c i ts b₀ suite np pos' hds2 l2 hi hln hc hsu r ih =>
        intro w
        obtain ⟨b, hb1, hyes, hno⟩ := w
        have hloc : Loc X.env.scope n := .inl hln
        refine wpAny_handleBy_cons (codeAny_handlers_test ?_) (by intro q; cases q)
        have LM := PySem.W.exm_one (M := model X.prog X.w) (J3.kIn) LT hb1
        have test : ∀ {Q : Value → Shared → Prop} {E : Value → Shared → Prop}, Q c { s' with heap := h3 } → wpAny (model X.prog X.w) (X.A.mark (some (.ref a))) (eval (.Name x np) X.env) Q E { s' with heap := h3 } := fun {Q E} q => by
          obtain ⟨hg, hdbg, hm | ⟨hm, hv, hnn⟩⟩ := hc
          · exact ld_glob (X := X.suite a ((a, oe3) :: (X.pn ++ pins))) S3 hg hm q hdbg
          · exact ld_blt (X := X.suite a ((a, oe3) :: (X.pn ++ pins))) S3 hg hm hv q hnn hdbg
        refine test (LM.here ?_)
        cases b with
        | true =>
          refine codeAny_handlers_suite_as ?_
          refine HandSPX.lands_againZ fl3 fun h4 fl4 up4 => ?_
          have J4 : Inv X pins σ' H' { s' with heap := h4 } := J.landed nb fl4.1 ((up.trans up3).trans up4) os ag
          obtain ⟨oe4, vs4, he4, hz4, hd4⟩ := fl4.there
          have S4 := J4.suite he4 hd4 na nL nF
          refine store_ok (X := X.suite a ((a, oe4) :: (X.pn ++ pins))) (v := .ref a) S4 hN hi hloc rfl (fun s5 S5 => ?_) (.inr hln)
          refine wpAny_mono ((hsu a oe4 cls d (X.pn ++ pins) hz4 ⟨_, hd4⟩).run [] s5 _ H' _ S5 (hyes rfl a na)) (fun f s6 hsp => ?_) (fun _ _ z => False.elim z)
          have end_ : ∀ {σ6 : L2.St} {H6 : Hp} {Q : Shared → Prop}, Inv (X.suite a ((a, oe4) :: (X.pn ++ pins))) [] σ6 H6 s6 → (∀ s7, Inv X pins (σ6.set i none) H6 s7 → Q s7) →
              wpAny (model X.prog X.w) X.A (do bindName X.env n .none; unbindBehindTheSuite X.env n pos') (fun _ s7 => Q s7) X.xe s6 := fun {σ6 H6 Q} S6 hq => gone_ok (S6.unsuite ok) hN hi hln hq
          cases f with
          | next =>
            obtain ⟨σ6, H6, S6, q6⟩ := hsp
            exact end_ S6 fun s7 J7 => ⟨_, _, J7, q6⟩
          | brk =>
            obtain ⟨σ6, H6, S6, q6⟩ := hsp
            exact end_ S6 fun s7 J7 => ⟨_, _, J7, q6⟩
          | cont =>
            obtain ⟨σ6, H6, S6, q6⟩ := hsp
            exact end_ S6 fun s7 J7 => ⟨_, _, J7, q6⟩
          | ret u =>
            obtain ⟨v6, σ6, H6, S6, r6, q6⟩ := hsp
            exact end_ S6 fun s7 J7 => ⟨_, _, _, J7, r6, q6⟩
        | false =>
          show wpAny _ X.A (handleBy (.ref a) X.env hds2) _ _ _
          exact ih (hno rfl)
    exact go hh w
  · cases f with
    | next =>
      obtain ⟨σ', H', J', q⟩ := hsp
      exact wpAny_execs_nil ⟨σ', H', J'.ofTry ok, q⟩
    | brk =>
      obtain ⟨σ', H', J', q⟩ := hsp
      exact ⟨σ', H', J'.ofTry ok, q⟩
    | cont =>
      obtain ⟨σ', H', J', q⟩ := hsp
      exact ⟨σ', H', J'.ofTry ok, q⟩
    | ret u =>
      obtain ⟨v, σ', H', J', r, q⟩ := hsp
      exact ⟨v, σ', H', J'.ofTry ok, r, q⟩
end

/-- never called where the law leads -/
def spVoid : Sp := fun _ _ _ _ => False
theorem okV {P : Program} {w : World} {K : PySem.W.Frag} {mg : Str → Option Value} {base : Heap} {f : Addr} {fd : FuncData} {ps : List Str} : FnOk P w K mg base CX0 1 f fd ps spVoid :=
  ⟨fun _ _ _ _ h => h.elim, fun _ _ _ _ _ _ _ _ _ _ _ _ _ h => h.elim⟩
section
variable {X : Cx} {CX : CXT} {k : Nat} {f C : Addr} {fd : FuncData} {ps : List Str} {sp : Sp} {dvs : List V} {ds : List Value} {E : L2.St → XK} {x : Str} {p pos : Pos} {e : Expr} {es : List Expr} {t : TA}
/-- C(e, ..) whose __init__ may raise, told at the slots of the caller -/
def tMakeS (C : Addr) (sp : Sp) (E : L2.St → XK) (t : TA) : TE := fun σ H Q => t σ H fun vs H1 => ∀ x dx, H1 x = none → H1 dx = none → dx ≠ x → sp (.ref x :: vs) (upd (upd H1 dx (.own x)) x (.ins C dx [])) (fun v H2 => v = .non ∧ Q (.ref x) H2) (E σ)
theorem pe_makeS (M : Mk X.K C f) (F : FnOk X.prog X.w X.K X.mg X.base CX k f fd ps sp) (hr : Room (k + 1) X.A) (hg : Gl X x) (hm : X.mg x = some (.ref C)) (hb : Binds X.K fd ps []) (hx : ∀ σ, PassesAt CX X σ (E σ))
    (ha : PA X (e :: es) t) (hdb : (x == ("__debug__" : Str)) = false := by decide) (he : starEach (e :: es) X.env = (false, eval e X.env) :: starEach es X.env := by rfl) (hpl : (backTo pos (starEach es X.env)).any (·.1) = false := by rfl) :
    PE X (.Call (.Name x p) (e :: es) [] pos) (tMakeS C sp E t) := by
  refine ⟨fun pins s σ H Q I h => wpAny_Call_Name_kw (ld_glob I hg hm ?_ hdb)⟩
  refine PySem.W.callWith_K (h₀ := X.base) I.ok.mod.kin M.kp (thn (ha.run pos pins s σ H _ I h) fun us s1 ⟨vs, H1, I1, r, q⟩ => ⟨I1.kIn, ?_⟩) he hpl
  have n0 : H1 s1.heap.objs.size = none := I1.hok.fresh (Nat.le_refl _)
  have n1 : H1 (s1.heap.objs.size + 1) = none := I1.hok.fresh (Nat.le_succ _)
  have hq := q _ _ n1 n0 (Nat.ne_of_lt (Nat.lt_succ_self _))
  have I2 := Inv.made (C := C) I1
  have r2 : Vals (V.ref (s1.heap.objs.size + 1) :: vs) (Value.ref (s1.heap.objs.size + 1) :: us) := .cons rfl r
  have b := hb _ (Value.ref (s1.heap.objs.size + 1) :: us) I2.kIn (by rw [List.append_nil, ← r2.length]; exact F.len _ _ _ _ hq)
  rw [List.append_nil] at b
  show wpAny (model X.prog X.w) X.A (call (.ref C) us) (EP X pins σ Q) X.xe s1
  refine wpAny_call (make_map (f := f) I1.kIn M.makes M.init (beq_iff_eq.mp M.fn) (codeAny_mono (F.run _ X.stack _ _ ⟨Value.ref (s1.heap.objs.size + 1) :: us, []⟩ _ _ _ (E σ) (hr.make C us []) (I2.env0.make C us []) b r2 hq) fun r s' hq' => ?_))
  cases r with
  | error e => exact hx σ pins _ _ e s' I2 hq'
  | ok fl =>
    cases fl with
    | ret u =>
      obtain ⟨v, H', I3, rv, ev, q3⟩ := I2.after hq'
      subst ev
      exact ⟨rv, ⟨V.ref (s1.heap.objs.size + 1), H', I3, rfl, q3⟩⟩
    | next => exact hq'.elim
    | brk => exact hq'.elim
    | cont => exact hq'.elim
end
section
variable {X : Cx} {o : Expr} {p pos apos mpos : Pos} {td : TE}
/-- max(d.values()): whole numbers, one at least -/
def tMaxVals (td : TE) : TE := fun σ H Q => td σ H fun x H1 => ∃ a kvs is, x = V.ref a ∧ H1 a = some (.dK kvs) ∧ kvs.map (·.2) = is.map V.int ∧ is ≠ [] ∧ ∀ m, m ∈ is → (∀ j ∈ is, j ≤ m) → Q (.int m) H1
theorem pe_maxVals (hc : X.calm = true) (hg : Gl X "max") (hm : X.mg "max" = none) (hd : PE X o td) (hbase : attributeBase o "values" X.env (eval o X.env) = eval o X.env := by rfl) (hline : (apos.endLine == mpos.line) = true := by rfl)
    (hse : starEach [Expr.Call (.Attribute o "values" apos) [] [] mpos] X.env = [(false, eval (Expr.Call (.Attribute o "values" apos) [] [] mpos) X.env)] := by rfl) :
    PE X (.Call (.Name "max" p) [.Call (.Attribute o "values" apos) [] [] mpos] [] pos) (tMaxVals td) := by
  refine ⟨fun pins s σ H Q I h => wpAny_Call_Name_kw (ld_blt I hg hm (u := .builtin "max") (by first | rfl | decide +kernel) ?_ (by first | decide +kernel | decide) (by first | decide +kernel | decide))⟩
  rw [hse]
  refine PySem.callWith_builtin1 (wpAny_Call_method0_late hbase hline (thn (hd.run pins s σ H _ I h) fun v s1 ⟨x, H1, I1, r1, a, kvs, is, ex, ha, hv, hne, q⟩ => ?_))
  subst ex
  cases r1
  obtain ⟨_, hsys, vs, rel, dof⟩ := dk_of I1.hok ha
  obtain ⟨ep, dat⟩ := dof.dictAt
  obtain ⟨ob, es, ho, ex, hrest⟩ := id dat
  refine ⟨"dict", "dict.values", F.plainAttrs_dict, F.slot_dict_values, F.type_dict_values, ⟨ob, ho, ex.1⟩, fun b e => by cases e; exact ⟨ob, ho, ex.2.1⟩, Calls.callWith_builtin rfl (PySem.evalArgs_none ?_)⟩
  refine call_meetsIn F.slot_dict_values ⟨ob, ho, ex.1⟩ F.entry_dict_values (F.args_dict_values_1 _) (meets_dict_values (mixKind X.prog X.w) a hsys) ⟨⟨vs, dof⟩, ?_⟩
  have old : ∀ b u, s1.heap.get? b = some u → (s1.heap.push { cls := .type "dict_values", data := .fields #[.ref a] }).get? b = some u := fun b u e => Heap.get?_push_of_some _ e
  have hsz : (s1.heap.push { cls := .type "dict_values", data := .fields #[.ref a] }).objs.size = s1.heap.objs.size + 1 := Heap.size_push _ _
  have hlt : a < s1.heap.objs.size := Heap.lt_size ho
  have hlv : vs.length = is.length := by
    have e1 := congrArg List.length hv
    rw [List.length_map, List.length_map] at e1
    rw [← e1]
    exact (KV.length rel).symm
  have hlen : 0 < vs.length := by
    rw [hlv]
    exact List.length_pos_iff.mpr hne
  have hval : ∀ (i : Nat) (v : Value), (∃ k, vs[i]? = some (k, v)) → ∃ t, v = Value.int (is.getD i 0) t := fun i v ⟨k, hk⟩ => by
    obtain ⟨x, h1, h2⟩ := KV.at' rel hk
    have e1 : (kvs.map (·.2))[i]? = some x := by rw [List.getElem?_map, h1]; rfl
    rw [hv, List.getElem?_map] at e1
    obtain ⟨j, hj, rfl⟩ := Option.map_eq_some_iff.mp e1
    obtain ⟨t, e3⟩ := h2
    exact ⟨t, by rw [e3, List.getD_eq_getElem?_getD, hj]; rfl⟩
  refine call_max_walk (wpAny_pyIter_values (v := s1.heap.objs.size) (d := a) ⟨_, Heap.get?_push_size _ rfl, rfl, rfl⟩ (dat.keep old) ?_)
  refine ⟨_, _, _, _, _, _, _, rfl, Walks.dictValues (knd := mixKind X.prog X.w) (A := X.A.in1) (I.ok.hd hc) (s1.heap.push { cls := .type "dict_values", data := .fields #[.ref a] }).objs.size a (by rw [hsz]; exact Nat.ne_of_lt (Nat.lt_succ_of_lt hlt)) vs ep,
    ⟨⟨_, Heap.get?_push_size _ rfl, rfl, rfl⟩, (dat.keep old).keep fun b u e => Heap.get?_push_of_some _ e⟩, fun b hb => ?_, hlen, CmpOf.ints_gt (fun i => is.getD i 0) hval, fun v h' tk hP hk => ?_⟩
  · show b < ((s1.heap.push _).push _).objs.size
    rw [Heap.size_push, Heap.size_push]
    rw [hsz] at hb
    rcases List.mem_cons.mp hb with e | hb
    · rw [e]
      exact Nat.lt_succ_self _
    · have e : b = a := List.mem_singleton.mp hb
      rw [e]
      exact Nat.lt_succ_of_lt (Nat.lt_succ_of_lt hlt)
  · obtain ⟨t, rfl⟩ := hval _ v hP
    obtain ⟨b1, b2⟩ := argBest_gt (fun i => is.getD i 0) (vs.length - 1)
    refine ⟨.int _, H1, I1.kept (t' := tk) fun b u e => hk b u (fun hmem => ?_) (Heap.get?_push_of_some _ (old b u e)), ⟨t, rfl⟩, q _ ?_ fun j hj => ?_⟩
    · have e1 := List.mem_singleton.mp hmem
      have e2 := Heap.lt_size e
      rw [hsz] at e1
      rw [e1] at e2
      exact absurd e2 (Nat.not_lt.mpr (Nat.le_succ _))
    · have hb : argBest (fun i j => decide (is.getD i 0 > is.getD j 0)) (vs.length - 1) < is.length := by
        rw [← hlv]
        exact Nat.lt_of_le_of_lt b1 (Nat.sub_lt hlen Nat.one_pos)
      rw [List.getD_eq_getElem?_getD, List.getElem?_eq_getElem hb]
      exact List.getElem_mem hb
    · obtain ⟨i, hi, e⟩ := List.mem_iff_getElem.mp hj
      have e2 : is.getD i 0 = j := by rw [List.getD_eq_getElem?_getD, List.getElem?_eq_getElem hi, ← e]; rfl
      rw [← e2]
      exact b2 i (Nat.le_sub_one_of_lt (by rw [hlv]; exact hi))
end
theorem sm_refl {H : Hp} : Same H H := fun _ _ h => h
theorem sm_trans {H1 H2 H3 : Hp} (a : Same H1 H2) (b : Same H2 H3) : Same H1 H3 := fun _ _ h => b _ _ (a _ _ h)
theorem sm_upd {H H' : Hp} {p : Addr} {o : HO} (s : Same H H') (h : H p = none) : Same H (upd H' p o) := fun b x e => by
  by_cases hb : p = b
  · subst hb
    rw [h] at e
    cases e
  · rw [upd_ne (fun z => hb z.symm)]
    exact s b x e
theorem no_of {H H' : Hp} (s : Same H H') {p : Addr} (h : H' p = none) : H p = none := by
  cases q : H p with
  | none => rfl
  | some o =>
    rw [s _ _ q] at h
    cases h
theorem nodup_inl : ∀ {xs : List Int}, xs.Nodup → (xs.map (Sum.inl : Int → Key)).Nodup
  | [], _ => List.Pairwise.nil
  | x :: xs, h => by
    obtain ⟨h1, h2⟩ := List.nodup_cons.mp h
    exact List.nodup_cons.mpr ⟨fun m => by
      obtain ⟨y, hy, e⟩ := List.mem_map.mp m
      cases e
      exact h1 hy, nodup_inl h2⟩
theorem for_frzC {i : Nat} {g : TG} {tb : TS} {D : Ends} {σ : L2.St} {H : Hp} {d : Addr} {u : HO} (hv : σ[i]? = some (some (.ref d))) (hd : H d = some u) (mu : Mut (some u)) (h : ∀ od, tFor (iKeys fun _ H Q => Q (.ref d) H) g tb D σ (upd H d (.frz od u))) : tFor (iKeys (tFrz (tVar i))) g tb D σ H :=
  ⟨_, hv, d, rfl, .inl ⟨u, hd, mu, fun od => h od⟩⟩
theorem _root_.L2.SqT.same {K : PySem.W.Frag} {H H' : Hp} {a : Addr} {xs : List V} (h : SqT K H a xs) (s : Same H H') : SqT K H' a xs := by
  rcases h with h | h
  · refine .inl ?_
    unfold Rd at h ⊢
    rcases h with h | ⟨o, h⟩
    · exact .inl (s _ _ h)
    · exact .inr ⟨o, s _ _ h⟩
  · exact .inr h
theorem for_tupT {K : PySem.W.Frag} {a : Addr} {tl : TE} {g : TG} {tb : TS} {D : Ends} {σ : L2.St} {H : Hp} (xs : List V) (htl : ∀ R : V → Hp → Prop, (∀ H1, Same H H1 → R (.ref a) H1) → tl σ H R) (Pv : Nat → L2.St → Hp → Prop) (h0 : ∀ H1, Same H H1 → Pv 0 σ H1) (hl : ∀ i σ H, Pv i σ H → SqT K H a xs)
    (hs : ∀ i x σ H, xs[i]? = some x → Pv i σ H → g x σ H fun σ2 H2 => tb { D with nx := Pv (i + 1), ct := Pv (i + 1), bk := D.nx } σ2 H2) (hd : ∀ σ H, Pv xs.length σ H → D.nx σ H) : tFor (iTup K tl) g tb D σ H :=
  htl _ fun H1 s1 => ⟨a, rfl, ⟨xs, hl 0 _ _ (h0 H1 s1)⟩, for_tup (xs := xs) Pv (h0 H1 s1) (fun i σ H _ => hl i σ H) hs hd⟩
theorem ix_tupK {X : Cx} {K : PySem.W.Frag} (e : X.K = K) : IxR X (rIxT K) := by
  subst e
  exact ix_tup
theorem lc_lstA {K : PySem.W.Frag} {tl : TE} {te : TE} {c : Nat} {σ : L2.St} {H : Hp} {Q : VK} {a : Addr} (xs : List V) (htl : ∀ R : V → Hp → Prop, R (.ref a) H → tl σ H R) (ha : SqL K H a xs) (Pv : Addr → Nat → Hp → Prop) (h0 : ∀ D, H D = none → Pv D 0 (upd H D (.lst []))) (hl : ∀ D i H', H D = none → Pv D i H' → SqL K H' a xs)
    (hs : ∀ D i x H', H D = none → xs[i]? = some x → Pv D i H' → te ((σ.set c none).set c (some x)) H' fun y H4 => ∃ acc, H4 D = some (.lst acc) ∧ acc.length < sizeLine ∧ Pv D (i + 1) (upd H4 D (.lst (acc ++ [y]))))
    (hd : ∀ D H', H D = none → Pv D xs.length H' → Q (.ref D) H') : tLc (iList K tl) (gName c) tYes te [c] σ H Q := by
  refine htl _ ⟨a, rfl, ⟨_, ha⟩, fun D hD => lc_list (K := K) (a := a) (xs := xs) (Pv D) (h0 D hD) (fun i H' _ p => hl D i H' hD p) ?_ (fun H' p => hd D H' hD p)⟩
  rintro i x H' hx p
  refine ⟨?_, ?_⟩
  · show List.set (List.set (List.set σ c none) c _) c none = List.set σ c none
    rw [List.set_set, List.set_set]
  · show (fun (b : Bool) (H3 : Hp) => if b = true then te ((σ.set c none).set c (some x)) H3 _ else Pv D (i + 1) H3) true H'
    dsimp only
    rw [if_pos rfl]
    exact hs D i x H' hD hx p
theorem lc_tupA {K : PySem.W.Frag} {tl : TE} {te : TE} {c : Nat} {σ : L2.St} {H : Hp} {Q : VK} {a : Addr} (xs : List V) (htl : ∀ R : V → Hp → Prop, R (.ref a) H → tl σ H R) (ha : SqT K H a xs) (Pv : Addr → Nat → Hp → Prop) (h0 : ∀ D, H D = none → Pv D 0 (upd H D (.lst []))) (hl : ∀ D i H', H D = none → Pv D i H' → SqT K H' a xs)
    (hs : ∀ D i x H', H D = none → xs[i]? = some x → Pv D i H' → te ((σ.set c none).set c (some x)) H' fun y H4 => ∃ acc, H4 D = some (.lst acc) ∧ acc.length < sizeLine ∧ Pv D (i + 1) (upd H4 D (.lst (acc ++ [y]))))
    (hd : ∀ D H', H D = none → Pv D xs.length H' → Q (.ref D) H') : tLc (iTup K tl) (gName c) tYes te [c] σ H Q := by
  refine htl _ ⟨a, rfl, ⟨_, ha⟩, fun D hD => lc_tup (K := K) (a := a) (xs := xs) (Pv D) (h0 D hD) (fun i H' _ p => hl D i H' hD p) ?_ (fun H' p => hd D H' hD p)⟩
  rintro i x H' hx p
  refine ⟨?_, ?_⟩
  · show List.set (List.set (List.set σ c none) c _) c none = List.set σ c none
    rw [List.set_set, List.set_set]
  · show (fun (b : Bool) (H3 : Hp) => if b = true then te ((σ.set c none).set c (some x)) H3 _ else Pv D (i + 1) H3) true H'
    dsimp only
    rw [if_pos rfl]
    exact hs D i x H' hD hx p
theorem for_tupX {K : PySem.W.Frag} {tl : TE} {g : TG} {tb : TS} {D : Ends} {σ : L2.St} {H : Hp} (xs : List V) (htl : ∀ R : V → Hp → Prop, (∀ a H1, Same H H1 → SqT K H1 a xs → R (.ref a) H1) → tl σ H R) (Pv : Addr → Nat → L2.St → Hp → Prop) (h0 : ∀ a H1, Same H H1 → SqT K H1 a xs → Pv a 0 σ H1) (hl : ∀ a i σ H, Pv a i σ H → SqT K H a xs)
    (hs : ∀ a i x σ H, xs[i]? = some x → Pv a i σ H → g x σ H fun σ2 H2 => tb { D with nx := Pv a (i + 1), ct := Pv a (i + 1), bk := D.nx } σ2 H2) (hd : ∀ a σ H, Pv a xs.length σ H → D.nx σ H) : tFor (iTup K tl) g tb D σ H :=
  htl _ fun a H1 s1 h1 => ⟨a, rfl, ⟨xs, h1⟩, for_tup (xs := xs) (Pv a) (h0 a H1 s1 h1) (fun i σ H _ => hl a i σ H) (hs a) (hd a)⟩
theorem _root_.L2.SqT.upds {K : PySem.W.Frag} {H : Hp} {a d : Addr} {xs : List V} {u o : HO} (h : SqT K H a xs) (g : H d = some u) (h1 : ∀ zs, u ≠ .tup zs) (h2 : ∀ od zs, u ≠ .frz od (.tup zs)) : SqT K (upd H d o) a xs := by
  rcases h with h | h
  · refine .inl ?_
    have ne : a ≠ d := fun z => by
      subst z
      unfold Rd at h
      rw [g] at h
      rcases h with h | ⟨od, h⟩
      · exact h1 _ (Option.some.inj h)
      · exact h2 _ _ (Option.some.inj h)
    unfold Rd at h ⊢
    rw [upd_ne ne]
    exact h
  · exact .inr h
theorem _root_.L2.SqT.put {K : PySem.W.Frag} {H : Hp} {a d : Addr} {xs : List V} {kvs : List (Key × V)} {o : HO} (h : SqT K H a xs) (g : H d = some (.dK kvs)) : SqT K (upd H d o) a xs := h.upds g (fun _ z => by cases z) (fun _ _ z => by cases z)
theorem _root_.L2.SqT.puti {K : PySem.W.Frag} {H : Hp} {a d C dx : Addr} {xs : List V} {fs : List (Str × V)} {o : HO} (h : SqT K H a xs) (g : H d = some (.ins C dx fs)) : SqT K (upd H d o) a xs := h.upds g (fun _ z => by cases z) (fun _ _ z => by cases z)
theorem valV_mem {kvs : List (Key × V)} {k : Key} : (valV kvs k).isSome = true ↔ k ∈ kvs.map (fun p : Key × V => p.1) := by
  rw [← valV_any]
  induction kvs with
  | nil => exact ⟨fun h => (by cases h), fun h => (by cases h)⟩
  | cons p r ih =>
    rw [List.any_cons, List.map_cons, List.mem_cons, Bool.or_eq_true, ih, decide_eq_true_eq]
    exact ⟨fun h => h.imp Eq.symm id, fun h => h.imp Eq.symm id⟩
/-- a dict comprehension over nothing -/
theorem dc_listE {K : PySem.W.Frag} {tl : TE} {g : TG} {tt : TT} {tk tv : TE} {vs : List Nat} {σ : L2.St} {H : Hp} {Q : VK} {a : Addr} (htl : ∀ R : V → Hp → Prop, R (.ref a) H → tl σ H R) (ha : H a = some (.lst []))
    (k : ∀ D, H D = none → Q (.ref D) (upd H D (.dK []))) : tDc (iList K tl) g tt tk tv vs σ H Q := by
  refine htl _ ⟨a, rfl, ⟨[], .inl (.inl ha)⟩, fun D hD => ⟨fun i m H' => i = 0 ∧ H' = upd H D (.dK []), ⟨0, rfl, rfl⟩, ?_⟩⟩
  rintro i m H' ⟨rfl, rfl⟩
  exact .inl ⟨⟨[], .inl (.inl (same_new hD _ _ ha)), Nat.le_refl _⟩, k D hD⟩
theorem dc_enumE {K : PySem.W.Frag} {ta : TA} {g : TG} {tt : TT} {tk tv : TE} {vs : List Nat} {σ : L2.St} {H : Hp} {Q : VK} {a : Addr} (hta : ∀ R : List V → Hp → Prop, R [.ref a] H → ta σ H R) (ha : H a = some (.lst []))
    (k : ∀ D, H D = none → Q (.ref D) (upd H D (.dK []))) : tDc (iEnum K ta) g tt tk tv vs σ H Q := by
  refine hta _ ⟨a, [], rfl, .inl (.inl ha), fun D hD => ⟨fun i m H' => i = 0 ∧ H' = upd H D (.dK []), ⟨0, rfl, rfl⟩, ?_⟩⟩
  rintro i m H' ⟨rfl, rfl⟩
  exact .inl ⟨⟨[], .inl (.inl (same_new hD _ _ ha)), Nat.le_refl _⟩, k D hD⟩

/-! ### len(set(xs)) of a list of texts, however many -/
/-- how many different ones stand among the first i -/
def distN (xs : List Str) : Nat → Nat
  | 0 => 0
  | i + 1 => if (xs.take i).any (· == xs.getD i Str.empty) = true then distN xs i else distN xs i + 1
theorem distN_le (xs : List Str) : ∀ i, distN xs i ≤ i
  | 0 => Nat.le_refl _
  | i + 1 => by
    have := distN_le xs i
    rw [distN]
    split <;> omega
theorem any_step {xs : List Str} {i : Nat} (h : i < xs.length) (k : Str) : ((xs.take i).any (· == k) || decide (k = xs.getD i Str.empty)) = (xs.take (i + 1)).any (· == k) := by
  rw [List.take_add_one, List.any_append, List.getElem?_eq_getElem h, List.getD_eq_getElem?_getD, List.getElem?_eq_getElem h]
  show _ = (_ || ([xs[i]].any (· == k)))
  rw [List.any_cons, List.any_nil, Bool.or_false]
  congr 1
  rw [Bool.eq_iff_iff, decide_eq_true_eq, beq_iff_eq]
  exact ⟨fun e => e.symm, fun e => e.symm⟩
section
variable {prog : Program} {w : World} {A : Around} {R : Result → Shared → Prop} {I : Addr} {fp wr : List Addr} {G : Array GenState → Array GenState → Prop} {n : Nat} {P : Nat → Value → Prop} {St : Nat → Shared → Prop}
/-- the walk that fills the set -/
theorem loopTxt (W : WalksS prog w A.in1 I fp wr G n P St) (S : Addr) (hSf : S ∉ fp) (xs : List Str) (hsz : xs.length = n) (hn : n + 1 < scanBound) (hval : ∀ i v, P i v → ∃ t, v = .str (xs.getD i Str.empty) t) :
    ∀ (k i : Nat) (s : Shared), n - i = k → i ≤ n → St i s → s.heap.SetOf (PySem.strKind prog w) S (fun k' => (xs.take i).any (· == k')) (distN xs i) →
      (∀ s', Moved (S :: wr) G s s' → s'.heap.SetOf (PySem.strKind prog w) S (fun k' => (xs.take n).any (· == k')) (distN xs n) → R (.ok (.ret .none)) s') →
      codeAny (model prog w) A (.builtin "set.update.loop" ⟨[.ref S, .ref I], []⟩) R s := by
  have away : S ∉ wr := fun h => hSf (W.sub _ h)
  have inc : ∀ b ∈ wr, b ∈ S :: wr := fun b hb => List.mem_cons_of_mem _ hb
  have carry : ∀ {i : Nat} {s s' : Shared}, Moved wr G s s' → s.heap.SetOf (PySem.strKind prog w) S (fun k' => (xs.take i).any (· == k')) (distN xs i) → s'.heap.SetOf (PySem.strKind prog w) S (fun k' => (xs.take i).any (· == k')) (distN xs i) :=
    fun hm ⟨o, es, ep, t, ho, more⟩ => ⟨o, es, ep, t, hm.heap S _ away ho, more⟩
  intro k
  induction k with
  | zero =>
    intro i s hk hi hst hS hR
    obtain rfl : i = n := by omega
    refine codeAny_builtin PyProof.Rows.F.entry_set_update_loop ?_
    rw [Around.under_plainId PyProof.Rows.F.plain_set_update_loop _]
    show wpAny _ A.in1 (pyNext (.ref I) >>= _) _ _ s
    exact wpAny_bind (W.done s _ _ hst fun s' hm => wpAny_pure (hR s' (hm.mono inc) (carry hm hS)))
  | succ k ih =>
    intro i s hk hi hst hS hR
    have hlt : i < n := by omega
    refine codeAny_builtin PyProof.Rows.F.entry_set_update_loop ?_
    rw [Around.under_plainId PyProof.Rows.F.plain_set_update_loop _]
    show wpAny _ A.in1 (pyNext (.ref I) >>= _) _ _ s
    refine wpAny_bind (W.item i s _ _ hlt hst fun v s' hP hst' hm => ?_)
    obtain ⟨t, rfl⟩ := hval i v hP
    show wpAny _ A.in1 (holding [Value.str (xs.getD i Str.empty) t] (setAdd S (.str (xs.getD i Str.empty) t)) >>= _) _ _ s'
    refine wpAny_bind (wpAny_holding ?_)
    unfold setAdd
    refine wpAny_holding (wpAny_bind ((PySem.strKind prog w).pyHash (k := xs.getD i Str.empty) (strKind_is _ _ _ _) ?_))
    have room : distN xs i + 1 < scanBound := by
      have := distN_le xs i
      omega
    have here := carry hm hS
    refine wpAny_setAddHashed_of (knd := PySem.strKind prog w) (s := { s' with toks := s'.toks + 1 }) (strKind_is _ _ _ _) rfl here room fun h' sb new => ?_
    have next : h'.SetOf (PySem.strKind prog w) S (fun k' => (xs.take (i + 1)).any (· == k')) (distN xs (i + 1)) :=
      PyProof.Rows.SetOf_congr new (fun k' => any_step (by omega) k') (by rw [distN])
    refine wpAny_pure ⟨plainId_quiet PyProof.Rows.F.plain_set_update_loop _, ih (i + 1) _ (by omega) hlt (W.frame _ s' _ _ hst' (Nat.le_succ _) fun b hb o e => ?_) next fun s'' hm'' hS'' => ?_⟩
    · exact (sb.2 b fun h : b = S => hSf (by rw [← h]; exact hb)).trans e
    · exact hR s'' (Moved.trans W.gtrans ((hm.mono inc).then_heap (Nat.le_succ _) fun b o hb e => (sb.2 b fun h : b = S => hb (by rw [h]; exact List.mem_cons_self)).trans e) hm'') hS''
end
section
variable {prog : Program} {w : World} {A : Around} {E : Value → Shared → Prop} {s : Shared}
set_option maxHeartbeats 3200000 in
/-- set(xs): what is made, in a room of its own -/
theorem call_setTxt {l : Addr} {items : Array Value} {xs : List Str} {Q : Value → Shared → Prop} (hh : A.handled = none) (hl : s.heap.IsList l items) (hi : PyProof.Rows.StrsAre items.toList xs) (hn : xs.length + 1 < scanBound)
    (h : ∀ (h' : Heap) (tk : Nat), h'.SetOf (PySem.strKind prog w) s.heap.objs.size (fun k' => (xs.take xs.length).any (· == k')) (distN xs xs.length) →
      (∀ b o, b < s.heap.objs.size → s.heap.get? b = some o → h'.get? b = some o) → Q (.ref s.heap.objs.size) { s with heap := h', toks := tk }) :
    wpAny (model prog w) A (call (.type "set") [.ref l]) Q E s := by
  have hsz : xs.length = items.size := by rw [← PyProof.Rows.StrsAre.len_eq hi, Array.length_toList]
  rw [hsz] at h hn
  obtain ⟨c, tl, hmro⟩ := PySem.F.called_set.mro
  have hmade := PySem.F.called_set.made
  have hsub := PySem.F.called_set.sub
  have h1 := PySem.F.called_set.notType
  have h2 := PySem.F.called_set.canCreate
  have hct := PySem.F.typeCall_set_1 (.ref l)
  refine wpAny_call (codeAny_of_tree ?_)
  show wpAny _ _ (callAny (.type "set") _) _ _ _
  refine wpAny_pure ⟨Code.quiet_builtin _ (by decide +kernel), codeAny_builtin PySem.F.entry_type_call ?_⟩
  rw [Around.under_plain (weight_type_call_type "set" [.ref l] []) rfl]
  repeat (any_goals (first | assumption | wp_step))
  refine codeAny_mono (code_set_new_1 (.ref l) (E := E) (Q₁ := fun obj s₁ => ∃ led : Bool, obj = .ref s.heap.objs.size ∧ s₁ = { s with heap := s.heap.push { cls := .type "set", dict := none, data := .set #[] 0 (.fresh 0 0 led) } }) fun led => ⟨led, rfl, rfl⟩) fun r s₁ hr => ?_
  match r, hr with
  | .error e, hr => exact hr
  | .ok (.ret obj), hr =>
    obtain ⟨led, rfl, rfl⟩ := hr
    have new : (s.heap.push { cls := .type "set", dict := none, data := .set #[] 0 (.fresh 0 0 led) }).get? s.heap.objs.size = some { cls := .type "set", dict := none, data := .set #[] 0 (.fresh 0 0 led) } := Heap.get?_push_size _ rfl
    have hT : Shared.TypeIs { s with heap := s.heap.push { cls := .type "set", dict := none, data := .set #[] 0 (.fresh 0 0 led) } } (.ref s.heap.objs.size) "set" := ⟨_, new, rfl⟩
    have hli := PySem.F.called_set.init.lookup
    have hbi := PySem.F.called_set.init.bind (.ref s.heap.objs.size)
    repeat (any_goals (first | assumption | wp_step))
    refine codeAny_mono (codeAny_call_builtin (R := wants (fun r s₂ => r = .none ∧ ∃ h' tk, s₂ = { s with heap := h', toks := tk } ∧ h'.SetOf (PySem.strKind prog w) s.heap.objs.size (fun k' => (xs.take items.size).any (· == k')) (distN xs items.size) ∧
        (∀ b o, b < s.heap.objs.size → s.heap.get? b = some o → h'.get? b = some o)) E) PySem.F.called_set.init.plain PySem.F.entry_set_init (check_set_init_1 hT ?_)) fun r₂ s₂ hr₂ => ?_
    · obtain ⟨⟨ocls, odict, odata, oslots⟩, hol, hcl, nl, hdl⟩ := hl
      simp only at hcl hdl
      subst hcl hdl
      have hl1 : (s.heap.push { cls := .type "set", dict := none, data := .set #[] 0 (.fresh 0 0 led) }).IsList l items := ⟨_, Heap.get?_push_of_some _ hol, rfl, nl, rfl⟩
      have hol' := Heap.get?_push_of_some (o := { cls := .type "set", dict := none, data := .set #[] 0 (.fresh 0 0 led) }) hol
      have s1 := PySem.F.sub_list_set
      have s2 := PySem.F.sub_list_frozenset
      have ne : (Value.type "list" == Value.type "dict") = false := by decide
      unfold Builtin.«set.__init__» noKeywords Builtin.Frozenset.updateFrom
      generalize hPI : pyIter = PI
      wp_walk
      subst hPI
      refine wpAny_pyIter_list hl1 (wpAny_bind (wpAny_runValue ?_))
      have lt := Heap.lt_size hol
      have calm : A.in1.in1.in1.handled = none := by simp [hh]
      have sz1 : (s.heap.push { cls := .type "set", dict := none, data := .set #[] 0 (.fresh 0 0 led) }).objs.size = s.heap.objs.size + 1 := Heap.size_push _ _
      have out : s.heap.objs.size ∉ [(s.heap.push { cls := .type "set", dict := none, data := .set #[] 0 (.fresh 0 0 led) }).objs.size, l] := by
        rw [sz1]
        simp only [List.mem_cons, List.not_mem_nil, or_false, not_or]
        exact ⟨Nat.ne_of_lt (Nat.lt_succ_self _), Nat.ne_of_gt lt⟩
      refine loopTxt ((Walks.list calm _ l (by rw [sz1]; exact Nat.ne_of_lt (Nat.lt_succ_of_lt lt)) items).toS) s.heap.objs.size out xs hsz hn (fun i v hv => SS.strs_at hi i v (by rw [Array.getElem?_toList]; exact hv)) (items.size - 0) 0 _ (by omega) (Nat.zero_le _)
        ⟨⟨_, Heap.get?_push_size _ rfl, rfl, rfl⟩, hl1.push _⟩ (PyProof.Rows.SetOf_congr ((PyProof.Rows.setObjOf_fresh (knd := PySem.strKind prog w) led).setOf (Heap.get?_push_of_some _ new) (by unfold scanBound; omega)) (fun _ => rfl) rfl) ?_
      rintro ⟨h', g', d', tk', os'⟩ hm done
      obtain rfl : g' = s.gens := hm.gens
      obtain rfl : d' = s.drawn := hm.drawn
      obtain rfl : os' = s.os := hm.os
      show wpAny _ _ _ _ _ _
      refine wpAny_pure ?_
      show wpAny _ _ (ret Value.none) _ _ _
      refine wpAny_pure ⟨rfl, h', tk', rfl, done, fun b o hb e => hm.heap b o ?_ (Heap.get?_push_of_some _ (Heap.get?_push_of_some _ e))⟩
      rw [sz1]
      simp only [List.mem_cons, List.not_mem_nil, or_false, not_or]
      exact ⟨Nat.ne_of_lt hb, Nat.ne_of_lt (Nat.lt_succ_of_lt hb)⟩
    · match r₂, hr₂ with
      | .error e, hr₂ => exact hr₂
      | .ok (.ret r), hr₂ =>
        obtain ⟨rfl, h', tk, rfl, done, old⟩ := hr₂
        repeat (any_goals (first | assumption | wp_step))
        exact h _ _ done old
end
section
variable {X : Cx}
def tLenSetT (K : PySem.W.Frag) (ta : TE) : TE := fun σ H Q => ta σ H fun x H1 => ∃ l, ∃ xs : List Str, x = .ref l ∧ SqL K H1 l (xs.map V.str) ∧ xs.length ≤ 1000 ∧ Q (.int (distN xs xs.length)) H1
theorem pe_lenSetT {a : Expr} {ta : TE} {p p2 q pos : Pos} (hc : X.calm = true) (hg : Gl X "len") (hm : X.mg "len" = none) (hg2 : Gl X "set") (hm2 : X.mg "set" = none) (ha : PE X a ta)
    (na : starEach [a] X.env = (false, eval a X.env) :: starEach [] X.env := by rfl) : PE X (.Call (.Name "len" p) [.Call (.Name "set" p2) [a] [] q] [] pos) (tLenSetT X.K ta) := by
  refine ⟨fun pins s σ H Q I h => Call_ (ld_blt I hg hm boot_len ?_)⟩
  refine PyProof.Rows.callWith_builtin1 (PyProof.Rows.args_cons ?_ rfl) rfl rfl
  refine Call_ (ld_blt I hg2 hm2 boot_set ?_)
  refine PyProof.Rows.callWith_type1 (PyProof.Rows.args_cons (thn (ha.run pins s σ H _ I h) fun v s1 ⟨x, H1, I1, r1, q1⟩ => PyProof.Rows.args_nil ?_) na) na rfl
  obtain ⟨l, xs, rfl, hq, hx, q1⟩ := q1
  cases r1
  obtain ⟨its, r, pl, hz⟩ := I1.list hq
  have bound : (1100 : Nat) < scanBound := by decide
  refine call_setTxt (I1.ok.hd hc) pl.isList (by simpa using strsAre_of r) (by omega) fun h' tk hS hk => PyProof.Rows.args_nil ?_
  obtain ⟨o, es, ep, t, ho, hex, hd, _, _, _, hf, hn⟩ := hS
  have I2 : Inv X pins σ H1 { s1 with heap := h', toks := tk } := I1.kept fun b o e => hk b o (Heap.lt_size e) e
  have small := distN_le xs xs.length
  exact call_len_set ho hex hd hf (by rw [hn]; omega) ⟨.int (distN xs xs.length), H1, I2.tok _, ⟨_, by rw [hn]⟩, q1⟩
end

/-! ### xs.extend(t), t a tuple -/
theorem q_extend_tup (l : Addr) (items : Array Value) (n : Nat) (b : Addr) (items2 : Array Value) (n2 : Nat) (dd : Option Addr) (sl : Array (Option Value)) (h0 : ¬(!items.isEmpty && Builtin.List.listTooLong (items.size + items2.size)) = true) (h1 : items.size ≤ sizeLine) (h2 : items.size + items2.size ≤ sizeLine + 1) :
    Meets (Builtin.«list.extend» ⟨[.ref l, .ref b], []⟩) (fun _ R s => s.heap.get? l = some { cls := .type "list", dict := none, data := .seq items n, slots := #[] } ∧ s.heap.get? b = some { cls := .type "tuple", dict := dd, data := .seq items2 n2, slots := sl } ∧
      R (.ok (.ret Value.none)) { s with heap := s.heap.update l (Obj.mapSeq fun x => x ++ items2), toks := s.toks }) :=
  .of_wp fun prog w A R s h => by
    obtain ⟨hp, g, d, tk, os⟩ := s
    obtain ⟨hl, hb, h⟩ := h
    have f1 := AutoSeq1.idx_int
    have f2 := AutoSeq1.sub_tuple_tuple
    have f3 := AutoSeq1.sub_list_list
    have f4 := AutoSeq1.sub_tuple_list
    have f5 := AutoSeq1.sub_list_tuple
    have hz' : (items ++ items2).size ≤ sizeLine + 1 := by rw [Array.size_append]; exact h2
    wp_walk using (wpAny_updateSeq hl rfl (hz := h1) (_hz' := hz')), wpAny_loadPart' hl, wpAny_loadPart' hb
    exact ⟨_, rfl, h⟩
def rExtendT (K : PySem.W.Frag) : V → List V → Hp → VK → Prop := fun x vs H Q => ∃ l b xs zs, x = .ref l ∧ vs = [.ref b] ∧ H l = some (.lst xs) ∧ SqT K H b zs ∧ xs.length + zs.length ≤ sizeLine ∧ Q .non (upd H l (.lst (xs ++ zs)))
theorem mt_extendT {X : Cx} : MtR X "list.extend" (rExtendT X.K) := by
  intro pins s σ H x vs v us Q I rx rv h
  obtain ⟨l, b, xs, zs, rfl, rfl, hH, hB, hz, q⟩ := h
  cases rx
  obtain ⟨u, rfl, ru⟩ := rv.one
  cases ru
  obtain ⟨z, its, n, r, hl, e⟩ := I.lstM hH
  obtain ⟨its2, r2, ⟨⟨ocls, dd, odata, sl⟩, e2, hc, n2, hd⟩, hl2⟩ := I.tuple hB
  simp only at hc hd
  subst hc hd
  have len2 := r2.length
  have hsz : its.toArray.size + its2.toArray.size ≤ sizeLine := by rw [List.size_toArray, List.size_toArray]; omega
  have hlong : ¬ (!its.toArray.isEmpty && Builtin.List.listTooLong (its.toArray.size + its2.toArray.size)) = true := by
    rw [notLongL hsz, Bool.and_false]
    exact Bool.false_ne_true
  refine call_meets F.slot_list_extend ⟨_, e, rfl⟩ F.entry_list_extend (F.args_list_extend_2 _ _) (q_extend_tup l its.toArray n b its2.toArray n2 dd sl hlong (by rw [List.size_toArray]; omega) (by omega)) ⟨e, e2, ?_⟩
  refine ⟨.non, _, I.lset (its' := its ++ its2) hH e (by simp) (r.append r2) ?_, rfl, q⟩
  rw [List.length_append]
  omega

/-! ### the mathematics: names -/
def sL : Str := "abcdefghijklmnopqrstuvwxyzABCDEFGHIJKLMNOPQRSTUVWXYZ"
def sD : Str := "0123456789"
def sM : Str := "ABCDEFGHIJKLMNOPQRSTUVWXYZabcdefghijklmnopqrstuvwxyz"
def sS : Str := "+-*/<>=~&,@"
def isL (c : Nat) : Bool := decide (c ∈ cl sL)
def isD (c : Nat) : Bool := decide (c ∈ cl sD)
def isLD (c : Nat) : Bool := isL c || isD c
theorem isL_M (c : Nat) : isL c = decide (c ∈ cl sM) := by
  have h1 : ∀ x ∈ cl sL, x ∈ cl sM := by decide +kernel
  have h2 : ∀ x ∈ cl sM, x ∈ cl sL := by decide +kernel
  unfold isL
  rw [Bool.eq_iff_iff, decide_eq_true_eq, decide_eq_true_eq]
  exact ⟨h1 c, h2 c⟩
theorem isLD_iff (c : Nat) : isLD c = true ↔ (c ∈ cl sL ∨ c ∈ cl sD) := by
  unfold isLD isL isD
  rw [Bool.or_eq_true, decide_eq_true_eq, decide_eq_true_eq]
def run (l : List Nat) : Nat := (l.takeWhile isLD).length
theorem run_le : ∀ l : List Nat, run l ≤ l.length
  | [] => Nat.le_refl _
  | c :: r => by
    unfold run
    rw [List.takeWhile_cons]
    split
    · have := run_le r
      unfold run at this
      simp only [List.length_cons]
      omega
    · simp
theorem run_cons (c : Nat) (r : List Nat) : run (c :: r) = if isLD c = true then run r + 1 else 0 := by
  unfold run
  rw [List.takeWhile_cons]
  split <;> simp
theorem run_at : ∀ (l : List Nat) (j : Nat) (c : Nat), j ≤ run l → l[j]? = some c → (isLD c = true ↔ j < run l)
  | [], j, c, _, h => by simp at h
  | a :: r, 0, c, _, h => by
    have e : a = c := Option.some.inj h
    subst e
    rw [run_cons]
    split <;> simp_all
  | a :: r, j + 1, c, hj, h => by
    rw [run_cons] at hj ⊢
    split at hj
    · have ih := run_at r j c (by omega) h
      rename_i ha
      rw [if_pos ha, ih]
      omega
    · omega
theorem run_all : ∀ l : List Nat, run l = l.length ↔ ∀ c ∈ l, isLD c = true
  | [] => by simp [run]
  | a :: r => by
    have ih := run_all r
    have h1 := run_le r
    rw [run_cons]
    split
    · rename_i ha
      simp only [List.length_cons, List.mem_cons, forall_eq_or_imp, ha, true_and, ← ih]
      omega
    · rename_i ha
      simp only [List.length_cons, List.mem_cons, forall_eq_or_imp]
      constructor
      · intro h
        omega
      · intro h
        exact absurd h.1 ha
/-- name_end from a place on: how many characters -/
def nameLen : List Nat → Nat
  | [] => 0
  | c :: r => if isL c = true then (if 32 < run (c :: r) then 0 else run (c :: r)) else 0
def nameB (l : List Nat) : Bool := !decide (l = []) && decide (nameLen l = l.length)
/-- a name, as the document says it -/
def nameOk : List Nat → Bool
  | [] => false
  | c :: r => isL c && (r.all isLD) && decide ((c :: r).length ≤ 32)
theorem nameB_ok : ∀ l : List Nat, nameB l = nameOk l
  | [] => rfl
  | c :: r => by
    have h := run_all (c :: r)
    have h1 : 0 < (c :: r).length := Nat.succ_pos _
    rw [Bool.eq_iff_iff]
    unfold nameB nameOk nameLen
    simp only [reduceCtorEq, decide_false, Bool.not_false, Bool.true_and, decide_eq_true_eq, Bool.and_eq_true, List.all_eq_true]
    constructor
    · intro e
      split at e
      · rename_i hc
        split at e
        · omega
        · rename_i h32
          have ha := h.mp e
          refine ⟨⟨hc, fun x hx => ha x (List.mem_cons_of_mem _ hx)⟩, by omega⟩
      · omega
    · rintro ⟨⟨hc, hr⟩, hl⟩
      have e : run (c :: r) = (c :: r).length := h.mpr fun x hx => by
        rcases List.mem_cons.mp hx with rfl | hx
        · simp [isLD, hc]
        · exact hr x hx
      rw [if_pos hc, if_neg (by omega), e]
def charOk (j c : Nat) : Prop := isL c = true ∨ (j ≠ 0 ∧ isD c = true)
theorem nameOk_iff : ∀ l : List Nat, nameOk l = true ↔ (l ≠ [] ∧ l.length ≤ 32 ∧ ∀ j c, l[j]? = some c → charOk j c)
  | [] => by simp [nameOk]
  | a :: r => by
    unfold nameOk charOk
    simp only [Bool.and_eq_true, List.all_eq_true, decide_eq_true_eq]
    constructor
    · rintro ⟨⟨ha, hr⟩, hl⟩
      refine ⟨by simp, hl, fun j c hj => ?_⟩
      cases j with
      | zero =>
        have e : a = c := Option.some.inj hj
        rw [← e]
        exact Or.inl ha
      | succ j =>
        have hm : c ∈ r := List.mem_of_getElem? (i := j) hj
        have := hr c hm
        unfold isLD at this
        rcases Bool.or_eq_true_iff.mp this with h | h
        · exact Or.inl h
        · exact Or.inr ⟨by omega, h⟩
    · rintro ⟨_, hl, h⟩
      refine ⟨⟨?_, fun c hc => ?_⟩, hl⟩
      · rcases h 0 a rfl with h0 | h0
        · exact h0
        · exact absurd rfl h0.1
      · obtain ⟨j, hj⟩ := List.getElem?_of_mem hc
        unfold isLD
        rcases h (j + 1) c hj with h0 | h0
        · rw [h0]
          rfl
        · rw [h0.2, Bool.or_true]

def sp_letters_end : Sp := fun vs H Q _ => ∃ (x : Str) (n : Nat), vs = [.str x, .int n] ∧ n ≤ (cl x).length ∧ x.length ≤ 100000 ∧ Q (.int ((n + run ((cl x).drop n) : Nat) : Int)) H
theorem sp_letters_end_len {vs H Q E} (h : sp_letters_end vs H Q E) : vs.length = (["source", "at"] : List Str).length := by
  obtain ⟨_, _, rfl, _⟩ := h
  rfl
section
variable {P : Program} {w : World} {K : PySem.W.Frag} {mg : Str → Option Value} {base : Heap} {A : Ad}
theorem ok_letters_end (T : Txt K mg A) : FnOk P w K mg base CX0 1 A.f_letters_end A.d_letters_end ["source", "at"] (sp_letters_end) := by
  refine Fun.ok T.F_letters_end sc_letters_end (fun vs H Q E h => ?_) (fun cdv Ar outer s H vs Q E hr h => ?_)
  · exact sp_letters_end_len h
  · have hu := hu_of hr
    refine ⟨_, (pss_cons (ps_while PassesOwn.never (PW.pt (pw_and (pt_cmpR op_lt (pv 1) (pe_callB call_len_str (by rfl) T.z_len PySem.boot_len (pa_cons (pv 0) pa_nil)) (nomark _)) (pw_and1 (PW.pt (pw_or (pt_cmpR op_in_sign (pe_item_str (pv 0) (pv 1) (fun _ _ => rfl)) (pe_glob (v := .str "abcdefghijklmnopqrstuvwxyzABCDEFGHIJKLMNOPQRSTUVWXYZ") (by rfl) T.c_LETTERS ⟨_, rfl⟩) (by rfl)) (pw_or1 (pt_cmpR op_in_sign (pe_item_str (pv 0) (pv 1) (fun _ _ => rfl)) (pe_glob (v := .str "0123456789") (by rfl) T.c_DIGITS ⟨_, rfl⟩) (by rfl)))))))) (pss_one (ps_asg (pe_op op_add (pv 1) pe_int) (pg_name (i := 1) sc_letters_end.nd rfl (Or.inl rfl)))))
    (pss_one (ps_ret (pv 1)))), ?_⟩
    obtain ⟨x, n, rfl, hn, hx, k⟩ := h
    refine ⟨fun m σ H' => H' = H ∧ ∃ j, σ = [some (.str x), some (.int ((n + j : Nat) : Int))] ∧ j + m = run ((cl x).drop n), ⟨run ((cl x).drop n), rfl, 0, rfl, by omega⟩, ?_⟩
    rintro m σ H' ⟨rfl, j, rfl, hj⟩
    simp (config := { maxSteps := 4000000 }) only [tSeq, tNext, tDrop, tRet, tRetN, tIfS, tAsg, tTest, tAnd, tOr, tNot, tAndV, tOrV, tNotV, tIf, tOp, tUn, tVar, tC, tCB, tCons, tNil, tCall, tPart, tNoPart, tM0, tM1, tTup, tLst, tB, tIsN, tNotN, rI0, rI, rU, rEq, rNe, rAdd, gName, gTup, gCons, gNil, gSub, rSetL, rIxL, rIxT, rIxS, L2.start,
      List.map_cons, List.map_nil, List.cons_append, List.nil_append, List.append_nil, List.length_cons, List.length_nil, List.replicate, List.getElem?_cons_zero, List.getElem?_cons_succ, List.set_cons_zero, List.set_cons_succ, Nat.reduceAdd, Nat.reduceSub, Nat.sub_self, Nat.zero_add,
      Option.some.injEq, V.int.injEq, V.str.injEq, V.bl.injEq, V.ref.injEq, V.ty.injEq, List.cons.injEq, and_true, true_and, exists_eq_left, exists_eq_left', exists_eq_right, exists_and_left, exists_and_right, exists_const, decide_eq_true_eq, decide_eq_false_iff_not, if_true, if_false, reduceIte, Bool.false_eq_true, Bool.not_eq_true', sc_ii, sc_ss, sc_bb, str1, cx_K, lstAt, rIxM, rSetM, rLenM, atI_0, atI_1, atI_2, atI_3, setI_0, setI_1, setI_2, setI_3, upd_same, upd_upd, ite_true, ite_false, exists_eq', eq_self, and_assoc, rIsS, isTy_bb, isTy_bi, isTy_ib, isTy_ii, isTy_ss, isTy_nb, isTy_ni, Bool.not_true, Bool.not_false, not_true_eq_false, not_false_eq_true, tChain, tRz1, tRz2, rIsX, tFx, tMethE, tCallS, tCallZ, tMeth, tMake, tFld, sFld, HO.ins.injEq, HO.lst.injEq, HO.dK.injEq, HO.tup.injEq, dcAt, dcRd, rDInM, rDGetM, rDSetM, rDLenM, keyOf_int, keyOf_str, rIsBM, plainV_b, plainV_i, plainV_n, plainV_s, rInM, rListM, rSortM, rSumM, rIsD, tBMM, tBM0M, tSl, rSlM, rAppend, rPop, rClear, wAs, reduceCtorEq, false_implies, true_implies, implies_true, forall_const, cxH_K, clsV_ref, clsV_ty, HO.xd.injEq, Value.ref.injEq, lkc, lkn, pfn, pfc, List.map_nil, rExtend, rCat, rRep, tMethE0, rSortD, rPush, rPopH, tDGetM, gAll, iRev, tCB, sDDel, wPair, tBreak, tDelT, rDLenR, tMethN]
    have hl := len_cl x
    have hle := run_le ((cl x).drop n)
    rw [List.length_drop] at hle
    refine ⟨Nat.le_trans hx (by decide), ite2 (fun h1 => ?_) (fun h1 => ?_)⟩
    · have hlt : n + j < (cl x).length := by omega
      have hc : x.cps[((n + j : Nat) : Int).toNat]? = some ((cl x)[n + j]) := by
        rw [Int.toNat_natCast, at_cl, List.getElem?_eq_getElem hlt]
      have hd : ((cl x).drop n)[j]? = some ((cl x)[n + j]) := by
        rw [List.getElem?_drop, List.getElem?_eq_getElem hlt]
      have key := run_at _ j _ (by omega) hd
      have fin : isLD ((cl x)[n + j]) = true → (∃ m', m' < m ∧ H' = H' ∧ ∃ j_1, ([some (.str x), some (.int (((n + j : Nat) : Int) + 1))] : L2.St) = [some (.str x), some (.int ((n + j_1 : Nat) : Int))] ∧ j_1 + m' = run ((cl x).drop n)) := fun hi => by
        have hj2 := key.mp hi
        exact ⟨m - 1, by omega, rfl, j + 1, by rw [show ((n + j : Nat) : Int) + 1 = ((n + (j + 1) : Nat) : Int) by omega], by omega⟩
      refine ⟨by omega, by omega, by omega, _, hc, ite2 (fun h2 => ?_) (fun h2 => ?_)⟩
      · exact ⟨_, fun _ _ h => h, fin ((isLD_iff _).mpr (Or.inl h2))⟩
      · refine ⟨by omega, by omega, by omega, _, hc, ite2 (fun h3 => ?_) (fun h3 => ?_)⟩
        · exact ⟨_, fun _ _ h => h, fin ((isLD_iff _).mpr (Or.inr h3))⟩
        · have hn2 : ¬ isLD ((cl x)[n + j]) = true := fun z => ((isLD_iff _).mp z).elim h2 h3
          have hn3 : ¬ j < run ((cl x).drop n) := fun h => hn2 (key.mpr h)
          have : j = run ((cl x).drop n) := by omega
          rw [this]
          exact k
    · have : j = run ((cl x).drop n) := by omega
      rw [this]
      exact k
end

def sp_name_end : Sp := fun vs H Q _ => ∃ (x : Str) (n : Nat), vs = [.str x, .int n] ∧ n ≤ (cl x).length ∧ x.length ≤ 100000 ∧ Q (.int ((n + nameLen ((cl x).drop n) : Nat) : Int)) H
theorem sp_name_end_len {vs H Q E} (h : sp_name_end vs H Q E) : vs.length = (["source", "at"] : List Str).length := by
  obtain ⟨_, _, rfl, _⟩ := h
  rfl
section
variable {P : Program} {w : World} {K : PySem.W.Frag} {mg : Str → Option Value} {base : Heap} {A : Ad}
theorem ok_name_end (T : Txt K mg A) : FnOk P w K mg base CX0 2 A.f_name_end A.d_name_end ["source", "at"] (sp_name_end) := by
  refine Fun.ok T.F_name_end sc_name_end (fun vs H Q E h => ?_) (fun cdv Ar outer s H vs Q E hr h => ?_)
  · exact sp_name_end_len h
  · have hu := hu_of hr
    refine ⟨_, (pss_cons (ps_if (PW.pt (pw_or (pt_cmpR op_ge (pv 1) (pe_callB call_len_str (by rfl) T.z_len PySem.boot_len (pa_cons (pv 0) pa_nil)) (nomark _)) (pw_or1 (pt_cmpR op_notIn_sign (pe_item_str (pv 0) (pv 1) (fun _ _ => rfl)) (pe_glob (v := .str "abcdefghijklmnopqrstuvwxyzABCDEFGHIJKLMNOPQRSTUVWXYZ") (by rfl) T.c_LETTERS ⟨_, rfl⟩) (by rfl))))) (pss_one (ps_ret (pv 1))) pss_nil)
    (pss_cons (ps_asg (pe_call (ok_letters_end T) (hr.mono (by decide)) (by rfl) T.g_letters_end T.k_letters_end T.b_letters_end .nil pass0 (pa_cons (pv 0) (pa_cons (pv 1) pa_nil))) (pg_name (i := 2) sc_name_end.nd rfl (Or.inl rfl)))
    (pss_cons (ps_if (pt_cmpR op_gt (pe_op op_sub (pv 2) (pv 1)) (pe_glob (v := .int (32)) (by rfl) T.c_LONGEST_NAME ⟨_, rfl⟩) (nomark _)) (pss_one (ps_ret (pv 1))) pss_nil)
    (pss_one (ps_ret (pv 2)))))), ?_⟩
    obtain ⟨x, n, rfl, hn, hx, k⟩ := h
    simp (config := { maxSteps := 4000000 }) only [tSeq, tNext, tDrop, tRet, tRetN, tIfS, tAsg, tTest, tAnd, tOr, tNot, tAndV, tOrV, tNotV, tIf, tOp, tUn, tVar, tC, tCB, tCons, tNil, tCall, tPart, tNoPart, tM0, tM1, tTup, tLst, tB, tIsN, tNotN, rI0, rI, rU, rEq, rNe, rAdd, gName, gTup, gCons, gNil, gSub, rSetL, rIxL, rIxT, rIxS, L2.start,
      List.map_cons, List.map_nil, List.cons_append, List.nil_append, List.append_nil, List.length_cons, List.length_nil, List.replicate, List.getElem?_cons_zero, List.getElem?_cons_succ, List.set_cons_zero, List.set_cons_succ, Nat.reduceAdd, Nat.reduceSub, Nat.sub_self, Nat.zero_add,
      Option.some.injEq, V.int.injEq, V.str.injEq, V.bl.injEq, V.ref.injEq, V.ty.injEq, List.cons.injEq, and_true, true_and, exists_eq_left, exists_eq_left', exists_eq_right, exists_and_left, exists_and_right, exists_const, decide_eq_true_eq, decide_eq_false_iff_not, if_true, if_false, reduceIte, Bool.false_eq_true, Bool.not_eq_true', sc_ii, sc_ss, sc_bb, str1, cx_K, lstAt, rIxM, rSetM, rLenM, atI_0, atI_1, atI_2, atI_3, setI_0, setI_1, setI_2, setI_3, upd_same, upd_upd, ite_true, ite_false, exists_eq', eq_self, and_assoc, rIsS, isTy_bb, isTy_bi, isTy_ib, isTy_ii, isTy_ss, isTy_nb, isTy_ni, Bool.not_true, Bool.not_false, not_true_eq_false, not_false_eq_true, tChain, tRz1, tRz2, rIsX, tFx, tMethE, tCallS, tCallZ, tMeth, tMake, tFld, sFld, HO.ins.injEq, HO.lst.injEq, HO.dK.injEq, HO.tup.injEq, dcAt, dcRd, rDInM, rDGetM, rDSetM, rDLenM, keyOf_int, keyOf_str, rIsBM, plainV_b, plainV_i, plainV_n, plainV_s, rInM, rListM, rSortM, rSumM, rIsD, tBMM, tBM0M, tSl, rSlM, rAppend, rPop, rClear, wAs, reduceCtorEq, false_implies, true_implies, implies_true, forall_const, cxH_K, clsV_ref, clsV_ty, HO.xd.injEq, Value.ref.injEq, lkc, lkn, pfn, pfc, List.map_nil, rExtend, rCat, rRep, tMethE0, rSortD, rPush, rPopH, tDGetM, gAll, iRev, tCB, sDDel, wPair, tBreak, tDelT, rDLenR, tMethN]
    have hl := len_cl x
    have nil0 : (cl x).length ≤ n → Q (.int (n : Int)) H := fun h => by
      have e : (cl x).drop n = [] := List.drop_eq_nil_of_le h
      rw [e] at k
      exact k
    refine ⟨Nat.le_trans hx (by decide), ite2 (fun h1 => nil0 (by omega)) (fun h1 => ?_)⟩
    have hlt : n < (cl x).length := by omega
    have hc : x.cps[((n : Nat) : Int).toNat]? = some ((cl x)[n]) := by
      rw [Int.toNat_natCast, at_cl, List.getElem?_eq_getElem hlt]
    have hd : (cl x).drop n = (cl x)[n] :: (cl x).drop (n + 1) := List.drop_eq_getElem_cons hlt
    refine ⟨by omega, by omega, by omega, _, hc, ite2 (fun h2 => ?_) (fun h2 => ?_)⟩
    · have e : nameLen ((cl x).drop n) = 0 := by
        rw [hd]
        show (if isL ((cl x)[n]) = true then _ else 0) = 0
        exact if_neg (fun z => h2 (of_decide_eq_true z))
      rw [e] at k
      exact k
    · have hL : isL ((cl x)[n]) = true := decide_eq_true (Classical.byContradiction h2)
      have e : nameLen ((cl x).drop n) = if 32 < run ((cl x).drop n) then 0 else run ((cl x).drop n) := by
        rw [hd]
        show (if isL ((cl x)[n]) = true then _ else 0) = _
        rw [if_pos hL]
      rw [e] at k
      refine ⟨x, n, rfl, hn, hx, _, rfl, ite2 (fun h3 => ?_) (fun h3 => ?_)⟩
      · rw [if_pos (by omega)] at k
        exact k
      · rw [if_neg (by omega)] at k
        exact k
end

def sp_is_name : Sp := fun vs H Q _ => ∃ (x : Str), vs = [.str x] ∧ x.length ≤ 100000 ∧ Q (.bl (nameOk (cl x))) H
theorem sp_is_name_len {vs H Q E} (h : sp_is_name vs H Q E) : vs.length = (["text"] : List Str).length := by
  obtain ⟨_, rfl, _⟩ := h
  rfl
section
variable {P : Program} {w : World} {K : PySem.W.Frag} {mg : Str → Option Value} {base : Heap} {A : Ad}
theorem ok_is_name (T : Txt K mg A) : FnOk P w K mg base CX0 3 A.f_is_name A.d_is_name ["text"] (sp_is_name) := by
  refine Fun.ok T.F_is_name sc_is_name (fun vs H Q E h => ?_) (fun cdv Ar outer s H vs Q E hr h => ?_)
  · exact sp_is_name_len h
  · have hu := hu_of hr
    refine ⟨_, (pss_one (ps_ret (pe_and (pe_cmpR op_ne (pv 0) pe_str (nomark _)) (pe_one (pe_cmpR op_eq (pe_call (ok_name_end T) (hr.mono (by decide)) (by rfl) T.g_name_end T.k_name_end T.b_name_end .nil pass0 (pa_cons (pv 0) (pa_cons pe_int pa_nil))) (pe_callB call_len_str (by rfl) T.z_len PySem.boot_len (pa_cons (pv 0) pa_nil)) (nomark _)))))), ?_⟩
    obtain ⟨x, rfl, hx, k⟩ := h
    rw [← nameB_ok] at k
    unfold nameB at k
    simp (config := { maxSteps := 4000000 }) only [tSeq, tNext, tDrop, tRet, tRetN, tIfS, tAsg, tTest, tAnd, tOr, tNot, tAndV, tOrV, tNotV, tIf, tOp, tUn, tVar, tC, tCB, tCons, tNil, tCall, tPart, tNoPart, tM0, tM1, tTup, tLst, tB, tIsN, tNotN, rI0, rI, rU, rEq, rNe, rAdd, gName, gTup, gCons, gNil, gSub, rSetL, rIxL, rIxT, rIxS, L2.start,
      List.map_cons, List.map_nil, List.cons_append, List.nil_append, List.append_nil, List.length_cons, List.length_nil, List.replicate, List.getElem?_cons_zero, List.getElem?_cons_succ, List.set_cons_zero, List.set_cons_succ, Nat.reduceAdd, Nat.reduceSub, Nat.sub_self, Nat.zero_add,
      Option.some.injEq, V.int.injEq, V.str.injEq, V.bl.injEq, V.ref.injEq, V.ty.injEq, List.cons.injEq, and_true, true_and, exists_eq_left, exists_eq_left', exists_eq_right, exists_and_left, exists_and_right, exists_const, decide_eq_true_eq, decide_eq_false_iff_not, if_true, if_false, reduceIte, Bool.false_eq_true, Bool.not_eq_true', sc_ii, sc_ss, sc_bb, str1, cx_K, lstAt, rIxM, rSetM, rLenM, atI_0, atI_1, atI_2, atI_3, setI_0, setI_1, setI_2, setI_3, upd_same, upd_upd, ite_true, ite_false, exists_eq', eq_self, and_assoc, rIsS, isTy_bb, isTy_bi, isTy_ib, isTy_ii, isTy_ss, isTy_nb, isTy_ni, Bool.not_true, Bool.not_false, not_true_eq_false, not_false_eq_true, tChain, tRz1, tRz2, rIsX, tFx, tMethE, tCallS, tCallZ, tMeth, tMake, tFld, sFld, HO.ins.injEq, HO.lst.injEq, HO.dK.injEq, HO.tup.injEq, dcAt, dcRd, rDInM, rDGetM, rDSetM, rDLenM, keyOf_int, keyOf_str, rIsBM, plainV_b, plainV_i, plainV_n, plainV_s, rInM, rListM, rSortM, rSumM, rIsD, tBMM, tBM0M, tSl, rSlM, rAppend, rPop, rClear, wAs, reduceCtorEq, false_implies, true_implies, implies_true, forall_const, cxH_K, clsV_ref, clsV_ty, HO.xd.injEq, Value.ref.injEq, lkc, lkn, pfn, pfc, List.map_nil, rExtend, rCat, rRep, tMethE0, rSortD, rPush, rPopH, tDGetM, gAll, iRev, tCB, sDDel, wPair, tBreak, tDelT, rDLenR, tMethN]
    have hl := len_cl x
    refine ite2 (fun h1 => ?_) (fun h1 => ?_)
    · refine ⟨x, 0, rfl, Nat.zero_le _, hx, Nat.le_trans hx (by decide), rfl, ?_⟩
      have e : decide (V.int ((0 + nameLen ((cl x).drop 0) : Nat) : Int) = V.int (x.length : Int)) = (!decide (cl x = []) && decide (nameLen (cl x) = (cl x).length)) := by
        rw [decide_eq_false (fun z => h1 (cl_nil.mpr z)), Bool.not_false, Bool.true_and, Bool.eq_iff_iff, decide_eq_true_eq, decide_eq_true_eq, V.int.injEq, List.drop_zero, hl]
        omega
      rw [e]
      exact k
    · have h2 : cl x = [] := cl_nil.mp (Classical.byContradiction h1)
      rw [h2] at k
      exact k
end

theorem inV_strs {x : Str} {xs : List Str} : inV (.str x) (xs.map V.str) = decide (x ∈ xs) := by
  unfold inV
  rw [Bool.eq_iff_iff, List.any_map, List.any_eq_true, decide_eq_true_eq]
  constructor
  · rintro ⟨y, hy, e⟩
    have e2 : y = x := eq_of_beq e
    exact e2 ▸ hy
  · exact fun h => ⟨x, h, beq_self_eq_true x⟩
theorem _root_.L2.SqL.puti {K : PySem.W.Frag} {H : Hp} {a d C dx : Addr} {xs : List V} {fs : List (Str × V)} {o : HO} (h : SqL K H a xs) (g : H d = some (.ins C dx fs)) : SqL K (upd H d o) a xs := by
  rcases h with h | h
  · refine .inl ?_
    have ne : a ≠ d := fun z => by
      subst z
      unfold Rd at h
      rw [g] at h
      rcases h with h | ⟨_, h⟩ <;> cases h
    unfold Rd at h ⊢
    rw [upd_ne ne]
    exact h
  · exact .inr h
/-- a name of a field -/
def lowB : List Nat → Bool
  | [] => false
  | c :: _ => Txt.islower ⟨#[c]⟩
def resv : List Str := ["nil", "true", "false", "self", "super"]
def fieldOk (x : Str) : Bool := nameOk (cl x) && (lowB (cl x) && !decide (x ∈ resv))
def sp_isfield (K : PySem.W.Frag) : Sp := fun vs H Q _ => ∃ (x : Str), vs = [.str x] ∧ x.length ≤ 100000 ∧ Q (.bl (fieldOk x)) H
theorem sp_isfield_len {K vs H Q E} (h : sp_isfield K vs H Q E) : vs.length = (["text"] : List Str).length := by
  obtain ⟨_, rfl, _⟩ := h
  rfl
section
variable {P : Program} {w : World} {K : PySem.W.Frag} {mg : Str → Option Value} {base : Heap} {A : Ad}
theorem ok_is_field_name (T : Txt K mg A) : FnOk P w K mg base CX0 4 A.f_is_field_name A.d_is_field_name ["text"] (sp_isfield K) := by
  refine Fun.ok T.F_is_field_name sc_is_field_name (fun vs H Q E h => ?_) (fun cdv Ar outer s H vs Q E hr h => ?_)
  · exact sp_isfield_len h
  · have hu := hu_of hr
    refine ⟨_, (pss_one (ps_ret (pe_and (pe_call (ok_is_name T) (hr.mono (by decide)) (by rfl) T.g_is_name T.k_is_name T.b_is_name .nil pass0 (pa_cons (pv 0) pa_nil)) (pe_and (pe_m0 PySem.F.slot_str_islower PySem.F.type_str_islower mt_islower (pe_item_str (pv 0) pe_int (fun _ _ => rfl))) (pe_one (pe_cmpR op_notIn_seq (pv 0) (pe_glob (v := .ref A.t_RESERVED) (by rfl) T.c_RESERVED rfl) (by rfl))))))), ?_⟩
    obtain ⟨x, rfl, hx, k⟩ := h
    simp! only [rIn]
    refine ⟨x, rfl, hx, _, rfl, ite2 (fun h1 => ?_) (fun h1 => ?_)⟩
    · have hl := len_cl x
      cases hc : cl x with
      | nil =>
        rw [hc] at h1
        cases h1
      | cons c r =>
        have h0 : x.cps[Int.toNat 0]? = some c := by
          have e : x.cps[0]? = (cl x)[0]? := by
            show x.cps[0]? = x.cps.toList[0]?
            rw [Array.getElem?_toList]
          rw [show Int.toNat 0 = 0 from rfl, e, hc]
          rfl
        rw [hc] at hl
        have kk : Q (.bl (Txt.islower ⟨#[c]⟩ && !decide (x ∈ resv))) H := by
          have e : fieldOk x = (Txt.islower ⟨#[c]⟩ && !decide (x ∈ resv)) := by
            unfold fieldOk
            rw [h1, Bool.true_and, hc]
            rfl
          rw [← e]
          exact k
        refine ⟨Int.le_refl _, by decide, by rw [hl, List.length_cons]; omega, c, h0, ite2 (fun h2 => ?_) (fun h2 => ?_)⟩
        · rw [h2, Bool.true_and] at kk
          refine ⟨_, .inr (T.q_RESERVED H), rfl, by decide, ?_⟩
          have e2 : inV (V.str x) [V.str "nil", V.str "true", V.str "false", V.str "self", V.str "super"] = decide (x ∈ resv) := inV_strs (xs := resv)
          rw [e2]
          exact kk
        · rw [show Txt.islower ⟨#[c]⟩ = false from by simpa using h2, Bool.false_and] at kk
          exact kk
    · have h1' : nameOk (cl x) = false := by simpa using h1
      have e : fieldOk x = false := by
        unfold fieldOk
        rw [h1']
        rfl
      rw [e] at k
      exact k
end

/-- a kind: its name, the one above it, its own fields -/
structure Kd where
  nm : Str
  sup : Option Str
  fs : List Str
def supV : Option Str → V
  | none => .non
  | some x => .str x
def kdF (nm : Str) (sup : Option Str) (t : Addr) : List (Str × V) := [("name", .str nm), ("superclass", supV sup), ("fields", .ref t)]
theorem kdF_n {nm sup t} : List.lookup ("name" : Str) (kdF nm sup t) = some (V.str nm) := rfl
theorem kdF_s {nm sup t} : List.lookup ("superclass" : Str) (kdF nm sup t) = some (supV sup) := rfl
theorem kdF_f {nm sup t} : List.lookup ("fields" : Str) (kdF nm sup t) = some (V.ref t) := rfl
/-- a kind on the heap -/
def KAt (K : PySem.W.Frag) (C : Addr) (H : Hp) (r : Addr) (k : Kd) : Prop := ∃ dx t, H r = some (.ins C dx (kdF k.nm k.sup t)) ∧ SqT K H t (k.fs.map V.str)
theorem KAt.same {K : PySem.W.Frag} {C : Addr} {H H' : Hp} {r : Addr} {k : Kd} (h : KAt K C H r k) (s : Same H H') : KAt K C H' r k :=
  let ⟨dx, t, h1, h2⟩ := h; ⟨dx, t, s _ _ h1, h2.same s⟩
def sp_kindI (K : PySem.W.Frag) (C : Addr) : Sp := fun vs H Q _ => ∃ (a dx p : Addr) (nm : Str) (sup : Option Str) (fs : List Str), vs = [.ref a, .str nm, supV sup, .ref p] ∧ H a = some (.ins C dx []) ∧ (SqL K H p (fs.map V.str) ∨ SqT K H p (fs.map V.str)) ∧
  ∀ H', (∀ b o, b ≠ a → H b = some o → H' b = some o) → KAt K C H' a ⟨nm, sup, fs⟩ → Q .non H'
theorem sp_kindI_len {K C vs H Q E} (h : sp_kindI K C vs H Q E) : vs.length = (["self", "name", "superclass", "fields"] : List Str).length := by
  obtain ⟨_, _, _, _, _, _, rfl, _⟩ := h
  rfl
section
variable {P : Program} {w : World} {K : PySem.W.Frag} {mg : Str → Option Value} {base : Heap} {A : Ad}
theorem ok_Kind___init__ (T : Txt K mg A) : FnOk P w K mg base CX0 1 A.f_Kind___init__ A.d_Kind___init__ ["self", "name", "superclass", "fields"] (sp_kindI K A.C_Kind) := by
  refine Fun.ok T.F_Kind___init__ sc_Kind___init__ (fun vs H Q E h => ?_) (fun cdv Ar outer s H vs Q E hr h => ?_)
  · exact sp_kindI_len h
  · have hu := hu_of hr
    refine ⟨_, (pss_cons (ps_fld (pv 0) (pv 1) rfl)
    (pss_cons (ps_fld (pv 0) (pv 2) rfl)
    (pss_one (ps_fld (pv 0) (pe_callTy call_tuple_of (by rfl) T.z_tuple (by decide +kernel) (pa_cons (pv 3) pa_nil)) rfl)))), ?_⟩
    obtain ⟨a, dx, p, nm, sup, fs, rfl, ha, hp, k⟩ := h
    simp! only [ha, T.cl_Kind, T.no_Kind_name, T.no_Kind_superclass, T.no_Kind_fields]
    have o1 : ∀ b o, b ≠ a → H b = some o → upd H a (HO.ins A.C_Kind dx [(Str.ofString "name", V.str nm), (Str.ofString "superclass", supV sup)]) b = some o := fun b o hb e => by
      rw [upd_ne hb]
      exact e
    have hpa : ∀ {o : HO}, (SqL K H p (fs.map V.str) → SqL K (upd H a o) p (fs.map V.str)) ∧ (SqT K H p (fs.map V.str) → SqT K (upd H a o) p (fs.map V.str)) := fun {o} => ⟨fun h => h.puti ha, fun h => h.puti ha⟩
    refine ⟨by decide, by decide, fs.map V.str, ?_⟩
    rcases hp with hp | hp
    · refine .inl ⟨hpa.1 hp, fun l hl => ?_⟩
      have g1 : upd H a (HO.ins A.C_Kind dx [(Str.ofString "name", V.str nm), (Str.ofString "superclass", supV sup)]) a = some (HO.ins A.C_Kind dx [(Str.ofString "name", V.str nm), (Str.ofString "superclass", supV sup)]) := upd_same
      generalize upd H a (HO.ins A.C_Kind dx [(Str.ofString "name", V.str nm), (Str.ofString "superclass", supV sup)]) = H1 at o1 hl g1 ⊢
      have al := ne_of_none g1 hl
      have s2 := same_new (o := HO.tup (fs.map V.str)) hl
      refine ⟨_, _, _, s2 _ _ g1, T.cl_Kind, T.no_Kind_fields, by show 2 < 1000; decide, k _ (fun b o hb e => ?_) ⟨dx, l, upd_same, .inl (.inl ?_)⟩⟩
      · rw [upd_ne hb]
        exact s2 _ _ (o1 _ _ hb e)
      · rw [upd_ne (Ne.symm al)]
        exact upd_same
    · refine .inr ⟨hpa.2 hp, by decide, k _ (fun b o hb e => ?_) ⟨dx, p, upd_same, hpa.2 hp⟩⟩
      rw [upd_ne hb]
      exact e
end

/-- the kinds of a list -/
def KsAt (K : PySem.W.Frag) (C : Addr) (H : Hp) (p : Addr) (rs : List Addr) (ks : List Kd) : Prop := H p = some (.lst (rs.map V.ref)) ∧ rs.length = ks.length ∧ ∀ (i : Nat) (r : Addr) (k : Kd), rs[i]? = some r → ks[i]? = some k → KAt K C H r k
/-- a table of kinds -/
def tbD (rs : List Addr) (ks : List Kd) : List (Key × V) := List.zipWith (fun r (k : Kd) => ((Sum.inr k.nm : Key), V.ref r)) rs ks
def sp_byname (K : PySem.W.Frag) (C : Addr) : Sp := fun vs H Q _ => ∃ (p : Addr) (rs : List Addr) (ks : List Kd), vs = [.ref p] ∧ KsAt K C H p rs ks ∧ ks.length ≤ 1000 ∧ (ks.map (·.nm)).Nodup ∧ ∀ d, H d = none → Q (.ref d) (upd H d (.dK (tbD rs ks)))
theorem sp_byname_len {K C vs H Q E} (h : sp_byname K C vs H Q E) : vs.length = (["kinds"] : List Str).length := by
  obtain ⟨_, _, _, rfl, _⟩ := h
  rfl
section
variable {P : Program} {w : World} {K : PySem.W.Frag} {mg : Str → Option Value} {base : Heap} {A : Ad}
theorem ok_by_name (T : Txt K mg A) : FnOk P w K mg base CX0 1 A.f_by_name A.d_by_name ["kinds"] (sp_byname K A.C_Kind) := by
  refine Fun.ok T.F_by_name sc_by_name (fun vs H Q E h => ?_) (fun cdv Ar outer s H vs Q E hr h => ?_)
  · exact sp_byname_len h
  · have hu := hu_of hr
    refine ⟨_, (pss_one (ps_ret (pe_dc (own := [("kind", 1)]) (g := gName 1) rfl sc_by_name.nd (pi_list (pv 0)) (blkOk_by (own := [("kind", 1)]) (N := ["kinds", "kind"]) (sc := defScope s_by_name) (by decide +kernel)) (fun _ _ _ _ _ => pg_name (i := 1) sc_by_name.nd rfl (Or.inl rfl)) (fun _ _ _ _ _ => pts_nil) (fun _ _ _ _ _ => (pe_fldK (K' := K) rfl (pv 1) rfl)) (fun _ _ _ _ _ => (pv 1))))), ?_⟩
    obtain ⟨p, rs, ks, rfl, hk, hl, nd, k⟩ := h
    obtain ⟨gp, lrs, hks⟩ := hk
    have sz : (2000 : Nat) < sizeLine := by decide
    have ltb : (tbD rs ks).length = ks.length := by
      unfold tbD
      rw [List.length_zipWith, lrs, Nat.min_self]
    have hkeys : (tbD rs ks).map (·.1) = ks.map fun q => (Sum.inr q.nm : Key) := by
      apply List.ext_getElem?
      intro i
      unfold tbD
      rw [List.getElem?_map, List.getElem?_map, List.getElem?_zipWith]
      by_cases hi : i < ks.length
      · rw [List.getElem?_eq_getElem hi, List.getElem?_eq_getElem (show i < rs.length by omega)]
        rfl
      · rw [List.getElem?_eq_none (show ks.length ≤ i by omega), List.getElem?_eq_none (show rs.length ≤ i by omega)]
        rfl
    have ndk : ((tbD rs ks).map (·.1)).Nodup := by
      rw [hkeys]
      have e : ks.map (fun q => (Sum.inr q.nm : Key)) = (ks.map (·.nm)).map (Sum.inr : Str → Key) := by
        rw [List.map_map]
        rfl
      rw [e]
      exact nd.map _ fun a b hab z => hab (Sum.inr.inj z)
    refine ⟨_, rfl, p, rfl, ⟨_, .inl (.inl gp)⟩, fun D hD => ⟨fun i m H' => m = rs.length - i ∧ i ≤ rs.length ∧ H' = upd H D (.dK ((tbD rs ks).take i)), ⟨_, rfl, Nat.zero_le _, rfl⟩, ?_⟩⟩
    rintro i m H' ⟨rfl, hi, rfl⟩
    have sm : Same H (upd H D (.dK ((tbD rs ks).take i))) := same_new hD
    by_cases hlt : i < rs.length
    · have hx : (rs.map V.ref)[i]? = some (.ref rs[i]) := by
        rw [List.getElem?_map, List.getElem?_eq_getElem hlt]
        rfl
      have hki : i < ks.length := by omega
      obtain ⟨dx, t, gr, _⟩ := (hks i rs[i] ks[i] (List.getElem?_eq_getElem hlt) (List.getElem?_eq_getElem hki)).same sm
      refine .inr ⟨⟨_, _, .inl (.inl (sm _ _ gp)), hx⟩, fun H2 => H2 = upd H D (.dK ((tbD rs ks).take (i + 1))), fun H2 h2 => ⟨rs.length - (i + 1), by omega, rfl, hlt, h2⟩, fun x H2 hy => ?_⟩
      obtain ⟨rfl, hy2⟩ := hy
      have ex := hy2 _ (.inl (.inl (sm _ _ gp)))
      rw [hx] at ex
      have ex := Option.some.inj ex
      subst ex
      have hT : (tbD rs ks)[i]? = some (Sum.inr ks[i].nm, V.ref rs[i]) := by
        unfold tbD
        rw [List.getElem?_zipWith, List.getElem?_eq_getElem hlt, List.getElem?_eq_getElem hki]
      refine ⟨rfl, ?_⟩
      simp only [tYes, if_true]
      refine ⟨.ref rs[i], rfl, rs[i], A.C_Kind, dx, _, _, rfl, gr, T.cl_Kind, T.no_Kind_name, kdF_n, .ref rs[i], rfl, (tbD rs ks).take i, Sum.inr ks[i].nm, rfl, upd_same, by rw [List.length_take]; omega, ?_⟩
      rw [upd_upd, putK_new _ (valV_take ndk hT), List.take_add_one, hT]
      rfl
    · have e : i = (tbD rs ks).length := by omega
      subst e
      refine .inl ⟨⟨_, .inl (.inl (sm _ _ gp)), by rw [List.length_map]; omega⟩, ?_⟩
      rw [List.take_length]
      exact k D hD
end

/-- the kind of a name -/
def kdOf (ks : List Kd) (n : Str) : Option Kd := ks.find? fun k => decide (k.nm = n)
/-- the line from a name on, upwards -/
inductive Line (ks : List Kd) : Option Str → List Str → Prop
  | nil : Line ks none []
  | cons {n : Str} {k : Kd} {l : List Str} : kdOf ks n = some k → Line ks k.sup l → Line ks (some n) (n :: l)
/-- a table on the heap -/
structure TbAt (K : PySem.W.Frag) (C : Addr) (H : Hp) (d : Addr) (ks : List Kd) : Prop where
  hd : ∃ kvs, H d = some (.dK kvs) ∧ ∀ n, valV kvs (Sum.inr n) = none ∧ kdOf ks n = none ∨ ∃ r k, valV kvs (Sum.inr n) = some (.ref r) ∧ kdOf ks n = some k ∧ KAt K C H r k
theorem TbAt.same {K : PySem.W.Frag} {C : Addr} {H H' : Hp} {d : Addr} {ks : List Kd} (h : TbAt K C H d ks) (s : Same H H') : TbAt K C H' d ks := by
  obtain ⟨kvs, g, hv⟩ := h.hd
  refine ⟨kvs, s _ _ g, fun n => ?_⟩
  rcases hv n with hn | ⟨r, k, h1, h2, h3⟩
  · exact .inl hn
  · exact .inr ⟨r, k, h1, h2, h3.same s⟩
theorem tbD_val : ∀ (rs : List Addr) (ks : List Kd), rs.length = ks.length → ∀ n, (valV (tbD rs ks) (Sum.inr n) = none ∧ kdOf ks n = none) ∨ ∃ (i : Nat) (r : Addr) (k : Kd), rs[i]? = some r ∧ ks[i]? = some k ∧ valV (tbD rs ks) (Sum.inr n) = some (.ref r) ∧ kdOf ks n = some k
  | [], [], _, n => .inl ⟨rfl, rfl⟩
  | r :: rs, q :: ks, h, n => by
    have h' : rs.length = ks.length := Nat.succ.inj h
    have e : tbD (r :: rs) (q :: ks) = (Sum.inr q.nm, V.ref r) :: tbD rs ks := rfl
    rw [e]
    by_cases hn : q.nm = n
    · subst hn
      exact .inr ⟨0, r, q, rfl, rfl, valV_pos rfl, by unfold kdOf; rw [List.find?_cons_of_pos (by exact decide_eq_true rfl)]⟩
    · have ek : kdOf (q :: ks) n = kdOf ks n := by
        unfold kdOf
        rw [List.find?_cons_of_neg (by simpa using hn)]
      rw [ek, valV_neg (fun z => hn (Sum.inr.inj z))]
      rcases tbD_val rs ks h' n with a | ⟨i, r', k', h1, h2, h3, h4⟩
      · exact .inl a
      · exact .inr ⟨i + 1, r', k', h1, h2, h3, h4⟩
theorem tbD_at {K : PySem.W.Frag} {C : Addr} {H : Hp} {p d : Addr} {rs : List Addr} {ks : List Kd} (hk : KsAt K C H p rs ks) (hd : H d = none) : TbAt K C (upd H d (.dK (tbD rs ks))) d ks := by
  refine ⟨_, upd_same, fun n => ?_⟩
  rcases tbD_val rs ks hk.2.1 n with a | ⟨i, r, k, h1, h2, h3, h4⟩
  · exact .inl a
  · exact .inr ⟨r, k, h3, h4, (hk.2.2 i r k h1 h2).same (same_new hd)⟩
theorem Line.has {ks : List Kd} {n : Option Str} {l : List Str} (h : Line ks n l) : ∀ x ∈ l, ∃ k, kdOf ks x = some k := by
  induction h with
  | nil => exact fun x hx => absurd hx List.not_mem_nil
  | @cons n k l hk _ ih => exact fun x hx => (List.mem_cons.mp hx).elim (fun e => e ▸ ⟨k, hk⟩) (ih x)
def sp_lineof (K : PySem.W.Frag) (C : Addr) : Sp := fun vs H Q _ => ∃ (d : Addr) (ks : List Kd) (n : Option Str) (l : List Str), vs = [.ref d, supV n] ∧ TbAt K C H d ks ∧ Line ks n l ∧ l.length ≤ 1000 ∧ ∀ H' p, Same H H' → H p = none → H' p = some (.lst (l.map V.str)) → Q (.ref p) H'
theorem sp_lineof_len {K C vs H Q E} (h : sp_lineof K C vs H Q E) : vs.length = (["table", "name"] : List Str).length := by
  obtain ⟨_, _, _, _, rfl, _⟩ := h
  rfl
section
variable {P : Program} {w : World} {K : PySem.W.Frag} {mg : Str → Option Value} {base : Heap} {A : Ad}
theorem ok_line_of (T : Txt K mg A) : FnOk P w K mg base CX0 1 A.f_line_of A.d_line_of ["table", "name"] (sp_lineof K A.C_Kind) := by
  refine Fun.ok T.F_line_of sc_line_of (fun vs H Q E h => ?_) (fun cdv Ar outer s H vs Q E hr h => ?_)
  · exact sp_lineof_len h
  · have hu := hu_of hr
    refine ⟨_, (pss_cons (ps_asg (pe_lst pa_nil) (pg_name (i := 2) sc_line_of.nd rfl (Or.inl rfl)))
    (pss_cons (ps_while PassesOwn.never (pt_cmpR op_notN (pv 1) pe_non (nomark _)) (pss_cons (ps_expr (pe_bmM PySem.F.slot_list_append PySem.F.type_list_append mt_append (pv 2) (pa_cons (pv 1) pa_nil)))
    (pss_one (ps_asg (pe_fld (pe_ix (ix_dictM hu) (pv 0) (pv 1) (fun _ _ => rfl)) rfl) (pg_name (i := 1) sc_line_of.nd rfl (Or.inl rfl))))))
    (pss_one (ps_ret (pv 2))))), ?_⟩
    obtain ⟨d, ks, n, l, rfl, hT, hL, hl, k⟩ := h
    simp! only []
    refine ⟨Nat.zero_le _, fun p hp => ?_⟩
    have sz : (2000 : Nat) < sizeLine := by decide
    refine ⟨fun m σ H' => ∃ (n' : Option Str) (dn rl : List Str), σ = [some (.ref d), some (supV n'), some (.ref p)] ∧ Same H H' ∧ H' p = some (.lst (dn.map V.str)) ∧ Line ks n' rl ∧ dn ++ rl = l ∧ m = rl.length, ⟨_, n, [], l, rfl, same_new hp, upd_same, hL, rfl, rfl⟩, ?_⟩
    rintro m σ H' ⟨n', dn, rl, rfl, sm, g, hL', he, rfl⟩
    cases hL' with
    | nil =>
      simp! only [supV]
      rw [List.append_nil] at he
      subst he
      exact k H' p sm hp g
    | @cons nm kd l' hk hL2 =>
      have hlen := congrArg List.length he
      rw [List.length_append, List.length_cons] at hlen
      obtain ⟨kvs, gd, hv⟩ := hT.hd
      have hdp : d ≠ p := ne_of_none gd hp
      have sm2 := sm_upd (o := HO.lst (dn.map V.str ++ [V.str nm])) sm hp
      rw [show supV (some nm) = V.str nm from rfl]
      simp! only [g]
      refine ⟨_, fun _ _ h => h, by rw [List.length_map]; omega, ?_⟩
      rw [upd_ne hdp, sm _ _ gd]
      dsimp only
      rcases hv nm with ⟨_, h0⟩ | ⟨r, k0, hr, hk0, hKA⟩
      · rw [hk] at h0
        cases h0
      · rw [hk] at hk0
        cases hk0
        obtain ⟨dx, t, gr, _⟩ := hKA.same sm2
        refine ⟨_, hr, r, rfl, _, _, _, gr, T.cl_Kind, T.no_Kind_superclass, _, kdF_s, ?_⟩
        exact ⟨l'.length, Nat.lt_succ_self _, kd.sup, rfl, sm2, dn ++ [nm], by rw [upd_same, List.map_append]; rfl, l', hL2, by rw [List.append_assoc]; exact he, rfl⟩
end

/-- the fields of a line, from above -/
def flds (ks : List Kd) (l : List Str) : List Str := l.reverse.flatMap fun n => ((kdOf ks n).map (·.fs)).getD []
def sp_fieldsin (K : PySem.W.Frag) (C : Addr) : Sp := fun vs H Q _ => ∃ (d : Addr) (ks : List Kd) (n : Str) (l : List Str), vs = [.ref d, .str n] ∧ TbAt K C H d ks ∧ Line ks (some n) l ∧ l.length ≤ 1000 ∧ (flds ks l).length ≤ 1000 ∧ ∀ H' p, Same H H' → H p = none → H' p = some (.lst ((flds ks l).map V.str)) → Q (.ref p) H'
theorem sp_fieldsin_len {K C vs H Q E} (h : sp_fieldsin K C vs H Q E) : vs.length = (["table", "name"] : List Str).length := by
  obtain ⟨_, _, _, _, rfl, _⟩ := h
  rfl
section
variable {P : Program} {w : World} {K : PySem.W.Frag} {mg : Str → Option Value} {base : Heap} {A : Ad}
theorem ok_fields_in (T : Txt K mg A) : FnOk P w K mg base CX0 2 A.f_fields_in A.d_fields_in ["table", "name"] (sp_fieldsin K A.C_Kind) := by
  refine Fun.ok T.F_fields_in sc_fields_in (fun vs H Q E h => ?_) (fun cdv Ar outer s H vs Q E hr h => ?_)
  · exact sp_fieldsin_len h
  · have hu := hu_of hr
    refine ⟨_, (pss_cons (ps_asg (pe_lst pa_nil) (pg_name (i := 2) sc_fields_in.nd rfl (Or.inl rfl)))
    (pss_cons (ps_for PassesOwn.never rfl (pi_reversed (by rfl) T.z_reversed (pa_cons (pe_call (ok_line_of T) (hr.mono (by decide)) (by rfl) T.g_line_of T.k_line_of T.b_line_of .nil pass0 (pa_cons (pv 0) (pa_cons (pv 1) pa_nil))) pa_nil)) (pg_name (i := 3) sc_fields_in.nd rfl (Or.inl rfl))
      (pss_one (ps_expr (pe_bmM PySem.F.slot_list_extend PySem.F.type_list_extend mt_extendT (pv 2) (pa_cons (pe_fld (pe_ix (ix_dictM hu) (pv 0) (pv 3) (fun _ _ => rfl)) rfl) pa_nil)))))
    (pss_one (ps_ret (pv 2))))), ?_⟩
    obtain ⟨d, ks, n, l, rfl, hT, hL, hl, hf, k⟩ := h
    simp! only []
    refine ⟨Nat.zero_le _, fun p hp => ?_⟩
    have gp : upd H p (.lst []) p = some (.lst (((l.reverse.take 0).flatMap fun n => ((kdOf ks n).map (·.fs)).getD []).map V.str)) := upd_same
    refine ⟨_, rfl, _, rfl, d, ks, some n, l, rfl, hT.same (same_new hp), hL, hl, fun H1 q s1 hq gq => ?_⟩
    have spq : p ≠ q := ne_of_none gp hq
    refine for_revL (K := K) (ta := fun _ H R => R [.ref q] H) (H0 := H1) (a := q) (l.map V.str) (fun R h => h) (fun i σ' H' => ∃ c3, σ' = [some (.ref d), some (.str n), some (.ref p), c3] ∧ Same H H' ∧ H' q = some (.lst (l.map V.str)) ∧
      H' p = some (.lst (((l.reverse.take i).flatMap fun n => ((kdOf ks n).map (·.fs)).getD []).map V.str))) ⟨_, rfl, sm_trans (same_new hp) s1, gq, s1 _ _ gp⟩ ?_ ?_ ?_
    · rintro i σ' H' _ ⟨_, rfl, _, g, _⟩
      exact .inl (.inl g)
    · rintro i x σ' H' hi hx ⟨c3, rfl, sm, g, g2⟩
      rw [List.length_map] at hi hx
      rw [List.getElem?_map] at hx
      obtain ⟨nm, hnm, rfl⟩ := Option.map_eq_some_iff.mp hx
      have hrev : l.reverse[i]? = some nm := by
        rw [List.getElem?_reverse hi]
        exact hnm
      obtain ⟨kd, hkd⟩ := hL.has nm (List.mem_of_getElem? hnm)
      obtain ⟨kvs, gd, hv⟩ := (hT.same sm).hd
      rcases hv nm with ⟨_, h0⟩ | ⟨r, k0, hr, hk0, hKA⟩
      · rw [hkd] at h0
        cases h0
      · rw [hkd] at hk0
        cases hk0
        obtain ⟨dx, t, gr, ht⟩ := hKA
        have tk : ((l.reverse.take (i + 1)).flatMap fun n => ((kdOf ks n).map (·.fs)).getD []) = ((l.reverse.take i).flatMap fun n => ((kdOf ks n).map (·.fs)).getD []) ++ kd.fs := by
          rw [List.take_add_one, hrev, Option.toList_some, List.flatMap_append, List.flatMap_cons, List.flatMap_nil, List.append_nil, hkd]
          rfl
        have sz : (3000 : Nat) < sizeLine := by decide
        have hf2 : ((l.reverse.take (i + 1)).flatMap fun n => ((kdOf ks n).map (·.fs)).getD []).length ≤ (flds ks l).length := by
          have e : flds ks l = ((l.reverse.take (i + 1)).flatMap fun n => ((kdOf ks n).map (·.fs)).getD []) ++ ((l.reverse.drop (i + 1)).flatMap fun n => ((kdOf ks n).map (·.fs)).getD []) := by
            unfold flds
            rw [← List.flatMap_append, List.take_append_drop]
          rw [e, List.length_append]
          exact Nat.le_add_right _ _
        rw [tk, List.length_append] at hf2
        simp! only [g2, gd, hr, gr, T.cl_Kind, T.no_Kind_fields, kdF_f, rExtendT]
        refine ⟨_, ht, by rw [List.length_map, List.length_map]; omega, sm_upd sm hp, ?_, ?_⟩
        · rw [upd_ne (Ne.symm spq)]
          exact g
        · rw [tk, List.map_append]
    · rintro σ' H' ⟨c3, rfl, sm, g, g2⟩
      simp! only [rIsL]
      rw [List.length_map, show l.reverse.take l.length = l.reverse from by rw [← List.length_reverse, List.take_length]] at g2
      exact k H' p sm hp g2
end

def sp_allfields (K : PySem.W.Frag) (C : Addr) : Sp := fun vs H Q _ => ∃ (p : Addr) (rs : List Addr) (ks : List Kd) (n : Str) (l : List Str), vs = [.ref p, .str n] ∧ KsAt K C H p rs ks ∧ ks.length ≤ 1000 ∧ (ks.map (·.nm)).Nodup ∧ Line ks (some n) l ∧ l.length ≤ 1000 ∧ (flds ks l).length ≤ 1000 ∧ ∀ H' q, Same H H' → H q = none → H' q = some (.lst ((flds ks l).map V.str)) → Q (.ref q) H'
theorem sp_allfields_len {K C vs H Q E} (h : sp_allfields K C vs H Q E) : vs.length = (["kinds", "name"] : List Str).length := by
  obtain ⟨_, _, _, _, _, rfl, _⟩ := h
  rfl
section
variable {P : Program} {w : World} {K : PySem.W.Frag} {mg : Str → Option Value} {base : Heap} {A : Ad}
theorem ok_all_fields (T : Txt K mg A) : FnOk P w K mg base CX0 3 A.f_all_fields A.d_all_fields ["kinds", "name"] (sp_allfields K A.C_Kind) := by
  refine Fun.ok T.F_all_fields sc_all_fields (fun vs H Q E h => ?_) (fun cdv Ar outer s H vs Q E hr h => ?_)
  · exact sp_allfields_len h
  · have hu := hu_of hr
    refine ⟨_, (pss_one (ps_ret (pe_call (ok_fields_in T) (hr.mono (by decide)) (by rfl) T.g_fields_in T.k_fields_in T.b_fields_in .nil pass0 (pa_cons (pe_call (ok_by_name T) (hr.mono (by decide)) (by rfl) T.g_by_name T.k_by_name T.b_by_name .nil pass0 (pa_cons (pv 0) pa_nil)) (pa_cons (pv 1) pa_nil))))), ?_⟩
    obtain ⟨p, rs, ks, n, l, rfl, hk, hl, nd, hL, hll, hf, k⟩ := h
    simp! only []
    refine ⟨p, rs, ks, rfl, hk, hl, nd, fun d hd => ?_⟩
    exact ⟨d, ks, n, l, rfl, tbD_at hk hd, hL, hll, hf, fun H' q s hq g => k H' q (sm_trans (same_new hd) s) (no_of (same_new hd) hq) g⟩
end

def sp_isunder (K : PySem.W.Frag) (C : Addr) : Sp := fun vs H Q _ => ∃ (p : Addr) (rs : List Addr) (ks : List Kd) (n o : Str) (l : List Str), vs = [.ref p, .str n, .str o] ∧ KsAt K C H p rs ks ∧ ks.length ≤ 1000 ∧ (ks.map (·.nm)).Nodup ∧ Line ks (some n) l ∧ l.length ≤ 1000 ∧ ∀ H', Same H H' → Q (.bl (decide (o ∈ l))) H'
theorem sp_isunder_len {K C vs H Q E} (h : sp_isunder K C vs H Q E) : vs.length = (["kinds", "name", "other"] : List Str).length := by
  obtain ⟨_, _, _, _, _, _, rfl, _⟩ := h
  rfl
section
variable {P : Program} {w : World} {K : PySem.W.Frag} {mg : Str → Option Value} {base : Heap} {A : Ad}
theorem ok_is_under (T : Txt K mg A) : FnOk P w K mg base CX0 2 A.f_is_under A.d_is_under ["kinds", "name", "other"] (sp_isunder K A.C_Kind) := by
  refine Fun.ok T.F_is_under sc_is_under (fun vs H Q E h => ?_) (fun cdv Ar outer s H vs Q E hr h => ?_)
  · exact sp_isunder_len h
  · have hu := hu_of hr
    refine ⟨_, (pss_one (ps_ret (pe_cmpR op_inM (pv 2) (pe_call (ok_line_of T) (hr.mono (by decide)) (by rfl) T.g_line_of T.k_line_of T.b_line_of .nil pass0 (pa_cons (pe_call (ok_by_name T) (hr.mono (by decide)) (by rfl) T.g_by_name T.k_by_name T.b_by_name .nil pass0 (pa_cons (pv 0) pa_nil)) (pa_cons (pv 1) pa_nil))) (by rfl)))), ?_⟩
    obtain ⟨p, rs, ks, n, o, l, rfl, hk, hl, nd, hL, hll, k⟩ := h
    simp! only []
    refine ⟨p, rs, ks, rfl, hk, hl, nd, fun d hd => ?_⟩
    refine ⟨d, ks, some n, l, rfl, tbD_at hk hd, hL, hll, fun H' q s hq g => ⟨q, rfl, ?_⟩⟩
    rw [g]
    dsimp only
    refine ⟨rfl, by rw [List.all_map, List.all_eq_true]; exact fun _ _ => rfl, ?_⟩
    rw [inV_strs]
    exact k H' (sm_trans (same_new hd) s)
end

/-- what is raised: BadClass with its why -/
def Out52 (A : Ad) (E : XK) (F : Hp) (why : Str) : Prop := ∀ H' dd, Same F H' → H' dd = none → E (.ref A.C_BadClass) (some dd) (upd H' dd (.xd [("why", .str why)]))
def sp_checka (K : PySem.W.Frag) (A : Ad) : Sp := fun vs H Q E => ∃ (p : Addr) (xs : List Str) (F : Hp), vs = [.ref p] ∧ H p = some (.lst (xs.map V.str)) ∧ xs.length ≤ 1000 ∧ Same F H ∧ (distN xs xs.length < xs.length → Out52 A E F "twice") ∧ (¬ distN xs xs.length < xs.length → 32 < xs.length → Out52 A E F "many") ∧
  (¬ distN xs xs.length < xs.length → xs.length ≤ 32 → ∀ H', Same H H' → Q .non H')
theorem sp_checka_len {K A vs H Q E} (h : sp_checka K A vs H Q E) : vs.length = (["fields"] : List Str).length := by
  obtain ⟨_, _, _, rfl, _⟩ := h
  rfl
section
variable {P : Program} {w : World} {K : PySem.W.Frag} {mg : Str → Option Value} {base : Heap} {A : Ad}
theorem ok_check_all_fields (T : Txt K mg A) : FnOk P w K mg base (L2N.CX P w) 3 A.f_check_all_fields A.d_check_all_fields ["fields"] (sp_checka K A) := by
  refine okN T.F_check_all_fields sc_check_all_fields (fun vs H Q E h => ?_) (fun cdv Ar outer s H vs Q E hr h => ?_)
  · exact sp_checka_len h
  · have hu := hu_of hr
    refine ⟨_, (pss_cons (ps_if (pt_cmpR op_lt (pe_lenSetT rfl (by rfl) T.z_len (by rfl) T.z_set (pv 0)) (pe_callB call_lenM (by rfl) T.z_len PySem.boot_len (pa_cons (pv 0) pa_nil)) (nomark _)) (pss_one (ps_rz1 rfl T.x_BadClass (ok_BadClass___init__ T) (hr.mono (by decide)) T.b_BadClass___init__ (L2N.takes_of rfl rfl rfl rfl) (by rfl) T.m_BadClass (pa_cons pe_str pa_nil))) pss_nil)
    (pss_one (ps_if (pt_cmpR op_gt (pe_callB call_lenM (by rfl) T.z_len PySem.boot_len (pa_cons (pv 0) pa_nil)) (pe_glob (v := .int (32)) (by rfl) T.c_MOST_FIELDS ⟨_, rfl⟩) (nomark _)) (pss_one (ps_rz1 rfl T.x_BadClass (ok_BadClass___init__ T) (hr.mono (by decide)) T.b_BadClass___init__ (L2N.takes_of rfl rfl rfl rfl) (by rfl) T.m_BadClass (pa_cons pe_str pa_nil))) pss_nil))), ?_⟩
    obtain ⟨p, xs, F, rfl, hp, hl, sF, k1, k2, k3⟩ := h
    simp! only [tLenSetT, hp]
    refine ⟨xs, .inl (.inl hp), hl, ?_⟩
    rw [List.length_map]
    refine ite2 (fun h => fun dd hdd => k1 (by omega) H dd sF hdd) (fun h => ite2 (fun h2 => fun dd hdd => k2 (by omega) (by omega) H dd sF hdd) (fun h2 => k3 (by omega) (by omega) H sm_refl))
end

/-- the kernel's names -/
def kern : List Str := ["Object", "Class", "Undefined", "True", "False", "Integer", "Symbol", "Array", "Association", "Method", "Code", "Block", "Context", "Process", "Semaphore"]
def sp_checkc (K : PySem.W.Frag) (A : Ad) : Sp := fun vs H Q E => ∃ (d : Addr) (ks : List Kd) (n s : Str) (F : Hp), vs = [.ref d, .str n, .str s] ∧ TbAt K A.C_Kind H d ks ∧ Same F H ∧
  (kdOf ks n = none → Out52 A E F "name") ∧ (kdOf ks n ≠ none → n ∈ kern → Out52 A E F "kernel") ∧ (kdOf ks n ≠ none → n ∉ kern → (kdOf ks s = none ∨ (s ∈ kern ∧ s ≠ "Object")) → Out52 A E F "super") ∧
  (kdOf ks n ≠ none → n ∉ kern → kdOf ks s ≠ none → (s ∉ kern ∨ s = "Object") → ∃ l, Line ks (some s) l ∧ l.length ≤ 1000 ∧ (n ∈ l → Out52 A E F "ring") ∧ (n ∉ l → ∀ H', Same H H' → Q .non H'))
theorem sp_checkc_len {K A vs H Q E} (h : sp_checkc K A vs H Q E) : vs.length = (["table", "name", "superclass"] : List Str).length := by
  obtain ⟨_, _, _, _, _, rfl, _⟩ := h
  rfl
section
variable {P : Program} {w : World} {K : PySem.W.Frag} {mg : Str → Option Value} {base : Heap} {A : Ad}
theorem ok_check_classes (T : Txt K mg A) : FnOk P w K mg base (L2N.CX P w) 3 A.f_check_classes A.d_check_classes ["table", "name", "superclass"] (sp_checkc K A) := by
  refine okN T.F_check_classes sc_check_classes (fun vs H Q E h => ?_) (fun cdv Ar outer s H vs Q E hr h => ?_)
  · exact sp_checkc_len h
  · have hu := hu_of hr
    refine ⟨_, (pss_cons (ps_if (pt_cmpR (op_dnotinM hu) (pv 1) (pv 0) (by rfl)) (pss_one (ps_rz1 rfl T.x_BadClass (ok_BadClass___init__ T) (hr.mono (by decide)) T.b_BadClass___init__ (L2N.takes_of rfl rfl rfl rfl) (by rfl) T.m_BadClass (pa_cons pe_str pa_nil))) pss_nil)
    (pss_cons (ps_if (pt_cmpR op_in_seq (pv 1) (pe_glob (v := .ref A.t_KERNEL) (by rfl) T.c_KERNEL rfl) (by rfl)) (pss_one (ps_rz1 rfl T.x_BadClass (ok_BadClass___init__ T) (hr.mono (by decide)) T.b_BadClass___init__ (L2N.takes_of rfl rfl rfl rfl) (by rfl) T.m_BadClass (pa_cons pe_str pa_nil))) pss_nil)
    (pss_cons (ps_if (PW.pt (pw_or (pt_cmpR (op_dnotinM hu) (pv 2) (pv 0) (by rfl)) (pw_or1 (PW.pt (pw_and (pt_cmpR op_in_seq (pv 2) (pe_glob (v := .ref A.t_KERNEL) (by rfl) T.c_KERNEL rfl) (by rfl)) (pw_and1 (pt_cmpR op_ne (pv 2) pe_str (nomark _)))))))) (pss_one (ps_rz1 rfl T.x_BadClass (ok_BadClass___init__ T) (hr.mono (by decide)) T.b_BadClass___init__ (L2N.takes_of rfl rfl rfl rfl) (by rfl) T.m_BadClass (pa_cons pe_str pa_nil))) pss_nil)
    (pss_one (ps_if (pt_cmpR op_inM (pv 1) (pe_call (ok_line_of T) (hr.mono (by decide)) (by rfl) T.g_line_of T.k_line_of T.b_line_of .nil pass0 (pa_cons (pv 0) (pa_cons (pv 2) pa_nil))) (by rfl)) (pss_one (ps_rz1 rfl T.x_BadClass (ok_BadClass___init__ T) (hr.mono (by decide)) T.b_BadClass___init__ (L2N.takes_of rfl rfl rfl rfl) (by rfl) T.m_BadClass (pa_cons pe_str pa_nil))) pss_nil))))), ?_⟩
    obtain ⟨d, ks, n, s, F, rfl, hT, sF, k1, k2, k3, k4⟩ := h
    obtain ⟨kvs, gd, hv⟩ := hT.hd
    have vk : ∀ x, (valV kvs (Sum.inr x)).isSome = true ↔ kdOf ks x ≠ none := fun x => by
      rcases hv x with ⟨e1, e2⟩ | ⟨r, q, e1, e2, _⟩
      · rw [e1, e2]
        exact ⟨fun z => (by cases z), fun z => absurd rfl z⟩
      · rw [e1, e2]
        exact ⟨fun _ z => (by cases z), fun _ => rfl⟩
    have vn : ∀ x, (valV kvs (Sum.inr x)).isSome = false → kdOf ks x = none := fun x e => Classical.byContradiction fun z => by
      rw [(vk x).mpr z] at e
      cases e
    have flat : (kern.map V.str).all flatV = true := by decide
    simp! only [rIn, gd]
    refine ite2 (fun h dd hdd => k1 (vn n h) H dd sF hdd) (fun h => ?_)
    have hn : kdOf ks n ≠ none := (vk n).mp ((Bool.not_eq_false _).mp h)
    refine ⟨kern.map V.str, .inr (T.q_KERNEL H), rfl, flat, ?_⟩
    rw [inV_strs]
    refine ite2 (fun hk dd hdd => k2 hn (of_decide_eq_true hk) H dd sF hdd) (fun hk => ?_)
    have hk' : n ∉ kern := fun z => hk (decide_eq_true z)
    refine ite2 (fun h2 dd hdd => k3 hn hk' (.inl (vn s h2)) H dd sF hdd) (fun h2 => ?_)
    have hs : kdOf ks s ≠ none := (vk s).mp ((Bool.not_eq_false _).mp h2)
    refine ⟨kern.map V.str, .inr (T.q_KERNEL H), rfl, flat, ?_⟩
    rw [inV_strs]
    have ring : (s ∉ kern ∨ s = "Object") → sp_lineof K A.C_Kind [V.ref d, V.str s] H (fun y H2 => ∃ p, y = V.ref p ∧ match H2 p with
        | some (HO.lst xs) => flatV (V.str n) = true ∧ xs.all flatV = true ∧ if inV (V.str n) xs = true then ∀ (d : Addr), H2 d = none → E (Value.ref A.C_BadClass) (some d) (upd H2 d (HO.xd [(Str.ofString "why", V.str (Str.ofString "ring"))])) else Q V.non H2
        | x => False) E0 := fun hks => by
      obtain ⟨l, hL, hl, r1, r2⟩ := k4 hn hk' hs hks
      refine ⟨d, ks, some s, l, rfl, hT, hL, hl, fun H2 p sm hp g => ⟨p, rfl, ?_⟩⟩
      rw [g]
      dsimp only
      refine ⟨rfl, by rw [List.all_map, List.all_eq_true]; exact fun _ _ => rfl, ?_⟩
      rw [inV_strs]
      exact ite2 (fun h dd hdd => r1 (of_decide_eq_true h) H2 dd (sm_trans sF sm) hdd) (fun h => r2 (fun z => h (decide_eq_true z)) H2 sm)
    refine ite2 (fun h3 => ite2 (fun h4 dd hdd => k3 hn hk' (.inr ⟨of_decide_eq_true h3, h4⟩) H dd sF hdd) (fun h4 => ring (.inr (Classical.byContradiction h4)))) (fun h3 => ring (.inl fun z => h3 (decide_eq_true z)))
end

/-- what is wrong with a list of fields: the first fault -/
def badF : List Str → List Str → Option Str
  | _, [] => none
  | seen, x :: r => if fieldOk x = true then (if x ∈ seen then some "twice" else badF (seen ++ [x]) r) else some "field"
def sp_checkf (K : PySem.W.Frag) (A : Ad) : Sp := fun vs H Q E => ∃ (p : Addr) (xs : List Str) (F : Hp), vs = [.ref p] ∧ H p = some (.lst (xs.map V.str)) ∧ xs.length ≤ 1000 ∧ (∀ x ∈ xs, x.length ≤ 100000) ∧ Same F H ∧ (∀ w, badF [] xs = some w → Out52 A E F w) ∧ (badF [] xs = none → ∀ H', Same H H' → Q .non H')
theorem sp_checkf_len {K A vs H Q E} (h : sp_checkf K A vs H Q E) : vs.length = (["fields"] : List Str).length := by
  obtain ⟨_, _, _, rfl, _⟩ := h
  rfl
section
variable {P : Program} {w : World} {K : PySem.W.Frag} {mg : Str → Option Value} {base : Heap} {A : Ad}
theorem ok_check_fields (T : Txt K mg A) : FnOk P w K mg base (L2N.CX P w) 5 A.f_check_fields A.d_check_fields ["fields"] (sp_checkf K A) := by
  refine okN T.F_check_fields sc_check_fields (fun vs H Q E h => ?_) (fun cdv Ar outer s H vs Q E hr h => ?_)
  · exact sp_checkf_len h
  · have hu := hu_of hr
    refine ⟨_, (pss_one (ps_for (L2.passes_of rfl) rfl (pi_enum (by rfl) T.z_enumerate (pa_cons (pv 0) pa_nil)) (pg_tup (n := 2) (by rfl) (pgs_cons (pg_name (i := 1) sc_check_fields.nd rfl (Or.inl rfl)) (pgs_cons (pg_name (i := 2) sc_check_fields.nd rfl (Or.inl rfl)) pgs_nil)))
      (pss_cons (ps_if (pt_not (pt_val (pe_call (ok_is_field_name T) (hr.mono (by decide)) (by rfl) T.g_is_field_name T.k_is_field_name T.b_is_field_name .nil pass0 (pa_cons (pv 2) pa_nil)))) (pss_one (ps_rz1 rfl T.x_BadClass (ok_BadClass___init__ T) (hr.mono (by decide)) T.b_BadClass___init__ (L2N.takes_of rfl rfl rfl rfl) (by rfl) T.m_BadClass (pa_cons pe_str pa_nil))) pss_nil)
    (pss_one (ps_if (pt_cmpR op_inM (pv 2) (pe_slice sl_listM (pv 0) po_none (po_some (pv 1))) (by rfl)) (pss_one (ps_rz1 rfl T.x_BadClass (ok_BadClass___init__ T) (hr.mono (by decide)) T.b_BadClass___init__ (L2N.takes_of rfl rfl rfl rfl) (by rfl) T.m_BadClass (pa_cons pe_str pa_nil))) pss_nil))))), ?_⟩
    obtain ⟨p, xs, F, rfl, hp, hl, hx, sF, k1, k2⟩ := h
    have sz : (2000 : Nat) < sizeLine := by decide
    refine for_enum (a := p) (xs.map V.str) (fun R h => ⟨_, rfl, h⟩) (fun i σ' H' => ∃ (c1 c2 : Option V), σ' = [some (.ref p), c1, c2] ∧ Same H H' ∧ badF [] xs = badF (xs.take i) (xs.drop i)) ⟨_, _, rfl, sm_refl, rfl⟩ ?_ ?_ ?_
    · rintro i σ' H' _ ⟨_, _, rfl, sm, _⟩
      exact .inl (.inl (sm _ _ hp))
    · rintro i x σ' H' t hi ⟨c1, c2, rfl, sm, e⟩ ht
      rw [List.getElem?_map] at hi
      obtain ⟨y, hy, rfl⟩ := Option.map_eq_some_iff.mp hi
      have hil := (List.getElem?_eq_some_iff.mp hy).1
      have hdr : xs.drop i = y :: xs.drop (i + 1) := by
        rw [List.drop_eq_getElem_cons hil]
        rw [List.getElem?_eq_getElem hil] at hy
        rw [Option.some.inj hy]
      have htk : xs.take (i + 1) = xs.take i ++ [y] := by
        rw [List.take_add_one, hy]
        rfl
      rw [hdr] at e
      have sm2 := sm_trans sm (same_new (o := HO.tup [V.int (i : Nat), V.str y]) ht)
      generalize upd H' t (HO.tup [V.int (i : Nat), V.str y]) = H2 at sm2 ⊢
      have hp2 := sm2 _ _ hp
      simp! only [hp2]
      refine ⟨y, rfl, hx y (List.mem_of_getElem? hy), _, rfl, ite2 (fun hf dd hdd => ?_) (fun hf => ?_)⟩
      · refine k1 "field" (e.trans ?_) H2 dd (sm_trans sF sm2) hdd
        rw [badF, hf]
        rfl
      · have hf' : fieldOk y = true := (Bool.not_eq_false _).mp hf
        rw [hp2]
        dsimp only
        rw [cutV_to, ← List.map_take]
        refine fun l hl2 => ⟨rfl, by rw [List.all_map, List.all_eq_true]; exact fun _ _ => rfl, ?_⟩
        rw [inV_strs]
        have sm3 := sm_trans sm2 (same_new (o := HO.lst ((xs.take i).map V.str)) hl2)
        refine ite2 (fun hin dd hdd => ?_) (fun hin => ⟨sm3, e.trans ?_⟩)
        · refine k1 "twice" (e.trans ?_) _ dd (sm_trans sF sm3) hdd
          rw [badF, if_pos hf', if_pos (of_decide_eq_true hin)]
        · rw [badF, if_pos hf', if_neg (fun z => hin (decide_eq_true z)), htk]
    · rintro σ' H' ⟨c1, c2, rfl, sm, e⟩
      rw [List.length_map, List.drop_length] at e
      exact k2 e H' sm
end

/-! a promise where nothing is under way (no repr of a list above): needed for repr of nested lists -/
section
variable {P : Program} {w : World} {K : PySem.W.Frag} {mg : Str → Option Value} {base : Heap}
/-- what the top def promises, called with nothing under way -/
def FnG (P : Program) (w : World) (K : PySem.W.Frag) (mg : Str → Option Value) (base : Heap) (k : Nat) (f : Addr) (fd : FuncData) (x : Str) (sp : Sp) : Prop :=
  ∀ (B : Around) (ou : List Env) (st : Shared) (G : Hp) (u : Value) (v : V) (W : VK), B.guards = some [] → Room k B → Env0 P w K mg base B ou st G → BindsTo st fd ⟨[u], []⟩ [(x, u)] → RelV v u → sp [v] G W E0 →
    codeAny (model P w) B (.call (.ref f) ⟨[u], []⟩) (CR CX0 ou P w G st W E0) st
theorem gd_deep {B : Around} {e : Env} (h : B.guards = some []) : (B.deeper e).guards = some [] := by
  first | exact h | simpa [Around.deeper] using h
theorem fnG_of {x qual : Str} {st : Stmt} {f : Addr} {fd : FuncData} {N : List Str} {y : Str} {k : Nat} {sp : Sp} (F : Fun K x qual st f fd) (S : FnScope N [y] (defScope st))
    (hb : ∀ (cv : Value) (B : Around) (ou : List Env) (z : Shared) (G : Hp) (v : V) (W : VK), (B.deeper (envOfC qual (defScope st) z.heap.objs.size f cv)).guards = some [] → Room k (B.deeper (envOfC qual (defScope st) z.heap.objs.size f cv)) → sp [v] G W E0 →
      ∃ t, PSs (cxOf CX0 P w K mg base N qual (defScope st) f cv B ou z G E0).nox (defBody st) t ∧ t { nx := fun _ G2 => W .non G2, rt := W } (L2.start N [v]) G) : FnG P w K mg base (k + 1) f fd y sp := by
  obtain ⟨oc, od, kV, doc, pm, an, cv, ct, osl, rfl, lk, hcd⟩ := F.ex
  intro B ou z G u v W hG hr e0 hbi rv hs
  have Kz : K.In z.heap := e0.mod.kin.keeps fun b o e => (e0.bs b o e).1
  have nl : z.heap.NoLimit := e0.mod.nolimit.keeps fun b o e => (e0.bs b o e).1
  have ky : ∀ q ∈ [(y, u)], (defScope st).names.lookup q.1 = some .local ∨ ((defScope st).names.lookup q.1 = some .cell ∧ ((cellsFrom (z.heap.objs.size + 1) (defScope st).names []).lookup q.1).isSome = true) := by
    intro q hq
    rw [List.mem_singleton] at hq
    subst hq
    rcases S.par y List.mem_cons_self with a | a
    · exact Or.inl a
    · exact Or.inr ⟨a, PySem.W.cellsFrom_some _ _ _ (Or.inl a)⟩
  refine codeAny_call_function (Room.depth hr) (Kz _ _ lk) rfl S.co S.gen rfl (PySem.W.codeRec_of Kz hcd) (hbi _ _ _ _ (wpAny_newFunctionEnv_cells S.kind ky fun en he z1 ic => ?_))
  subst he
  refine And.intro (nl.keeps ic.toInCall.keep) (codeAny_func ?_)
  obtain ⟨t, ht, hq⟩ := hb cv B ou z G v W (gd_deep hG) (hr.deeper _) hs
  have J0 := inv_start (CX := CX0) (E := E0) S hr.hd e0 (us := [u]) (vs := [v]) rfl (.cons rv .nil) ic
  refine wpAny_mono (ht.nox.run [] z1 (L2.start N [v]) G _ J0 hq) (fun fl z2 h2 => ?_) fun _ _ h2 => h2
  cases fl with
  | ret u2 =>
    obtain ⟨v2, _, G2, J, r2, q2⟩ := h2
    exact ⟨v2, G2, J.os, J.bare, J.base, J.hok, r2, q2⟩
  | next =>
    obtain ⟨_, G2, J, q2⟩ := h2
    exact ⟨V.non, G2, J.os, J.bare, J.base, J.hok, rfl, q2⟩
  | brk => exact h2.elim fun _ h3 => h3.elim fun _ h4 => False.elim h4.2
  | cont => exact h2.elim fun _ h3 => h3.elim fun _ h4 => False.elim h4.2
/-- the law's call from a promise of this kind -/
theorem lawG {mb : Str → Option Value} {k : Nat} {fa a : Addr} {fd : FuncData} {x : Str} {sp : Sp} {z : Shared} {us : List Value} {ns : List Int} (Kz : K.In z.heap) (hns : z.heap.Ns mainGlobals mg) (hbn : z.heap.Ns builtinsNs mb) (hbb : ∀ y : Str, y ≠ "__name__" → mb y = bootBuiltins y)
    (hli : z.heap.NoLimit) (hge : z.gens = #[]) (ga : z.heap.get? a = some { cls := .type "list", data := .seq us.toArray }) (hi : IntsAre us ns) (hl : ns.length ≤ sizeLine) (hr : Room k callerA) (F : ∀ b : Heap, K.In b → b.Ns mainGlobals mg → FnG P w K mg b k fa fd x sp)
    (hbi : ∀ (s : Shared) (u : Value), BindsTo s fd ⟨[u], []⟩ [(x, u)]) (hsp : ∀ G : Hp, SqL K G a (ns.map V.int) → sp [.ref a] G (fun v _ => v = .bl true) E0) :
    codeAny (model P w) callerA (.call (.ref fa) ⟨[.ref a], []⟩) (fun r z2 => r = .ok (.ret (.bool true)) ∧ OldK z.heap z2.heap ∧ z2.os = z.os ∧ AllBare z2.gens) z := by
  have rv := vals_ints hi
  have key : ∀ G : Hp, SqL K G a (ns.map V.int) → HOk P w G z.heap → (∀ b u, G b = some u → b = a ∧ K.lookup a = none ∧ ∃ o l, u = HO.frz o (.lst l)) → codeAny (model P w) callerA (.call (.ref fa) ⟨[.ref a], []⟩) (fun r z2 => r = .ok (.ret (.bool true)) ∧ OldK z.heap z2.heap ∧ z2.os = z.os ∧ AllBare z2.gens) z := by
    intro G hS hok hA
    have free : ∀ {b : Addr} {o : Obj}, z.heap.get? b = some o → (b = a → K.lookup a = none → False) → G b = none := fun {b o} e hn => by
      cases q : G b with
      | none => rfl
      | some u => exact (hn (hA b u q).1 (hA b u q).2.1).elim
    have dictFree : ∀ {b : Addr} {o : Obj} {es : Array DictEntry} {ep : Nat}, z.heap.get? b = some o → o.data = .dict es ep → G b = none := fun {b o es ep} e d => free e fun eb _ => by
      subst eb
      rw [ga] at e
      cases e
      cases d
    have ns2 : ∀ {b : Addr} {m : Str → Option Value}, z.heap.Ns b m → (hidT z.heap G).Ns b m := fun {b m} ⟨o, es, ep, e, d, r⟩ => ⟨o, es, ep, hidT_get e (dictFree e d), d, r⟩
    have K2 : K.In (hidT z.heap G) := fun b o e => hidT_get (Kz b o e) (free (Kz b o e) fun eb hn => by
      subst eb
      rw [hn] at e
      cases e)
    have e0 : Env0 P w K mg (hidT z.heap G) callerA [] z G := ⟨rfl, ⟨K2, ns2 hns, ⟨mb, ns2 hbn, hbb⟩, let ⟨mc, h1, h2⟩ := hli; ⟨mc, ns2 h1, h2⟩⟩, fun b o e => of_hidT e, Nat.le_of_eq (hidT_size _ _), trivial, fun b hb => absurd (show b ∈ ([] : List Addr) from hb) List.not_mem_nil, hok, .of_eq hge⟩
    refine codeAny_mono (F _ K2 (ns2 hns) callerA [] z G (.ref a) (.ref a) _ rfl hr e0 (hbi z (.ref a)) rfl (hsp G hS)) fun r z2 h2 => ?_
    match r, h2 with
    | .ok (.ret u), h2 =>
      obtain ⟨v, G2, os, bare, un, hok2, r2, q⟩ := h2
      have q2 : v = .bl true := q
      subst q2
      have r3 : u = Value.bool true := r2
      subst r3
      refine ⟨rfl, OldK.of_keep fun b o e => ?_, os, bare⟩
      cases q : G b with
      | none => exact un.keep b o e q (fun m => absurd (show b ∈ ([] : List Addr) from m) List.not_mem_nil) List.not_mem_nil
      | some u =>
        obtain ⟨_, _, ob, l, rfl⟩ := hA b u q
        have g1 := (hok b _ q).1
        have g2 := (hok2 b _ (un.frzs b ob _ q)).1
        rw [e] at g1
        cases g1
        exact g2
    | .error _, h2 => exact h2.elim
    | .ok .next, h2 => exact h2.elim
    | .ok .brk, h2 => exact h2.elim
    | .ok .cont, h2 => exact h2.elim
  by_cases hk : K.lookup a = none
  · refine key (fun b => if b = a then some (.frz { cls := .type "list", data := .seq us.toArray } (.lst (ns.map V.int))) else none) (Or.inl (Or.inr ⟨_, if_pos rfl⟩)) (fun b u e => ?_) (fun b u e => ?_)
    · by_cases eb : b = a
      · subst eb
        have e2 := (if_pos rfl).symm.trans e
        cases e2
        exact ⟨ga, by rw [List.length_map]; exact hl, us, _, rv, ga⟩
      · have e2 := (if_neg eb).symm.trans e
        cases e2
    · by_cases eb : b = a
      · subst eb
        have e2 := (if_pos rfl).symm.trans e
        cases e2
        exact ⟨rfl, hk, _, _, rfl⟩
      · have e2 := (if_neg eb).symm.trans e
        cases e2
  · obtain ⟨o, ho⟩ := Option.ne_none_iff_exists'.mp hk
    have e := Kz a o ho
    rw [ga] at e
    cases e
    exact key (fun _ => none) (Or.inr ⟨_, us.toArray, _, ho, rfl, rfl, rfl, by rw [List.size_toArray, hi.length]; exact hl, by simpa using rv⟩) (fun b u e => by cases (show (none : Option HO) = some u from e)) fun b u e => by cases (show (none : Option HO) = some u from e)
end
theorem un80 {k : Nat} {A : Around} (r : Room k A) : A.units + 80 < cLine := by
  have := r.un
  omega
theorem walk_ofG {l : PySem.W.OpenLaw} {n k : Nat} {q : Program} {loose : List Str} {XP : (Str → Option Value) → Heap → Prop} {YP : World → Heap → Prop} {d : DefRec} {K : Params → PySem.W.Frag} {sp : World → Sp} {x : Str} (hn : l.most = some n) (h2 : n ≤ sizeLine) (h3 : d.params.defaults = []) (hr : Room k callerA)
    (hY : ∀ (w : World) (h : Heap), YP w h → (K w.params).In h) (F : ∀ (w : World) (mg : Str → Option Value) (fa : Addr) (h : Heap), (K w.params).In h → h.Ns mainGlobals mg → mg d.name = some (.ref fa) → ∃ fd : FuncData, (∀ (s : Shared) (u : Value), BindsTo s fd ⟨[u], []⟩ [(x, u)]) ∧ ∀ b : Heap, (K w.params).In b → b.Ns mainGlobals mg → FnG l.prog w (K w.params) mg b k fa fd x (sp w))
    (hsp : ∀ (w : World) (G : Hp) (a : Addr) (ns : List Int), ns.length ≤ n → SqL (K w.params) G a (ns.map V.int) → sp w [.ref a] G (fun v _ => v = .bl true) E0) : PySem.W.WalkO q loose XP YP l.row.toRowW d [] (fun f vs => PySem.call f vs) := by
  refine Att.attach_call hn h3 fun w _ z mg mb fa o pm cd doc a us ns G Y _ _ _ hmg ga hi hl hge => ?_
  obtain ⟨fd, hb, hF⟩ := F w mg fa _ (hY w _ Y) G.T.g hmg
  exact lawG (hY w _ Y) G.T.g G.T.b G.T.builtins G.T.nolimit hge ga hi (Nat.le_trans hl h2) hr hF hb fun H hS => hsp w H a ns hl hS
/-- repr of a list or a tuple of plain things, nothing under way -/
theorem call_reprD {X : Cx} (hG : X.A.guards = some []) (hu : X.A.units + 80 < cLine) : CallR X (.builtin "repr") (fun xs H Q => ∃ (a : Addr) (d : PyData), xs = [.ref a] ∧ Dp X.K H (.ref a) d ∧ PyData.layable0 d = true ∧ d.showable = true ∧ d.intsShort 13 = true ∧ Q (.str d.shown) H) := by
  intro pins s σ H xs us Q I r h
  obtain ⟨a, d, rfl, hd, hl, hs, hn, q⟩ := h
  cases r with
  | cons r1 r2 =>
    cases r1
    cases r2
    obtain ⟨as, rd⟩ := Dp.reads I d (.ref a) (.ref a) hd rfl
    have dep : d.depth ≤ 64 := SeqAt.depth_of_shaped (SeqAt.shaped_of_layable hl)
    have hnd := PyData.hasDict_of_layable hl
    refine repr_of_reads' rd hs (fun z => by rw [hnd] at z; cases z) hG (by omega) (fun _ _ e => e) (fun h' u tk hk => ⟨.str d.shown, H, I.kept hk, ⟨u, rfl⟩, q⟩) (PyData.shown_fits_of_layable0 (B := 13) (by decide) (by decide) hl hn)
theorem pi_listK {X : Cx} {K' : PySem.W.Frag} {tg l : Expr} {tl : TE} (hK : X.K = K') (hl : PE X l tl) : PI X tg l (iList K' tl) := hK ▸ pi_list hl
theorem op_eqDK {X : Cx} {K' : PySem.W.Frag} (hK : X.K = K') (hu : X.A.units + 64 < cLine) : OpR X (compareOp .Eq) (rEqD K') := hK ▸ op_eqD hu
theorem op_neDK {X : Cx} {K' : PySem.W.Frag} (hK : X.K = K') (hu : X.A.units + 64 < cLine) : OpR X (compareOp .NotEq) (rNeD K') := hK ▸ op_neD hu

theorem _root_.L2.SqL.same {K : PySem.W.Frag} {H H' : Hp} {a : Addr} {xs : List V} (h : SqL K H a xs) (s : Same H H') : SqL K H' a xs := by
  rcases h with h | h
  · refine .inl ?_
    unfold Rd at h ⊢
    rcases h with h | ⟨o, h⟩
    · exact .inl (s _ _ h)
    · exact .inr ⟨o, s _ _ h⟩
  · exact .inr h
/-! {x: i for i, x in enumerate(t)} of texts -/
def enF : Nat → List Str → List (Key × V)
  | _, [] => []
  | i, x :: r => ((Sum.inr x : Key), V.int (i : Nat)) :: enF (i + 1) r
theorem enF_len : ∀ (i : Nat) (xs : List Str), (enF i xs).length = xs.length
  | _, [] => rfl
  | i, x :: r => by
    rw [enF, List.length_cons, enF_len (i + 1) r, List.length_cons]
theorem enF_keys : ∀ (i : Nat) (xs : List Str), (enF i xs).map (·.1) = xs.map fun x => (Sum.inr x : Key)
  | _, [] => rfl
  | i, x :: r => by
    rw [enF, List.map_cons, enF_keys (i + 1) r]
    rfl
theorem enF_at : ∀ (k : Nat) (xs : List Str) (i : Nat) (x : Str), xs[i]? = some x → (enF k xs)[i]? = some ((Sum.inr x : Key), V.int ((k + i : Nat) : Int))
  | k, [], i, x, h => by cases h
  | k, y :: r, 0, x, h => by
    cases h
    rfl
  | k, y :: r, i + 1, x, h => by
    rw [enF, List.getElem?_cons_succ, enF_at (k + 1) r i x (by simpa using h)]
    congr 4
    omega
theorem enF_val : ∀ (k : Nat) (xs : List Str) (x : Str), valV (enF k xs) (Sum.inr x) = if x ∈ xs then some (V.int ((k + xs.idxOf x : Nat) : Int)) else none
  | _, [], x => rfl
  | k, y :: r, x => by
    rw [enF]
    by_cases h : y = x
    · subst h
      rw [valV_pos rfl, if_pos List.mem_cons_self, List.idxOf_cons_self]
      rfl
    · rw [valV_neg (fun z => h (Sum.inr.inj z)), enF_val (k + 1) r x]
      by_cases hm : x ∈ r
      · rw [if_pos hm, if_pos (List.mem_cons_of_mem _ hm), List.idxOf_cons, show (y == x) = false from by simpa using h]
        congr 3
        show k + 1 + r.idxOf x = k + (r.idxOf x + 1)
        omega
      · rw [if_neg hm, if_neg (fun z => (List.mem_cons.mp z).elim (fun e => h e.symm) hm)]
theorem dc_enumTS {K : PySem.W.Frag} {ta : TA} {c1 c2 : Nat} {σ : L2.St} {H : Hp} {Q : VK} {a : Addr} (xs : List Str) (hta : ∀ R : List V → Hp → Prop, R [.ref a] H → ta σ H R) (ha : SqT K H a (xs.map V.str)) (nd : xs.Nodup) (hn : xs.length ≤ 100000) (h1 : c1 < σ.length) (h2 : c2 < σ.length) (ne : c1 ≠ c2)
    (k : ∀ D H', Same H H' → H D = none → H' D = some (.dK (enF 0 xs)) → Q (.ref D) H') :
    tDc (iEnumT K ta) (gTup K 2 (gCons (gName c1) (gCons (gName c2) gNil))) tYes (tVar c2) (tVar c1) [c1, c2] σ H Q := by
  have szl : (100000 : Nat) < sizeLine := by decide
  have ndk : ((enF 0 xs).map (·.1)).Nodup := by
    rw [enF_keys]
    exact nd.map _ fun a b hab z => hab (Sum.inr.inj z)
  refine hta _ ⟨a, xs.map V.str, rfl, ha, fun D hD => ?_⟩
  refine ⟨fun i m H' => m = xs.length - i ∧ i ≤ xs.length ∧ Same H H' ∧ H' D = some (.dK ((enF 0 xs).take i)), ⟨_, rfl, Nat.zero_le _, same_new hD, upd_same⟩, ?_⟩
  rintro i m H' ⟨rfl, hi, sm, g⟩
  by_cases hlt : i < xs.length
  · have hx0 : (xs.map V.str)[i]? = some (.str xs[i]) := by rw [List.getElem?_map, List.getElem?_eq_getElem hlt]; rfl
    refine .inr ⟨⟨_, _, ha.same sm, hx0⟩, fun H2 => Same H H2 ∧ H2 D = some (.dK ((enF 0 xs).take (i + 1))), fun H2 h => ⟨xs.length - (i + 1), by omega, rfl, hlt, h⟩, fun x H2 hy => ?_⟩
    obtain ⟨T, x', rfl, hT, rfl, hx⟩ := hy
    have ex := hx _ (ha.same sm)
    rw [hx0] at ex
    cases ex
    have w1 : c1 < (wipe σ [c1, c2]).length := by rw [wipe_length]; exact h1
    have w2 : c2 < (wipe σ [c1, c2]).length := by rw [wipe_length]; exact h2
    have nT : D ≠ T := ne_of_none g hT
    have sT := same_new (o := HO.tup [.int (i : Nat), .str xs[i]]) hT
    refine ⟨T, [.int (i : Nat), .str xs[i]], rfl, .inl (.inl upd_same), rfl, _, _, rfl, ?_⟩
    refine ⟨_, _, rfl, rfl, ?_, ?_⟩
    · show (((((σ.set c2 none).set c1 none).set c1 (some (V.int (i : Nat)))).set c2 (some (V.str xs[i]))).set c2 none).set c1 none = (σ.set c2 none).set c1 none
      apply List.ext_getElem?
      intro j
      simp only [List.getElem?_set, List.length_set]
      repeat' split
      all_goals first | rfl | simp_all
    · simp only [tYes, if_true]
      refine ⟨.str xs[i], ?_, .int (i : Nat), ?_, (enF 0 xs).take i, Sum.inr xs[i], rfl, sT _ _ g, ?_, ?_, ?_⟩
      · rw [List.getElem?_set_self (by rw [List.length_set]; exact w2)]
      · rw [List.getElem?_set_ne (Ne.symm ne), List.getElem?_set_self w1]
      · have := List.length_take_le i (enF 0 xs)
        have := enF_len 0 xs
        rw [List.length_take]
        omega
      · exact sm_upd (sm_trans sm sT) hD
      · have hk := enF_at 0 xs i xs[i] (List.getElem?_eq_getElem hlt)
        rw [Nat.zero_add] at hk
        rw [upd_same, putK_new _ (valV_take ndk hk), List.take_add_one, hk]
        rfl
  · have e : i = xs.length := by omega
    subst e
    rw [show (enF 0 xs).take xs.length = enF 0 xs from by rw [← enF_len 0 xs, List.take_length]] at g
    exact .inl ⟨⟨_, ha.same sm, by rw [List.length_map]; exact Nat.le_refl _⟩, k D _ sm hD g⟩

/-- where a field of the new ones was among the old ones -/
def orgV (old : List Str) (x : Str) : V := if x ∈ old then .int (old.idxOf x) else .non
def chF (nm : Str) (o n g : Addr) : List (Str × V) := [("name", .str nm), ("old", .ref o), ("new", .ref n), ("origins", .ref g)]
/-- a change on the heap -/
def ChAt (K : PySem.W.Frag) (C : Addr) (H : Hp) (r : Addr) (nm : Str) (old new : List Str) : Prop := ∃ dx o n g, H r = some (.ins C dx (chF nm o n g)) ∧ SqT K H o (old.map V.str) ∧ SqT K H n (new.map V.str) ∧ SqT K H g (new.map (orgV old))
def sp_changeI (K : PySem.W.Frag) (C : Addr) : Sp := fun vs H Q _ => ∃ (a dx p q : Addr) (nm : Str) (old new : List Str), vs = [.ref a, .str nm, .ref p, .ref q] ∧ H a = some (.ins C dx []) ∧ SqL K H p (old.map V.str) ∧ SqL K H q (new.map V.str) ∧ old.Nodup ∧ old.length ≤ 1000 ∧ new.length ≤ 1000 ∧
  ∀ H', (∀ b o, b ≠ a → H b = some o → H' b = some o) → ChAt K C H' a nm old new → Q .non H'
theorem sp_changeI_len {K C vs H Q E} (h : sp_changeI K C vs H Q E) : vs.length = (["self", "name", "old", "new"] : List Str).length := by
  obtain ⟨_, _, _, _, _, _, _, rfl, _⟩ := h
  rfl
section
variable {P : Program} {w : World} {K : PySem.W.Frag} {mg : Str → Option Value} {base : Heap} {A : Ad}
theorem ok_Change___init__ (T : Txt K mg A) : FnOk P w K mg base CX0 1 A.f_Change___init__ A.d_Change___init__ ["self", "name", "old", "new"] (sp_changeI K A.C_Change) := by
  refine Fun.ok T.F_Change___init__ sc_Change___init__ (fun vs H Q E h => ?_) (fun cdv Ar outer s H vs Q E hr h => ?_)
  · exact sp_changeI_len h
  · have hu := hu_of hr
    refine ⟨_, (pss_cons (ps_fld (pv 0) (pv 1) rfl)
    (pss_cons (ps_fld (pv 0) (pe_callTy call_tuple_of (by rfl) T.z_tuple (by decide +kernel) (pa_cons (pv 2) pa_nil)) rfl)
    (pss_cons (ps_fld (pv 0) (pe_callTy call_tuple_of (by rfl) T.z_tuple (by decide +kernel) (pa_cons (pv 3) pa_nil)) rfl)
    (pss_cons (ps_asg (pe_dc (own := [("at", 5), ("field", 6)]) (g := gTup _ 2 (gCons (gName 5) (gCons (gName 6) gNil))) rfl sc_Change___init__.nd (pi_enumT (by rfl) T.z_enumerate (pa_cons (pe_fld (pv 0) rfl) pa_nil)) (blkOk_by (own := [("at", 5), ("field", 6)]) (N := ["self", "name", "old", "new", "places", "at", "field"]) (sc := defScope s_Change___init__) (by decide +kernel)) (fun _ _ _ _ _ => (pg_tup (by rfl) (pgs_cons (pg_name (i := 5) sc_Change___init__.nd rfl (Or.inl rfl)) (pgs_cons (pg_name (i := 6) sc_Change___init__.nd rfl (Or.inl rfl)) pgs_nil)))) (fun _ _ _ _ _ => pts_nil) (fun _ _ _ _ _ => (pv 6)) (fun _ _ _ _ _ => (pv 5))) (pg_name (i := 4) sc_Change___init__.nd rfl (Or.inr rfl)))
    (pss_one (ps_fld (pv 0) (pe_callTy call_tuple_of (by rfl) T.z_tuple (by decide +kernel) (pa_cons (pe_lc (own := [("field", 6)]) (g := gName 6) rfl sc_Change___init__.nd (pi_tup (pe_fld (pv 0) rfl)) (blkOk_by (own := [("field", 6)]) (N := ["self", "name", "old", "new", "places", "at", "field"]) (sc := defScope s_Change___init__) (by decide +kernel)) (fun _ _ _ _ _ => pg_name (i := 6) sc_Change___init__.nd rfl (Or.inl rfl)) (fun _ _ _ _ _ => pts_nil) (fun _ _ _ _ _ => (pe_dgetM hu (pv 4) (pv 6) ⟨by rfl, by rfl, by rfl, by rfl⟩))) pa_nil)) rfl)))))), ?_⟩
    obtain ⟨a, dx, p, q, nm, old, new, rfl, ha, hp, hq, nd, l1, l2, k⟩ := h
    simp! only [ha, T.cl_Change, T.no_Change_name, T.no_Change_old, T.no_Change_new, T.no_Change_origins]
    have sz : (2000 : Nat) < sizeLine := by decide
    have j0 : ∀ b o, b ≠ a → H b = some o → upd H a (HO.ins A.C_Change dx [(Str.ofString "name", V.str nm)]) b = some o := fun b o hb e => by
      rw [upd_ne hb]
      exact e
    have g0 : upd H a (HO.ins A.C_Change dx [(Str.ofString "name", V.str nm)]) a = some (HO.ins A.C_Change dx [(Str.ofString "name", V.str nm)]) := upd_same
    refine ⟨by decide, old.map V.str, .inl ⟨hp.puti ha, fun l hl => ?_⟩⟩
    have hq0 : SqL K (upd H a (HO.ins A.C_Change dx [(Str.ofString "name", V.str nm)])) q (new.map V.str) := hq.puti ha
    generalize upd H a (HO.ins A.C_Change dx [(Str.ofString "name", V.str nm)]) = G0 at j0 g0 hq0 hl ⊢
    have al := ne_of_none g0 hl
    have s1 := same_new (o := HO.tup (old.map V.str)) hl
    have t1 : SqT K (upd G0 l (HO.tup (old.map V.str))) l (old.map V.str) := .inl (.inl upd_same)
    have g1 := s1 _ _ g0
    have hq1 := hq0.same s1
    have j1 : ∀ b o, b ≠ a → H b = some o → upd G0 l (HO.tup (old.map V.str)) b = some o := fun b o hb e => s1 _ _ (j0 b o hb e)
    generalize upd G0 l (HO.tup (old.map V.str)) = G1 at g1 t1 hq1 j1 ⊢
    refine ⟨_, _, _, g1, T.cl_Change, T.no_Change_old, by show 1 < 1000; decide, new.map V.str, .inl ⟨hq1.puti g1, fun l1 hl1 => ?_⟩⟩
    have e2 : putF (Str.ofString "old") (V.ref l) [(Str.ofString "name", V.str nm)] = [(Str.ofString "name", V.str nm), (Str.ofString "old", V.ref l)] := rfl
    rw [e2] at hl1 ⊢
    have g2 : upd G1 a (HO.ins A.C_Change dx [(Str.ofString "name", V.str nm), (Str.ofString "old", V.ref l)]) a = some (HO.ins A.C_Change dx [(Str.ofString "name", V.str nm), (Str.ofString "old", V.ref l)]) := upd_same
    have t2 : SqT K (upd G1 a (HO.ins A.C_Change dx [(Str.ofString "name", V.str nm), (Str.ofString "old", V.ref l)])) l (old.map V.str) := t1.puti g1
    have j2 : ∀ b o, b ≠ a → H b = some o → upd G1 a (HO.ins A.C_Change dx [(Str.ofString "name", V.str nm), (Str.ofString "old", V.ref l)]) b = some o := fun b o hb e => by
      rw [upd_ne hb]
      exact j1 b o hb e
    generalize upd G1 a (HO.ins A.C_Change dx [(Str.ofString "name", V.str nm), (Str.ofString "old", V.ref l)]) = G2 at g2 t2 j2 hl1 ⊢
    have s3 := same_new (o := HO.tup (new.map V.str)) hl1
    have g3 := s3 _ _ g2
    have t3 := t2.same s3
    have u3 : SqT K (upd G2 l1 (HO.tup (new.map V.str))) l1 (new.map V.str) := .inl (.inl upd_same)
    have j3 : ∀ b o, b ≠ a → H b = some o → upd G2 l1 (HO.tup (new.map V.str)) b = some o := fun b o hb e => s3 _ _ (j2 b o hb e)
    generalize upd G2 l1 (HO.tup (new.map V.str)) = G3 at g3 t3 u3 j3 ⊢
    refine ⟨_, _, _, g3, T.cl_Change, T.no_Change_new, by show 2 < 1000; decide, ?_⟩
    have e4 : putF (Str.ofString "new") (V.ref l1) [(Str.ofString "name", V.str nm), (Str.ofString "old", V.ref l)] = [(Str.ofString "name", V.str nm), (Str.ofString "old", V.ref l), (Str.ofString "new", V.ref l1)] := rfl
    rw [e4]
    have g4 : upd G3 a (HO.ins A.C_Change dx [(Str.ofString "name", V.str nm), (Str.ofString "old", V.ref l), (Str.ofString "new", V.ref l1)]) a = some (HO.ins A.C_Change dx [(Str.ofString "name", V.str nm), (Str.ofString "old", V.ref l), (Str.ofString "new", V.ref l1)]) := upd_same
    have t4 : SqT K (upd G3 a (HO.ins A.C_Change dx [(Str.ofString "name", V.str nm), (Str.ofString "old", V.ref l), (Str.ofString "new", V.ref l1)])) l (old.map V.str) := t3.puti g3
    have u4 : SqT K (upd G3 a (HO.ins A.C_Change dx [(Str.ofString "name", V.str nm), (Str.ofString "old", V.ref l), (Str.ofString "new", V.ref l1)])) l1 (new.map V.str) := u3.puti g3
    have j4 : ∀ b o, b ≠ a → H b = some o → upd G3 a (HO.ins A.C_Change dx [(Str.ofString "name", V.str nm), (Str.ofString "old", V.ref l), (Str.ofString "new", V.ref l1)]) b = some o := fun b o hb e => by
      rw [upd_ne hb]
      exact j3 b o hb e
    generalize upd G3 a (HO.ins A.C_Change dx [(Str.ofString "name", V.str nm), (Str.ofString "old", V.ref l), (Str.ofString "new", V.ref l1)]) = G4 at g4 t4 u4 j4 ⊢
    refine dc_enumTS (a := l) old (fun R h => ?_) t4 nd (by omega) (by show 5 < 7; decide) (by show 6 < 7; decide) (by decide) fun d H5 s5 hd5 g5 => ?_
    · simp! only [g4, T.cl_Change, T.no_Change_old]
      exact ⟨_, rfl, h⟩
    have g5a := s5 _ _ g4
    have u5 := u4.same s5
    refine lc_tupA (a := l1) (new.map V.str) (fun R h => ?_) u5 (fun D i H' => Same H5 H' ∧ H' D = some (.lst ((new.take i).map (orgV old)))) (fun D hD => ⟨same_new hD, upd_same⟩) (fun D i H' _ p => u5.same p.1) (fun D i x H' hD hi p => ?_) (fun D H' hD p => ?_)
    · simp! only [g5a, T.cl_Change, T.no_Change_new]
      exact ⟨_, rfl, h⟩
    · obtain ⟨sm, gD⟩ := p
      rw [List.getElem?_map] at hi
      obtain ⟨y, hy, rfl⟩ := Option.map_eq_some_iff.mp hi
      have gd := sm _ _ g5
      simp! only [gd]
      have hil := (List.getElem?_eq_some_iff.mp hy).1
      refine ⟨_, gD, by rw [List.length_map, List.length_take]; omega, sm_upd sm hD, ?_⟩
      have e : (valV (enF 0 old) (Sum.inr y)).getD V.non = orgV old y := by
        rw [enF_val]
        unfold orgV
        by_cases hm : y ∈ old
        · rw [if_pos hm, if_pos hm, Nat.zero_add]
          rfl
        · rw [if_neg hm, if_neg hm]
          rfl
      rw [e, List.take_add_one, hy, List.map_append]
      rfl
    · obtain ⟨sm, gD⟩ := p
      rw [List.length_map, List.take_length] at gD
      refine ⟨D, rfl, new.map (orgV old), .inl ⟨.inl (.inl gD), fun l6 hl6 => ?_⟩⟩
      have s6 := same_new (o := HO.tup (new.map (orgV old))) hl6
      have g6 := s6 _ _ (sm _ _ g5a)
      have s56 : Same G4 (upd H' l6 (HO.tup (new.map (orgV old)))) := sm_trans s5 (sm_trans sm s6)
      refine ⟨_, _, _, g6, T.cl_Change, T.no_Change_origins, by show 3 < 1000; decide, k _ (fun b o hb e => ?_) ⟨dx, l, l1, l6, upd_same, (t4.same s56).puti g6, (u4.same s56).puti g6, SqT.puti (.inl (.inl upd_same)) g6⟩⟩
      rw [upd_ne hb]
      exact s56 _ _ (j4 b o hb e)
end

/-- the kinds behind the change -/
def newKs (ks : List Kd) (n s : Str) (xs : List Str) : List Kd := ks.map fun k => if k.nm = n then ⟨n, some s, xs⟩ else k
theorem newKs_of (n s : Str) (xs : List Str) (x : Str) : ∀ ks : List Kd, kdOf (newKs ks n s xs) x = if x = n then (kdOf ks n).map (fun _ => ⟨n, some s, xs⟩) else kdOf ks x
  | [] => by
    by_cases h : x = n
    · rw [if_pos h]
      rfl
    · rw [if_neg h]
      rfl
  | k :: r => by
    have ih := newKs_of n s xs x r
    unfold newKs kdOf at ih ⊢
    rw [List.map_cons, List.find?_cons, List.find?_cons, List.find?_cons, ih]
    by_cases h1 : k.nm = n
    · rw [if_pos h1]
      by_cases h2 : x = n
      · rw [if_pos h2, decide_eq_true (show (⟨n, some s, xs⟩ : Kd).nm = x from h2.symm), if_pos h2, decide_eq_true h1]
        rfl
      · rw [if_neg h2, decide_eq_false (show ¬ (⟨n, some s, xs⟩ : Kd).nm = x from fun z => h2 z.symm), if_neg h2, decide_eq_false (show ¬ k.nm = x from fun z => h2 (z.symm.trans h1))]
    · rw [if_neg h1]
      by_cases h2 : x = n
      · rw [if_pos h2, if_pos h2, decide_eq_false h1, decide_eq_false (show ¬ k.nm = x from fun z => h1 (z.trans h2))]
      · rw [if_neg h2, if_neg h2]
theorem kdOf_mem {ks : List Kd} {k : Kd} (h : k ∈ ks) : kdOf ks k.nm ≠ none := fun z => by
  unfold kdOf at z
  rw [List.find?_eq_none] at z
  exact z k h (decide_eq_true rfl)
def classW (ks : List Kd) (ln : Str → List Str) (n s : Str) : Option Str :=
  if kdOf ks n = none then some "name" else if n ∈ kern then some "kernel" else if kdOf ks s = none ∨ (s ∈ kern ∧ s ≠ "Object") then some "super" else if n ∈ ln s then some "ring" else none
def bad1 (xs : List Str) : Option Str := if distN xs xs.length < xs.length then some "twice" else if 32 < xs.length then some "many" else none
def planBad (ns : List Str) (below : Str → Bool) (new : Str → List Str) : Option Str := ns.findSome? fun x => if below x = true then bad1 (new x) else none
abbrev Rw3 := Str × List Str × List Str
def planRows (ns : List Str) (below : Str → Bool) (old new : Str → List Str) : List Rw3 := (ns.filter below).map fun x => (x, old x, new x)
/-- what a plan is asked with -/
structure PlanIn (ks : List Kd) (n s : Str) (xs : List Str) (ln ln2 : Str → List Str) : Prop where
  nd : (ks.map (·.nm)).Nodup
  len : ks.length ≤ 1000
  lx : xs.length ≤ 1000
  hx : ∀ x ∈ xs, x.length ≤ 100000
  line : ∀ x, kdOf ks x ≠ none → Line ks (some x) (ln x) ∧ (ln x).length ≤ 1000 ∧ (flds ks (ln x)).length ≤ 1000 ∧ (flds ks (ln x)).Nodup
  line2 : classW ks ln n s = none → ∀ x, kdOf ks x ≠ none → n ∈ ln x → Line (newKs ks n s xs) (some x) (ln2 x) ∧ (ln2 x).length ≤ 1000 ∧ (flds (newKs ks n s xs) (ln2 x)).length ≤ 1000
def planW (ks : List Kd) (n s : Str) (xs : List Str) (ln ln2 : Str → List Str) : Option Str :=
  match classW ks ln n s with
  | some w => some w
  | none => match badF [] xs with
    | some w => some w
    | none => planBad (ks.map (·.nm)) (fun x => decide (n ∈ ln x)) (fun x => flds (newKs ks n s xs) (ln2 x))
def planR (ks : List Kd) (n s : Str) (xs : List Str) (ln ln2 : Str → List Str) : List Rw3 := planRows (ks.map (·.nm)) (fun x => decide (n ∈ ln x)) (fun x => flds ks (ln x)) (fun x => flds (newKs ks n s xs) (ln2 x))
theorem KAt.put {K : PySem.W.Frag} {C : Addr} {H : Hp} {d : Addr} {kvs kvs2 : List (Key × V)} {r : Addr} {k : Kd} (h : KAt K C H r k) (g : H d = some (.dK kvs)) : KAt K C (upd H d (.dK kvs2)) r k := by
  obtain ⟨dx, t, h1, h2⟩ := h
  have ne : r ≠ d := fun z => by
    rw [z, g] at h1
    cases h1
  refine ⟨dx, t, by rw [upd_ne ne]; exact h1, ?_⟩
  rcases h2 with h2 | h2
  · refine .inl ?_
    have ne2 : t ≠ d := fun z => by
      unfold Rd at h2
      rw [z, g] at h2
      rcases h2 with h2 | ⟨_, h2⟩ <;> cases h2
    unfold Rd at h2 ⊢
    rw [upd_ne ne2]
    exact h2
  · exact .inr h2
theorem ChAt.put {K : PySem.W.Frag} {C : Addr} {H : Hp} {d : Addr} {xs ys : List V} {r : Addr} {nm : Str} {old new : List Str} (h : ChAt K C H r nm old new) (g : H d = some (.lst xs)) : ChAt K C (upd H d (.lst ys)) r nm old new := by
  obtain ⟨dx, o, n, q, h1, h2, h3, h4⟩ := h
  have tt : ∀ {t : Addr} {zs : List V}, SqT K H t zs → SqT K (upd H d (.lst ys)) t zs := fun {t zs} h => by
    rcases h with h | h
    · refine .inl ?_
      have ne2 : t ≠ d := fun z => by
        unfold Rd at h
        rw [z, g] at h
        rcases h with h | ⟨_, h⟩ <;> cases h
      unfold Rd at h ⊢
      rw [upd_ne ne2]
      exact h
    · exact .inr h
  have ne : r ≠ d := fun z => by
    rw [z, g] at h1
    cases h1
  exact ⟨dx, o, n, q, by rw [upd_ne ne]; exact h1, tt h2, tt h3, tt h4⟩
theorem ChAt.same {K : PySem.W.Frag} {C : Addr} {H H' : Hp} {r : Addr} {nm : Str} {old new : List Str} (h : ChAt K C H r nm old new) (s : Same H H') : ChAt K C H' r nm old new := by
  obtain ⟨dx, o, n, q, h1, h2, h3, h4⟩ := h
  exact ⟨dx, o, n, q, s _ _ h1, h2.same s, h3.same s, h4.same s⟩
/-- changes on the heap -/
def ChsAt (K : PySem.W.Frag) (C : Addr) (H : Hp) (p : Addr) (ws : List Rw3) : Prop := ∃ cs : List Addr, H p = some (.lst (cs.map V.ref)) ∧ cs.length = ws.length ∧ ∀ (i : Nat) (c : Addr) (w : Rw3), cs[i]? = some c → ws[i]? = some w → ChAt K C H c w.1 w.2.1 w.2.2
def sp_plan (K : PySem.W.Frag) (A : Ad) : Sp := fun vs H Q E => ∃ (p q : Addr) (rs : List Addr) (ks : List Kd) (n s : Str) (xs : List Str) (ln ln2 : Str → List Str) (F : Hp), vs = [.ref p, .str n, .str s, .ref q] ∧ KsAt K A.C_Kind H p rs ks ∧ H q = some (.lst (xs.map V.str)) ∧ PlanIn ks n s xs ln ln2 ∧ Same F H ∧
  (∀ w, planW ks n s xs ln ln2 = some w → Out52 A E F w) ∧ (planW ks n s xs ln ln2 = none → ∀ H' r, Same H H' → H r = none → ChsAt K A.C_Change H' r (planR ks n s xs ln ln2) → Q (.ref r) H')
theorem sp_plan_len {K A vs H Q E} (h : sp_plan K A vs H Q E) : vs.length = (["kinds", "name", "superclass", "fields"] : List Str).length := by
  obtain ⟨_, _, _, _, _, _, _, _, _, _, rfl, _⟩ := h
  rfl
section
variable {P : Program} {w : World} {K : PySem.W.Frag} {mg : Str → Option Value} {base : Heap} {A : Ad}
theorem ok_plan_change (T : Txt K mg A) : FnOk P w K mg base (L2N.CX P w) 6 A.f_plan_change A.d_plan_change ["kinds", "name", "superclass", "fields"] (sp_plan K A) := by
  refine okN T.F_plan_change sc_plan_change (fun vs H Q E h => ?_) (fun cdv Ar outer s H vs Q E hr h => ?_)
  · exact sp_plan_len h
  · have hu := hu_of hr
    refine ⟨_, (pss_cons (ps_asg (pe_call (ok_by_name T) (hr.mono (by decide)) (by rfl) T.g_by_name T.k_by_name T.b_by_name .nil pass0 (pa_cons (pv 0) pa_nil)) (pg_name (i := 4) sc_plan_change.nd rfl (Or.inl rfl)))
    (pss_cons (ps_expr (pe_callS (ok_check_classes T) (hr.mono (by decide)) (by rfl) T.g_check_classes T.k_check_classes T.b_check_classes (fun σ => L2N.passAt (L2N.takes_of rfl rfl rfl rfl) σ) (pa_cons (pv 4) (pa_cons (pv 1) (pa_cons (pv 2) pa_nil)))))
    (pss_cons (ps_expr (pe_callS (ok_check_fields T) (hr.mono (by decide)) (by rfl) T.g_check_fields T.k_check_fields T.b_check_fields (fun σ => L2N.passAt (L2N.takes_of rfl rfl rfl rfl) σ) (pa_cons (pv 3) pa_nil)))
    (pss_cons (ps_asg (pe_callTy call_dictD (by rfl) T.z_dict (by decide +kernel) (pa_cons (pv 4) pa_nil)) (pg_name (i := 5) sc_plan_change.nd rfl (Or.inl rfl)))
    (pss_cons (ps_asg (pe_make T.mk_Kind (ok_Kind___init__ T) (hr.mono (by decide)) (by rfl) T.m_Kind T.b_Kind___init__ .nil pass0 (pa_cons (pv 1) (pa_cons (pv 2) (pa_cons (pv 3) pa_nil)))) (pg_sub (pv 5) (pv 1) (set_dictM hu)))
    (pss_cons (ps_asg (pe_lst pa_nil) (pg_name (i := 6) sc_plan_change.nd rfl (Or.inl rfl)))
    (pss_cons (ps_for (L2.passes_of rfl) rfl (pi_list (pv 0)) (pg_name (i := 7) sc_plan_change.nd rfl (Or.inl rfl))
      (pss_one (ps_if (pt_cmpR op_inM (pv 1) (pe_call (ok_line_of T) (hr.mono (by decide)) (by rfl) T.g_line_of T.k_line_of T.b_line_of .nil pass0 (pa_cons (pv 4) (pa_cons (pe_fld (pv 7) rfl) pa_nil))) (by rfl)) (pss_cons (ps_asg (pe_call (ok_fields_in T) (hr.mono (by decide)) (by rfl) T.g_fields_in T.k_fields_in T.b_fields_in .nil pass0 (pa_cons (pv 5) (pa_cons (pe_fld (pv 7) rfl) pa_nil))) (pg_name (i := 8) sc_plan_change.nd rfl (Or.inl rfl)))
    (pss_cons (ps_expr (pe_callS (ok_check_all_fields T) (hr.mono (by decide)) (by rfl) T.g_check_all_fields T.k_check_all_fields T.b_check_all_fields (fun σ => L2N.passAt (L2N.takes_of rfl rfl rfl rfl) σ) (pa_cons (pv 8) pa_nil)))
    (pss_one (ps_expr (pe_bmM PySem.F.slot_list_append PySem.F.type_list_append mt_append (pv 6) (pa_cons (pe_make T.mk_Change (ok_Change___init__ T) (hr.mono (by decide)) (by rfl) T.m_Change T.b_Change___init__ .nil pass0 (pa_cons (pe_fld (pv 7) rfl) (pa_cons (pe_call (ok_fields_in T) (hr.mono (by decide)) (by rfl) T.g_fields_in T.k_fields_in T.b_fields_in .nil pass0 (pa_cons (pv 4) (pa_cons (pe_fld (pv 7) rfl) pa_nil))) (pa_cons (pv 8) pa_nil)))) pa_nil)))))) pss_nil)))
    (pss_one (ps_ret (pv 6)))))))))), ?_⟩
    obtain ⟨p, q, rs, ks, n, s, xs, ln, ln2, F, rfl, hK, hq, P, sF, k1, k2⟩ := h
    have cW : ∀ w, classW ks ln n s = some w → Out52 A E F w := fun w hw => k1 w (by unfold planW; rw [hw])
    simp! only []
    refine ⟨p, rs, ks, rfl, hK, P.len, P.nd, fun d hd => ?_⟩
    have TB := tbD_at hK hd
    have s1 : Same H (upd H d (HO.dK (tbD rs ks))) := same_new hd
    have gd : upd H d (HO.dK (tbD rs ks)) d = some (HO.dK (tbD rs ks)) := upd_same
    have nd0 := hd
    generalize upd H d (HO.dK (tbD rs ks)) = H1 at TB s1 gd ⊢
    refine ⟨d, ks, n, s, F, rfl, TB, sm_trans sF s1, fun a1 => cW _ ?_, fun a1 a2 => cW _ ?_, fun a1 a2 a3 => cW _ ?_, fun a1 a2 a3 a4 => ⟨ln s, (P.line s a3).1, (P.line s a3).2.1, fun a5 => cW _ ?_, fun a5 H2 s2 => ?_⟩⟩
    · unfold classW
      rw [if_pos a1]
    · unfold classW
      rw [if_neg a1, if_pos a2]
    · unfold classW
      rw [if_neg a1, if_neg a2, if_pos a3]
    · unfold classW
      rw [if_neg a1, if_neg a2, if_neg (fun z => z.elim a3 fun y => a4.elim (fun b => b y.1) fun b => y.2 b), if_pos a5]
    have cN : classW ks ln n s = none := by
      unfold classW
      rw [if_neg a1, if_neg a2, if_neg (fun z => z.elim a3 fun y => a4.elim (fun b => b y.1) fun b => y.2 b), if_neg a5]
    have s12 := sm_trans s1 s2
    refine ⟨q, xs, F, rfl, s12 _ _ hq, P.lx, P.hx, sm_trans sF s12, fun w hw => k1 w (by unfold planW; rw [cN, hw]), fun bN H3 s3 => ?_⟩
    have pW : planW ks n s xs ln ln2 = planBad (ks.map (·.nm)) (fun x => decide (n ∈ ln x)) (fun x => flds (newKs ks n s xs) (ln2 x)) := by
      unfold planW
      rw [cN, bN]
    have s13 := sm_trans s12 s3
    have gd3 := s3 _ _ (s2 _ _ gd)
    have TB3 : TbAt K A.C_Kind H3 d ks := TB.same (sm_trans s2 s3)
    refine ⟨d, rfl, tbD rs ks, .inl gd3, fun b hb ia ix h1 h2 h3 => ?_⟩
    have bia : b ≠ ia := fun z => by
      rw [← z, upd_same] at h1
      cases h1
    have bix : b ≠ ix := fun z => by
      rw [← z, upd_same] at h2
      cases h2
    have h1' : H3 ia = none := by
      rw [upd_ne (Ne.symm bia)] at h1
      exact h1
    have h2' : H3 ix = none := by
      rw [upd_ne (Ne.symm bix)] at h2
      exact h2
    have q3 := s13 _ _ hq
    have s4 : Same H3 (upd (upd (upd H3 b (HO.dK (tbD rs ks))) ix (HO.own ia)) ia (HO.ins A.C_Kind ix [])) := sm_upd (sm_upd (same_new hb) h2') h1'
    refine ⟨ia, ix, q, n, some s, xs, rfl, upd_same, .inl (.inl (.inl (s4 _ _ q3))), fun H5 j5 kd5 => ⟨rfl, ?_⟩⟩
    have g5 : H5 b = some (.dK (tbD rs ks)) := j5 _ _ bia (by rw [upd_ne bia, upd_ne bix, upd_same])
    have s35 : Same H3 H5 := fun z o e => j5 z o (fun y => by
      rw [y, h1'] at e
      cases e) (s4 _ _ e)
    rw [g5]
    dsimp only
    have ltb : (tbD rs ks).length = ks.length := by
      unfold tbD
      rw [List.length_zipWith, hK.2.1, Nat.min_self]
    refine ⟨by have := P.len; have : (2000 : Nat) < sizeLine := by decide
               omega, Nat.zero_le _, fun ch hch => ?_⟩
    have kd6 := kd5.put (kvs2 := putK (tbD rs ks) (Sum.inr n) (V.ref ia)) g5
    have s36 : Same H3 (upd H5 b (HO.dK (putK (tbD rs ks) (Sum.inr n) (V.ref ia)))) := sm_upd s35 hb
    have hnn : kdOf ks n ≠ none := a1
    have TB6 : TbAt K A.C_Kind (upd H5 b (HO.dK (putK (tbD rs ks) (Sum.inr n) (V.ref ia)))) b (newKs ks n s xs) := by
      refine ⟨_, upd_same, fun x => ?_⟩
      rw [valV_put, newKs_of]
      by_cases hx : x = n
      · rw [if_pos (show (Sum.inr x : Key) = Sum.inr n from by rw [hx]), if_pos hx]
        obtain ⟨k0, hk0⟩ := Option.ne_none_iff_exists'.mp hnn
        exact .inr ⟨ia, _, rfl, by rw [hk0]; rfl, kd6⟩
      · rw [if_neg (show ¬ (Sum.inr x : Key) = Sum.inr n from fun z => hx (Sum.inr.inj z)), if_neg hx]
        rcases tbD_val rs ks hK.2.1 x with a | ⟨i, r, k, e1, e2, e3, e4⟩
        · exact .inl a
        · exact .inr ⟨r, k, e3, e4, (hK.2.2 i r k e1 e2).same (sm_trans s13 s36)⟩
    have TBd : TbAt K A.C_Kind (upd H5 b (HO.dK (putK (tbD rs ks) (Sum.inr n) (V.ref ia)))) d ks := TB3.same s36
    have s06 := sm_trans s13 s36
    generalize upd H5 b (HO.dK (putK (tbD rs ks) (Sum.inr n) (V.ref ia))) = H6 at hch TB6 TBd s06 ⊢
    refine for_lst (K := K) (H0 := upd H6 ch (.lst [])) (a := p) (rs.map V.ref) (fun R h => ⟨_, rfl, h⟩) (fun i σ' H' => ∃ (c7 c8 : Option V) (cs : List Addr), σ' = [some (.ref p), some (.str n), some (.str s), some (.ref q), some (.ref d), some (.ref b), some (.ref ch), c7, c8] ∧ Same H6 H' ∧ H' ch = some (.lst (cs.map V.ref)) ∧
      (cs.length = (planRows ((ks.map (·.nm)).take i) (fun x => decide (n ∈ ln x)) (fun x => flds ks (ln x)) (fun x => flds (newKs ks n s xs) (ln2 x))).length) ∧
      (∀ (j : Nat) (c : Addr) (w : Rw3), cs[j]? = some c → (planRows ((ks.map (·.nm)).take i) (fun x => decide (n ∈ ln x)) (fun x => flds ks (ln x)) (fun x => flds (newKs ks n s xs) (ln2 x)))[j]? = some w → ChAt K A.C_Change H' c w.1 w.2.1 w.2.2) ∧
      planW ks n s xs ln ln2 = planBad ((ks.map (·.nm)).drop i) (fun x => decide (n ∈ ln x)) (fun x => flds (newKs ks n s xs) (ln2 x))) ⟨none, none, [], rfl, same_new hch, upd_same, rfl, (fun (j : Nat) c w (hj : ([] : List Addr)[j]? = some c) => by simp at hj), pW⟩ ?_ ?_ ?_
    · rintro i σ' H' _ ⟨c7, c8, cs, rfl, sm, _⟩
      exact .inl (.inl (sm _ _ (s06 _ _ hK.1)))
    · rintro i x σ' H' hx ⟨c7, c8, cs, rfl, sm, g, el, hc, hb2⟩
      rw [List.getElem?_map] at hx
      obtain ⟨r, hr2, rfl⟩ := Option.map_eq_some_iff.mp hx
      have hil := (List.getElem?_eq_some_iff.mp hr2).1
      have hki : i < ks.length := by rw [← hK.2.1]; exact hil
      have hk2 : ks[i]? = some ks[i] := List.getElem?_eq_getElem hki
      have KA := (hK.2.2 i r ks[i] hr2 hk2).same (sm_trans s06 sm)
      obtain ⟨dx, t, gr, ht⟩ := id KA
      have hkn : kdOf ks ks[i].nm ≠ none := kdOf_mem (List.getElem_mem hki)
      generalize ks[i] = kd at KA gr ht hk2 hkn
      have hnk : (ks.map (·.nm))[i]? = some kd.nm := by rw [List.getElem?_map, hk2]; rfl
      have hnl := (List.getElem?_eq_some_iff.mp hnk).1
      have hdr : (ks.map (·.nm)).drop i = kd.nm :: (ks.map (·.nm)).drop (i + 1) := by
        rw [List.drop_eq_getElem_cons hnl]
        rw [List.getElem?_eq_getElem hnl] at hnk
        rw [Option.some.inj hnk]
      have htk : (ks.map (·.nm)).take (i + 1) = (ks.map (·.nm)).take i ++ [kd.nm] := by
        rw [List.take_add_one, hnk]
        rfl
      rw [hdr] at hb2
      have L := P.line kd.nm hkn
      simp! only [gr, T.cl_Kind, T.no_Kind_name, kdF_n]
      refine ⟨d, ks, some kd.nm, ln kd.nm, rfl, TBd.same sm, L.1, L.2.1, fun H8 l s8 hl8 g8 => ⟨l, rfl, ?_⟩⟩
      rw [g8]
      dsimp only
      refine ⟨rfl, by rw [List.all_map, List.all_eq_true]; exact fun _ _ => rfl, ?_⟩
      rw [inV_strs]
      refine ite2 (fun hin => ?_) (fun hin => ?_)
      · have hin2 := of_decide_eq_true hin
        have M := P.line2 cN kd.nm hkn hin2
        have hb3 : planW ks n s xs ln ln2 = (match bad1 (flds (newKs ks n s xs) (ln2 kd.nm)) with | some w => some w | none => planBad ((ks.map (·.nm)).drop (i + 1)) (fun x => decide (n ∈ ln x)) (fun x => flds (newKs ks n s xs) (ln2 x))) := by
          rw [hb2]
          unfold planBad
          rw [List.findSome?_cons, if_pos hin]
          cases bad1 (flds (newKs ks n s xs) (ln2 kd.nm)) <;> rfl
        have sF8 := sm_trans sF (sm_trans s06 (sm_trans sm s8))
        refine ⟨_, _, _, s8 _ _ gr, T.cl_Kind, T.no_Kind_name, _, kdF_n, b, newKs ks n s xs, kd.nm, ln2 kd.nm, rfl, TB6.same (sm_trans sm s8), M.1, M.2.1, M.2.2, fun H9 z s9 hz9 g9 => ?_⟩
        refine ⟨z, _, F, rfl, g9, M.2.2, sm_trans sF8 s9, fun hlt H' dd sd hd' => k1 "twice" ?_ H' dd sd hd', fun h1 h2 H' dd sd hd' => k1 "many" ?_ H' dd sd hd', fun h1 h2 H10 s10 => ?_⟩
        · rw [hb3]
          unfold bad1
          rw [if_pos hlt]
        · rw [hb3]
          unfold bad1
          rw [if_neg h1, if_pos h2]
        have hb4 : planW ks n s xs ln ln2 = planBad ((ks.map (·.nm)).drop (i + 1)) (fun x => decide (n ∈ ln x)) (fun x => flds (newKs ks n s xs) (ln2 x)) := by
          rw [hb3]
          unfold bad1
          rw [if_neg h1, if_neg (by omega)]
        have s80 := sm_trans s8 (sm_trans s9 s10)
        dsimp only
        rw [s80 _ _ g]
        dsimp only
        refine ⟨_, _, _, s80 _ _ gr, T.cl_Kind, T.no_Kind_name, _, kdF_n, _, _, _, s80 _ _ gr, T.cl_Kind, T.no_Kind_name, _, kdF_n, d, ks, kd.nm, ln kd.nm, rfl, TBd.same (sm_trans sm s80), L.1, L.2.1, L.2.2.1, fun H11 y s11 hy11 g11 => fun c dxc hc1 hd1 hne => ?_⟩
        have s12' : Same H11 (upd (upd H11 dxc (HO.own c)) c (HO.ins A.C_Change dxc [])) := sm_upd (same_new hd1) hc1
        have s112 : Same H' (upd (upd H11 dxc (HO.own c)) c (HO.ins A.C_Change dxc [])) := sm_trans s80 (sm_trans s11 s12')
        refine ⟨c, dxc, y, z, kd.nm, flds ks (ln kd.nm), flds (newKs ks n s xs) (ln2 kd.nm), rfl, upd_same, .inl (.inl (s12' _ _ g11)), .inl (.inl (s12' _ _ (s11 _ _ (s10 _ _ g9)))), L.2.2.2, L.2.2.1, M.2.2, fun H12 j12 ch12 => ⟨rfl, ?_⟩⟩
        have sH : Same H' H12 := fun b0 o0 e0 => j12 b0 o0 (fun v => by
          have e1 := sm_trans s80 s11 b0 o0 e0
          rw [v, hc1] at e1
          cases e1) (s112 _ _ e0)
        have g12 := sH _ _ g
        have hcl : cs.length ≤ i := by
          rw [el]
          unfold planRows
          rw [List.length_map]
          exact Nat.le_trans (List.length_filter_le _ _) (by rw [List.length_take]; exact Nat.min_le_left _ _)
        have szl : (2000 : Nat) < sizeLine := by decide
        have el1 := P.len
        have e : planRows ((ks.map (·.nm)).take (i + 1)) (fun x => decide (n ∈ ln x)) (fun x => flds ks (ln x)) (fun x => flds (newKs ks n s xs) (ln2 x)) = planRows ((ks.map (·.nm)).take i) (fun x => decide (n ∈ ln x)) (fun x => flds ks (ln x)) (fun x => flds (newKs ks n s xs) (ln2 x)) ++ [(kd.nm, flds ks (ln kd.nm), flds (newKs ks n s xs) (ln2 kd.nm))] := by
          unfold planRows
          rw [htk, List.filter_append, List.filter_cons_of_pos (by simpa using hin2), List.filter_nil, List.map_append]
          rfl
        rw [e]
        refine ⟨_, g12, by rw [List.length_map]; omega, sm_upd (sm_trans sm sH) hch, cs ++ [c], by rw [List.map_append]; rfl, by rw [List.length_append, List.length_append, el]; rfl, fun j c0 w h3 h4 => ?_, hb4⟩
        by_cases hj : j < cs.length
        · rw [List.getElem?_append_left hj] at h3
          rw [List.getElem?_append_left (by rw [← el]; exact hj)] at h4
          exact ((hc j c0 w h3 h4).same sH).put g12
        · rw [List.getElem?_append_right (by omega)] at h3
          rw [List.getElem?_append_right (by rw [← el]; omega), ← el] at h4
          have hj0 : j - cs.length = 0 := by
            have := (List.getElem?_eq_some_iff.mp h3).1
            rw [List.length_singleton] at this
            omega
          rw [hj0] at h3 h4
          cases h3
          cases h4
          exact ch12.put g12
      · have hin2 : ¬ n ∈ ln kd.nm := fun z => hin (decide_eq_true z)
        have e : planRows ((ks.map (·.nm)).take (i + 1)) (fun x => decide (n ∈ ln x)) (fun x => flds ks (ln x)) (fun x => flds (newKs ks n s xs) (ln2 x)) = planRows ((ks.map (·.nm)).take i) (fun x => decide (n ∈ ln x)) (fun x => flds ks (ln x)) (fun x => flds (newKs ks n s xs) (ln2 x)) := by
          unfold planRows
          rw [htk, List.filter_append, List.filter_cons_of_neg (by simpa using hin2), List.filter_nil, List.append_nil]
        rw [e]
        refine ⟨sm_trans sm s8, cs, s8 _ _ g, el, fun j c w h1 h2 => (hc j c w h1 h2).same s8, ?_⟩
        rw [hb2]
        unfold planBad
        rw [List.findSome?_cons, if_neg hin]
    · rintro σ' H' ⟨c7, c8, cs, rfl, sm, g, el, hc, hb2⟩
      have e : (rs.map V.ref).length = (ks.map (·.nm)).length := by rw [List.length_map, List.length_map, hK.2.1]
      rw [e, List.drop_length] at hb2
      rw [e, List.take_length] at el hc
      refine ⟨_, rfl, k2 (hb2.trans rfl) H' ch (sm_trans s06 sm) (no_of s06 hch) ⟨cs, g, el, hc⟩⟩
end

/-! ### the law's kinds, and lines of names -/
structure Lk where
  nm : Str
  ab : Str
  fs : List Str
def Lk.kd (k : Lk) : Kd := ⟨k.nm, some k.ab, k.fs⟩
def kernK : List Kd := ⟨"Object", none, []⟩ :: kern.tail.map fun x => ⟨x, some "Object", []⟩
def full (ks : List Lk) : List Kd := kernK ++ ks.map Lk.kd
def lkOf (ks : List Lk) (n : Str) : Option Lk := ks.foldl (fun r k => if k.nm = n then some k else r) none
def abv (ks : List Lk) (n : Str) : Str := ((lkOf ks n).map (·.ab)).getD "Object"
def ownF (ks : List Lk) (n : Str) : List Str := ((lkOf ks n).map (·.fs)).getD []
def ups (ks : List Lk) : Nat → Str → List Str
  | 0, _ => []
  | k + 1, n => n :: ups ks k (abv ks n)
def upn (ks : List Lk) : Nat → Str → Str
  | 0, n => n
  | k + 1, n => upn ks k (abv ks n)
def allL (ks : List Lk) (n : Str) : List Str := (ups ks 20 n).reverse.flatMap (ownF ks)
theorem ups_snoc (ks : List Lk) : ∀ (i : Nat) (n : Str), ups ks (i + 1) n = ups ks i n ++ [upn ks i n]
  | 0, n => rfl
  | i + 1, n => by
    show n :: ups ks (i + 1) (abv ks n) = n :: (ups ks i (abv ks n) ++ [upn ks i (abv ks n)])
    rw [ups_snoc ks i]
theorem upn_succ (ks : List Lk) : ∀ (i : Nat) (n : Str), upn ks (i + 1) n = abv ks (upn ks i n)
  | 0, n => rfl
  | i + 1, n => upn_succ ks i (abv ks n)
theorem lkOf_snoc (ks : List Lk) (k : Lk) (n : Str) : lkOf (ks ++ [k]) n = if k.nm = n then some k else lkOf ks n := by
  unfold lkOf
  rw [List.foldl_append]
  rfl
theorem lkOf_some {n : Str} {k : Lk} : ∀ {ks : List Lk}, lkOf ks n = some k → k ∈ ks ∧ k.nm = n := by
  intro ks
  rcases List.eq_nil_or_concat ks with rfl | ⟨l, q, rfl⟩
  · intro h
    cases h
  · intro h
    rw [List.concat_eq_append] at h ⊢
    rw [lkOf_snoc] at h
    by_cases hq : q.nm = n
    · rw [if_pos hq] at h
      cases h
      exact ⟨List.mem_append_right _ List.mem_cons_self, hq⟩
    · rw [if_neg hq] at h
      obtain ⟨a, b⟩ := lkOf_some h
      exact ⟨List.mem_append_left _ a, b⟩
termination_by ks => ks.length
decreasing_by all_goals (subst_vars; simp_all)
theorem lkOf_none {n : Str} {ks : List Lk} (h : n ∉ ks.map (·.nm)) : lkOf ks n = none := by
  cases e : lkOf ks n with
  | none => rfl
  | some k =>
    obtain ⟨a, b⟩ := lkOf_some e
    exact absurd (b ▸ List.mem_map_of_mem a) h
theorem kd_at {n : Str} {k : Lk} : ∀ {ks : List Lk}, (ks.map (·.nm)).Nodup → k ∈ ks → k.nm = n → kdOf (ks.map Lk.kd) n = some k.kd
  | [], _, h, _ => absurd h List.not_mem_nil
  | q :: r, nd, h, e => by
    rw [List.map_cons, List.nodup_cons] at nd
    unfold kdOf
    rw [List.map_cons, List.find?_cons]
    rcases List.mem_cons.mp h with rfl | h
    · rw [show decide (k.kd.nm = n) = true from decide_eq_true e]
    · have : ¬ q.kd.nm = n := fun z => nd.1 (by
        rw [show q.nm = k.nm from (show q.nm = n from z).trans e.symm]
        exact List.mem_map_of_mem h)
      rw [show decide (q.kd.nm = n) = false from decide_eq_false this]
      exact kd_at nd.2 h e
theorem lkOf_at {n : Str} {k : Lk} {ks : List Lk} (nd : (ks.map (·.nm)).Nodup) (h : k ∈ ks) (e : k.nm = n) : lkOf ks n = some k := by
  cases e2 : lkOf ks n with
  | none =>
    exfalso
    have key : ∀ (l : List Lk), k ∈ l → lkOf l n ≠ none := by
      intro l
      induction hl : l.length generalizing l with
      | zero =>
        intro hm
        rw [List.eq_nil_of_length_eq_zero hl] at hm
        exact absurd hm List.not_mem_nil
      | succ m ih =>
        intro hm
        rcases List.eq_nil_or_concat l with rfl | ⟨l', q, rfl⟩
        · exact absurd hm List.not_mem_nil
        · rw [List.concat_eq_append] at hm hl ⊢
          rw [lkOf_snoc]
          by_cases hq : q.nm = n
          · rw [if_pos hq]
            exact fun z => by cases z
          · rw [if_neg hq]
            rw [List.length_append, List.length_singleton] at hl
            refine ih l' (by omega) ?_
            rcases List.mem_append.mp hm with a | a
            · exact a
            · rw [List.mem_singleton] at a
              exact absurd (a ▸ e) hq
    exact key ks h e2
  | some q =>
    obtain ⟨a, b⟩ := lkOf_some e2
    have h1 := kd_at nd h e
    have h2 := kd_at nd a b
    rw [h1] at h2
    have h3 := Option.some.inj h2
    have : k = q := by
      obtain ⟨n1, a1, f1⟩ := k
      obtain ⟨n2, a2, f2⟩ := q
      unfold Lk.kd at h3
      injection h3 with x1 x2 x3
      injection x2 with x2
      subst x1 x2 x3
      rfl
    rw [this]
theorem kernK_nm : kernK.map (·.nm) = kern := by decide +kernel
theorem kdOf_app (a b : List Kd) (n : Str) : kdOf (a ++ b) n = (kdOf a n).or (kdOf b n) := by
  unfold kdOf
  rw [List.find?_append]
theorem kdOf_no {ks : List Kd} {n : Str} (h : n ∉ ks.map (·.nm)) : kdOf ks n = none := by
  unfold kdOf
  rw [List.find?_eq_none]
  intro k hk z
  exact h ((of_decide_eq_true z) ▸ List.mem_map_of_mem hk)
theorem kdOf_yes {ks : List Kd} {n : Str} (h : n ∈ ks.map (·.nm)) : kdOf ks n ≠ none := by
  obtain ⟨k, hk, rfl⟩ := List.mem_map.mp h
  exact kdOf_mem hk
theorem full_nm (ks : List Lk) : (full ks).map (·.nm) = kern ++ ks.map (·.nm) := by
  unfold full
  rw [List.map_append, kernK_nm, List.map_map]
  rfl
theorem full_in {ks : List Lk} {n : Str} : kdOf (full ks) n ≠ none ↔ n ∈ kern ∨ n ∈ ks.map (·.nm) := by
  constructor
  · intro h
    refine Classical.byContradiction fun z => h (kdOf_no ?_)
    rw [full_nm, List.mem_append]
    exact z
  · intro h
    refine kdOf_yes ?_
    rw [full_nm, List.mem_append]
    exact h
/-- of the kernel's own -/
theorem kern_kd {n : Str} (h : n ∈ kern) : kdOf kernK n = some (if n = "Object" then ⟨"Object", none, []⟩ else ⟨n, some "Object", []⟩) := by
  have key : ∀ n ∈ kern, kdOf kernK n = some (if n = "Object" then ⟨"Object", none, []⟩ else ⟨n, some "Object", []⟩) := by
    intro n h
    unfold kern at h
    simp only [List.mem_cons, List.not_mem_nil, or_false] at h
    rcases h with rfl | rfl | rfl | rfl | rfl | rfl | rfl | rfl | rfl | rfl | rfl | rfl | rfl | rfl | rfl <;> rfl
  exact key n h
theorem full_kern {ks : List Lk} {n : Str} (h : n ∈ kern) : kdOf (full ks) n = some (if n = "Object" then ⟨"Object", none, []⟩ else ⟨n, some "Object", []⟩) := by
  unfold full
  rw [kdOf_app, kern_kd h]
  rfl
theorem obj_kern : ("Object" : Str) ∈ kern := List.mem_cons_self
theorem full_own {ks : List Lk} {n : Str} (h : n ∉ kern) : kdOf (full ks) n = kdOf (ks.map Lk.kd) n := by
  unfold full
  rw [kdOf_app, kdOf_no (by rw [kernK_nm]; exact h)]
  rfl
/-! ### lines -/
theorem Line.det {ks : List Kd} {o : Option Str} {l l2 : List Str} (h : Line ks o l) (h2 : Line ks o l2) : l = l2 := by
  induction h generalizing l2 with
  | nil =>
    cases h2
    rfl
  | cons hk _ ih =>
    cases h2 with
    | cons hk2 hl2 =>
      rw [hk] at hk2
      cases hk2
      rw [ih hl2]
theorem Line.suff {ks : List Kd} {o : Option Str} {l : List Str} (h : Line ks o l) : ∀ x ∈ l, ∃ l2, Line ks (some x) l2 ∧ l2.length ≤ l.length := by
  induction h with
  | nil => exact fun x hx => absurd hx List.not_mem_nil
  | @cons n k l hk hl ih =>
    intro x hx
    rcases List.mem_cons.mp hx with rfl | hx
    · exact ⟨_, .cons hk hl, Nat.le_refl _⟩
    · obtain ⟨l2, a, b⟩ := ih x hx
      exact ⟨l2, a, Nat.le_succ_of_le b⟩
/-- no name comes twice in a line -/
theorem Line.head {ks : List Kd} {n : Str} {k : Kd} {l : List Str} (hk : kdOf ks n = some k) (h : Line ks k.sup l) : n ∉ l := fun hm => by
  obtain ⟨l2, a, b⟩ := h.suff n hm
  have e := a.det (.cons hk h)
  rw [e, List.length_cons] at b
  omega
theorem Line.off {K1 K2 : List Kd} {n : Str} {o : Option Str} {l : List Str} (h : Line K1 o l) (hn : n ∉ l) (he : ∀ x, x ≠ n → kdOf K2 x = kdOf K1 x) : Line K2 o l := by
  induction h with
  | nil => exact .nil
  | @cons x k l hk _ ih =>
    rw [List.mem_cons] at hn
    exact .cons ((he x (fun z => hn (.inl z.symm))).trans hk) (ih fun z => hn (.inr z))
/-- a line that leads through n, where n's own line is another one -/
theorem Line.thru {K1 K2 : List Kd} {n : Str} {o : Option Str} {l ln2 : List Str} (h : Line K1 o l) (hn : n ∈ l) (he : ∀ x, x ≠ n → kdOf K2 x = kdOf K1 x) (h2 : Line K2 (some n) ln2) : ∃ l2, Line K2 o l2 ∧ l2.length ≤ l.length + ln2.length ∧ n ∈ l2 := by
  induction h with
  | nil => exact absurd hn List.not_mem_nil
  | @cons x k l hk _ ih =>
    by_cases hx : x = n
    · subst hx
      refine ⟨ln2, h2, Nat.le_add_left _ _, ?_⟩
      cases h2
      exact List.mem_cons_self
    · obtain ⟨l2, a, b, c⟩ := ih ((List.mem_cons.mp hn).resolve_left fun z => hx z.symm)
      refine ⟨x :: l2, .cons ((he x hx).trans hk) a, ?_, List.mem_cons_of_mem _ c⟩
      rw [List.length_cons, List.length_cons]
      omega
theorem Line.obj {ks : List Lk} : Line (full ks) (some "Object") ["Object"] := .cons (full_kern obj_kern) .nil
theorem Line.kern {ks : List Lk} {n : Str} (h : n ∈ My.kern) : Line (full ks) (some n) (if n = "Object" then ["Object"] else [n, "Object"]) := by
  by_cases e : n = "Object"
  · rw [if_pos e, e]
    exact .obj
  · rw [if_neg e]
    refine .cons (k := ⟨n, some "Object", []⟩) ?_ .obj
    rw [full_kern h, if_neg e]
noncomputable def lnF (ks : List Lk) (x : Str) : List Str := open Classical in if h : ∃ l, Line (full ks) (some x) l then h.choose else []
theorem lnF_of {ks : List Lk} {x : Str} {l : List Str} (h : Line (full ks) (some x) l) : lnF ks x = l := by
  unfold lnF
  rw [dif_pos ⟨l, h⟩]
  exact (Exists.choose_spec (⟨l, h⟩ : ∃ l, Line (full ks) (some x) l)).det h
/-- the law's kinds make a tree -/
structure TR (ks : List Lk) (m : Nat) : Prop where
  nd : (ks.map (·.nm)).Nodup
  nk : ∀ x ∈ ks.map (·.nm), x ∉ kern
  len : ks.length ≤ 5
  fl : ∀ k ∈ ks, k.fs.length ≤ 40
  ab : ∀ k ∈ ks, k.ab = "Object" ∨ k.ab ∈ ks.map (·.nm)
  ln : ∀ x ∈ ks.map (·.nm), ∃ l, Line (full ks) (some x) l ∧ l.length ≤ m
theorem TR.kd {ks : List Lk} {m : Nat} (h : TR ks m) {k : Lk} (hk : k ∈ ks) : kdOf (full ks) k.nm = some k.kd := by
  rw [full_own (h.nk _ (List.mem_map_of_mem hk))]
  exact kd_at h.nd hk rfl
theorem TR.own {ks : List Lk} {m : Nat} (h : TR ks m) {x : Str} (hx : x ∈ ks.map (·.nm) ∨ x = "Object") : ownF ks x = ((kdOf (full ks) x).map (·.fs)).getD [] := by
  rcases hx with hx | rfl
  · obtain ⟨k, hk, rfl⟩ := List.mem_map.mp hx
    unfold ownF
    rw [lkOf_at h.nd hk rfl, h.kd hk]
    rfl
  · unfold ownF
    rw [lkOf_none fun z => h.nk _ z obj_kern, full_kern obj_kern]
    rfl
theorem TR.up {ks : List Lk} {m : Nat} (h : TR ks m) : ∀ {l : List Str} {x : Str}, Line (full ks) (some x) l → (x ∈ ks.map (·.nm) ∨ x = "Object") → (∀ y ∈ l, y ∈ ks.map (·.nm) ∨ y = "Object") ∧ ∀ j, l.length ≤ j → ups ks j x = l ++ List.replicate (j - l.length) ("Object" : Str)
  | [], x, hl, _ => by cases hl
  | _ :: l, x, hl, hx => by
    cases hl with
    | @cons _ k _ hk hl =>
      rcases hx with hx | rfl
      · obtain ⟨q, hq, rfl⟩ := List.mem_map.mp hx
        rw [h.kd hq] at hk
        cases hk
        have hs : q.ab ∈ ks.map (·.nm) ∨ q.ab = "Object" := (h.ab q hq).symm
        obtain ⟨a, b⟩ := TR.up h hl hs
        refine ⟨fun y hy => ?_, fun j hj => ?_⟩
        · rcases List.mem_cons.mp hy with rfl | hy
          · exact .inl hx
          · exact a y hy
        · rw [List.length_cons] at hj
          obtain ⟨i, rfl⟩ : ∃ i, j = i + 1 := ⟨j - 1, by omega⟩
          show q.nm :: ups ks i (abv ks q.nm) = q.nm :: (l ++ List.replicate (i + 1 - (l.length + 1)) ("Object" : Str))
          have e : abv ks q.nm = q.ab := by
            unfold abv
            rw [lkOf_at h.nd hq rfl]
            rfl
          rw [e, b i (by omega), Nat.add_sub_add_right]
      · rw [full_kern obj_kern] at hk
        cases hk
        cases hl
        refine ⟨fun y hy => ?_, fun j hj => ?_⟩
        · rcases List.mem_cons.mp hy with rfl | hy
          · exact .inr rfl
          · exact absurd hy List.not_mem_nil
        · have e : abv ks "Object" = "Object" := by
            unfold abv
            rw [lkOf_none fun z => h.nk _ z obj_kern]
            rfl
          have key : ∀ j, ups ks j "Object" = List.replicate j ("Object" : Str) := by
            intro j
            induction j with
            | zero => rfl
            | succ j ih =>
              show ("Object" : Str) :: ups ks j (abv ks "Object") = _
              rw [e, ih]
              rfl
          rw [key]
          obtain ⟨i, rfl⟩ : ∃ i, j = i + 1 := ⟨j - 1, by rw [List.length_singleton] at hj; omega⟩
          rfl
/-- under another one -/
theorem TR.under {ks : List Lk} {m : Nat} (h : TR ks m) {l : List Str} {x n : Str} (hl : Line (full ks) (some x) l) (hx : x ∈ ks.map (·.nm) ∨ x = "Object") (hz : l.length ≤ 21) (hn : n ∉ kern) : n ∈ ups ks 21 x ↔ n ∈ l := by
  rw [(h.up hl hx).2 21 hz, List.mem_append]
  refine ⟨fun z => z.resolve_right fun y => hn ?_, .inl⟩
  rw [(List.mem_replicate.mp y).2]
  exact obj_kern
theorem TR.all {ks : List Lk} {m : Nat} (h : TR ks m) {l : List Str} {x : Str} (hl : Line (full ks) (some x) l) (hx : x ∈ ks.map (·.nm) ∨ x = "Object") (hz : l.length ≤ 20) : allL ks x = flds (full ks) l := by
  unfold allL flds
  obtain ⟨a, b⟩ := h.up hl hx
  rw [b 20 hz, List.reverse_append, List.flatMap_append]
  have e : ∀ j, (List.replicate j ("Object" : Str)).reverse.flatMap (ownF ks) = [] := by
    intro j
    rw [List.reverse_replicate, List.flatMap_eq_nil_iff]
    intro y hy
    rw [(List.mem_replicate.mp hy).2, h.own (.inr rfl), full_kern obj_kern]
    rfl
  rw [e, List.nil_append]
  have : ∀ l : List Str, (∀ y ∈ l, y ∈ ks.map (·.nm) ∨ y = "Object") → l.flatMap (ownF ks) = l.flatMap (fun n => ((kdOf (full ks) n).map (·.fs)).getD []) := by
    intro l hl
    induction l with
    | nil => rfl
    | cons y r ih =>
      rw [List.flatMap_cons, List.flatMap_cons, ih fun z hz => hl z (List.mem_cons_of_mem _ hz), h.own (hl y List.mem_cons_self)]
  exact this _ fun y hy => a y (List.mem_reverse.mp hy)
theorem flds_le {K1 : List Kd} {c : Nat} (h : ∀ n k, kdOf K1 n = some k → k.fs.length ≤ c) : ∀ l : List Str, (flds K1 l).length ≤ c * l.length
  | [] => Nat.zero_le _
  | x :: l => by
    have ih := flds_le h l
    unfold flds at ih ⊢
    rw [List.reverse_cons, List.flatMap_append, List.length_append, List.flatMap_cons, List.flatMap_nil, List.append_nil, List.length_cons, Nat.mul_succ]
    refine Nat.add_le_add ih ?_
    cases e : kdOf K1 x with
    | none => exact Nat.zero_le _
    | some k => exact h x k e
theorem TR.fle {ks : List Lk} {m : Nat} (h : TR ks m) (l : List Str) : (flds (full ks) l).length ≤ 40 * l.length := by
  refine flds_le (fun n k hk => ?_) l
  by_cases hn : n ∈ kern
  · rw [full_kern hn] at hk
    cases hk
    split <;> exact Nat.zero_le _
  · rw [full_own hn] at hk
    have hm := List.mem_of_find?_eq_some hk
    obtain ⟨q, hq, rfl⟩ := List.mem_map.mp hm
    exact h.fl q hq

/-! ### the plan of the program and that of the law -/
def behindL (ks : List Lk) (n s : Str) (xs : List Str) : List Lk := ks.map fun k => if k.nm = n then ⟨n, s, xs⟩ else k
def lawW (ks : List Lk) (n s : Str) (xs : List Str) : Option Str :=
  if n ∈ kern then some "kernel" else if n ∉ ks.map (·.nm) then some "name" else if s ≠ "Object" ∧ s ∉ ks.map (·.nm) then some "super" else if s ≠ "Object" ∧ n ∈ ups ks 21 s then some "ring" else
    match badF [] xs with
    | some w => some w
    | none => planBad (ks.map (·.nm)) (fun x => decide (n ∈ ups ks 21 x)) (allL (behindL ks n s xs))
def lawR (ks : List Lk) (n s : Str) (xs : List Str) : List Rw3 := planRows (ks.map (·.nm)) (fun x => decide (n ∈ ups ks 21 x)) (allL ks) (allL (behindL ks n s xs))
theorem behind_nm (ks : List Lk) (n s : Str) (xs : List Str) : (behindL ks n s xs).map (·.nm) = ks.map (·.nm) := by
  unfold behindL
  rw [List.map_map]
  refine List.map_congr_left fun k _ => ?_
  show (if k.nm = n then (⟨n, s, xs⟩ : Lk) else k).nm = k.nm
  by_cases h : k.nm = n
  · rw [if_pos h, h]
  · rw [if_neg h]
theorem newKs_full {ks : List Lk} {n s : Str} {xs : List Str} (h : n ∉ kern) : newKs (full ks) n s xs = full (behindL ks n s xs) := by
  unfold newKs full behindL
  rw [List.map_append, List.map_map, List.map_map]
  congr 1
  · have e : ∀ k ∈ kernK, (if k.nm = n then (⟨n, some s, xs⟩ : Kd) else k) = k := fun k hk => if_neg fun z => h (by
      rw [← kernK_nm, ← z]
      exact List.mem_map_of_mem hk)
    exact (List.map_congr_left e).trans (List.map_id' _)
  · refine List.map_congr_left fun k _ => ?_
    show (if k.nm = n then (⟨n, some s, xs⟩ : Kd) else k.kd) = (if k.nm = n then (⟨n, s, xs⟩ : Lk) else k).kd
    by_cases h : k.nm = n
    · rw [if_pos h, if_pos h]
      rfl
    · rw [if_neg h, if_neg h]
theorem behind_off {ks : List Lk} {n s : Str} {xs : List Str} (h : n ∉ kern) (x : Str) (hx : x ≠ n) : kdOf (full (behindL ks n s xs)) x = kdOf (full ks) x := by
  rw [← newKs_full h, newKs_of, if_neg hx]
theorem behind_at {ks : List Lk} {n s : Str} {xs : List Str} (h : n ∉ kern) (hn : n ∈ ks.map (·.nm)) : kdOf (full (behindL ks n s xs)) n = some ⟨n, some s, xs⟩ := by
  rw [← newKs_full h, newKs_of, if_pos rfl]
  obtain ⟨k, hk⟩ := Option.ne_none_iff_exists'.mp (full_in.mpr (.inr hn))
  rw [hk]
  rfl
/-- what stands when nothing of the names is wrong -/
structure Fit (ks : List Lk) (n s : Str) : Prop where
  nk : n ∉ kern
  nn : n ∈ ks.map (·.nm)
  ss : s ∈ ks.map (·.nm) ∨ s = "Object"
  ring : n ∉ lnF ks s
theorem super_iff {ks : List Lk} {m : Nat} (h : TR ks m) {s : Str} : (kdOf (full ks) s = none ∨ (s ∈ kern ∧ s ≠ "Object")) ↔ (s ≠ "Object" ∧ s ∉ ks.map (·.nm)) := by
  constructor
  · rintro (a | ⟨a, b⟩)
    · have : ¬ (s ∈ kern ∨ s ∈ ks.map (·.nm)) := fun z => full_in.mpr z a
      exact ⟨fun z => this (.inl (z ▸ obj_kern)), fun z => this (.inr z)⟩
    · exact ⟨b, fun z => h.nk _ z a⟩
  · rintro ⟨a, b⟩
    by_cases hk : s ∈ kern
    · exact .inr ⟨hk, a⟩
    · exact .inl (Classical.byContradiction fun z => (full_in.mp z).elim hk b)
theorem fit_of {ks : List Lk} {m : Nat} (h : TR ks m) {n s : Str} (c : classW (full ks) (lnF ks) n s = none) : Fit ks n s := by
  unfold classW at c
  by_cases h1 : kdOf (full ks) n = none
  · rw [if_pos h1] at c
    cases c
  rw [if_neg h1] at c
  by_cases h2 : n ∈ kern
  · rw [if_pos h2] at c
    cases c
  rw [if_neg h2] at c
  by_cases h3 : kdOf (full ks) s = none ∨ (s ∈ kern ∧ s ≠ "Object")
  · rw [if_pos h3] at c
    cases c
  rw [if_neg h3] at c
  by_cases h4 : n ∈ lnF ks s
  · rw [if_pos h4] at c
    cases c
  refine ⟨h2, (full_in.mp h1).resolve_left h2, ?_, h4⟩
  rw [super_iff h] at h3
  by_cases h5 : s = "Object"
  · exact .inr h5
  · exact .inl (Classical.byContradiction fun z => h3 ⟨h5, z⟩)
theorem TR.line {ks : List Lk} {m : Nat} (h : TR ks m) (hm : 1 ≤ m) {x : Str} (hx : x ∈ ks.map (·.nm) ∨ x = "Object") : Line (full ks) (some x) (lnF ks x) ∧ (lnF ks x).length ≤ m := by
  rcases hx with hx | rfl
  · obtain ⟨l, a, b⟩ := h.ln x hx
    rw [lnF_of a]
    exact ⟨a, b⟩
  · rw [lnF_of Line.obj]
    exact ⟨Line.obj, hm⟩
theorem behind_line {ks : List Lk} {m : Nat} (h : TR ks m) (hm : 1 ≤ m) {n s : Str} {xs : List Str} (F : Fit ks n s) {x : Str} (hx : x ∈ ks.map (·.nm) ∨ x = "Object") :
    ∃ l, Line (full (behindL ks n s xs)) (some x) l ∧ l.length ≤ 2 * m + 1 ∧ (n ∈ l ↔ n ∈ lnF ks x) ∧ (n ∉ lnF ks x → l = lnF ks x) := by
  have off := fun y (hy : y ≠ n) => behind_off (ks := ks) (s := s) (xs := xs) F.nk y hy
  obtain ⟨a, b⟩ := h.line hm hx
  obtain ⟨a2, b2⟩ := h.line hm F.ss
  by_cases hn : n ∈ lnF ks x
  · have own : Line (full (behindL ks n s xs)) (some n) (n :: lnF ks s) := .cons (behind_at F.nk F.nn) (a2.off F.ring off)
    obtain ⟨l2, c1, c2, c3⟩ := a.thru hn off own
    rw [List.length_cons] at c2
    exact ⟨l2, c1, by omega, ⟨fun _ => hn, fun _ => c3⟩, fun z => absurd hn z⟩
  · exact ⟨_, a.off hn off, by omega, Iff.rfl, fun _ => rfl⟩
theorem behind_TR {ks : List Lk} {m : Nat} (h : TR ks m) (hm : 1 ≤ m) {n s : Str} {xs : List Str} (F : Fit ks n s) (hl : xs.length ≤ 40) : TR (behindL ks n s xs) (2 * m + 1) where
  nd := by
    rw [behind_nm]
    exact h.nd
  nk := by
    rw [behind_nm]
    exact h.nk
  len := by
    unfold behindL
    rw [List.length_map]
    exact h.len
  fl := by
    intro k hk
    unfold behindL at hk
    obtain ⟨q, hq, rfl⟩ := List.mem_map.mp hk
    by_cases e : q.nm = n
    · rw [if_pos e]
      exact hl
    · rw [if_neg e]
      exact h.fl q hq
  ab := by
    rw [behind_nm]
    intro k hk
    unfold behindL at hk
    obtain ⟨q, hq, rfl⟩ := List.mem_map.mp hk
    by_cases e : q.nm = n
    · rw [if_pos e]
      exact F.ss.symm
    · rw [if_neg e]
      exact h.ab q hq
  ln := by
    rw [behind_nm]
    intro x hx
    obtain ⟨l, a, b, _⟩ := behind_line (xs := xs) h hm F (.inl hx)
    exact ⟨l, a, b⟩
theorem kern_not {ks : List Lk} {n x : Str} (hn : n ∉ kern) (hx : x ∈ kern) : n ∉ lnF ks x := by
  rw [lnF_of (Line.kern hx)]
  intro z
  by_cases e : x = "Object"
  · rw [if_pos e] at z
    rw [List.mem_singleton] at z
    exact hn (z ▸ obj_kern)
  · rw [if_neg e] at z
    rcases List.mem_cons.mp z with z | z
    · exact hn (z ▸ hx)
    · rw [List.mem_singleton] at z
      exact hn (z ▸ obj_kern)
theorem planBad_congr {b1 b2 : Str → Bool} {f1 f2 : Str → List Str} : ∀ {ns : List Str}, (∀ x ∈ ns, b1 x = b2 x) → (∀ x ∈ ns, b1 x = true → f1 x = f2 x) → planBad ns b1 f1 = planBad ns b2 f2
  | [], _, _ => rfl
  | x :: r, h1, h2 => by
    unfold planBad
    rw [List.findSome?_cons, List.findSome?_cons]
    have ih := planBad_congr (ns := r) (fun y hy => h1 y (List.mem_cons_of_mem _ hy)) fun y hy => h2 y (List.mem_cons_of_mem _ hy)
    unfold planBad at ih
    rw [ih, ← h1 x List.mem_cons_self]
    by_cases hb : b1 x = true
    · rw [if_pos hb, if_pos hb, h2 x List.mem_cons_self hb]
    · rw [if_neg hb, if_neg hb]
theorem planRows_congr {b1 b2 : Str → Bool} {f1 f2 g1 g2 : Str → List Str} : ∀ {ns : List Str}, (∀ x ∈ ns, b1 x = b2 x) → (∀ x ∈ ns, b1 x = true → f1 x = f2 x ∧ g1 x = g2 x) → planRows ns b1 f1 g1 = planRows ns b2 f2 g2
  | [], _, _ => rfl
  | x :: r, h1, h2 => by
    have ih := planRows_congr (ns := r) (fun y hy => h1 y (List.mem_cons_of_mem _ hy)) fun y hy => h2 y (List.mem_cons_of_mem _ hy)
    unfold planRows at ih ⊢
    rw [List.filter_cons, List.filter_cons, ← h1 x List.mem_cons_self]
    by_cases hb : b1 x = true
    · rw [if_pos hb, if_pos hb, List.map_cons, List.map_cons, ih, (h2 x List.mem_cons_self hb).1, (h2 x List.mem_cons_self hb).2]
    · rw [if_neg hb, if_neg hb, ih]
theorem planBad_off {b : Str → Bool} {f : Str → List Str} {l r : List Str} (h : ∀ x ∈ l, b x = false) : planBad (l ++ r) b f = planBad r b f := by
  induction l with
  | nil => rfl
  | cons x l ih =>
    unfold planBad at ih ⊢
    rw [List.cons_append, List.findSome?_cons, h x List.mem_cons_self]
    exact ih fun y hy => h y (List.mem_cons_of_mem _ hy)
theorem planRows_off {b : Str → Bool} {f g : Str → List Str} {l r : List Str} (h : ∀ x ∈ l, b x = false) : planRows (l ++ r) b f g = planRows r b f g := by
  unfold planRows
  rw [List.filter_append, List.filter_eq_nil_iff.mpr fun x hx => by rw [h x hx]; decide]
  rfl
section
variable {ks : List Lk} {m : Nat} {n s : Str} {xs : List Str}
/-- what is asked of the names below -/
theorem below_iff (h : TR ks m) (hm : 1 ≤ m) (hm2 : m ≤ 20) (F : Fit ks n s) {x : Str} (hx : x ∈ ks.map (·.nm) ∨ x = "Object") : n ∈ ups ks 21 x ↔ n ∈ lnF ks x :=
  h.under (h.line hm hx).1 hx (by have := (h.line hm hx).2; omega) F.nk
theorem planW_law (h : TR ks m) (hm : 1 ≤ m) (hm2 : m ≤ 9) (hl : xs.length ≤ 40) : planW (full ks) n s xs (lnF ks) (lnF (behindL ks n s xs)) = lawW ks n s xs := by
  unfold planW lawW
  by_cases h1 : n ∈ kern
  · rw [if_pos h1]
    have : classW (full ks) (lnF ks) n s = some ("kernel" : Str) := by
      unfold classW
      rw [if_neg (full_in.mpr (.inl h1)), if_pos h1]
    rw [this]
  rw [if_neg h1]
  by_cases h2 : n ∉ ks.map (·.nm)
  · rw [if_pos h2]
    have : classW (full ks) (lnF ks) n s = some ("name" : Str) := by
      unfold classW
      rw [if_pos (Classical.byContradiction fun z => (full_in.mp z).elim h1 h2)]
    rw [this]
  rw [if_neg h2]
  have h2 := Classical.not_not.mp h2
  have e0 : classW (full ks) (lnF ks) n s = if s ≠ "Object" ∧ s ∉ ks.map (·.nm) then some ("super" : Str) else if n ∈ lnF ks s then some ("ring" : Str) else none := by
    unfold classW
    rw [if_neg (full_in.mpr (.inr h2)), if_neg h1]
    by_cases h3 : s ≠ "Object" ∧ s ∉ ks.map (·.nm)
    · rw [if_pos h3, if_pos ((super_iff h).mpr h3)]
    · rw [if_neg h3, if_neg fun z => h3 ((super_iff h).mp z)]
  rw [e0]
  by_cases h3 : s ≠ "Object" ∧ s ∉ ks.map (·.nm)
  · rw [if_pos h3, if_pos h3]
  rw [if_neg h3, if_neg h3]
  have hs : s ∈ ks.map (·.nm) ∨ s = "Object" := by
    by_cases h5 : s = "Object"
    · exact .inr h5
    · exact .inl (Classical.byContradiction fun z => h3 ⟨h5, z⟩)
  have L := h.line hm hs
  have u := h.under L.1 hs (by have := L.2; omega) h1
  by_cases h4 : n ∈ lnF ks s
  · have no : s ≠ "Object" := fun z => by
      rw [z, lnF_of Line.obj, List.mem_singleton] at h4
      exact h1 (h4 ▸ obj_kern)
    rw [if_pos h4, if_pos ⟨no, u.mpr h4⟩]
  rw [if_neg h4, if_neg fun z => h4 (u.mp z.2)]
  have F : Fit ks n s := ⟨h1, h2, hs, h4⟩
  have hB := behind_TR h hm F hl
  dsimp only
  cases badF [] xs with
  | some w => rfl
  | none =>
    dsimp only
    rw [full_nm, planBad_off fun x hx => decide_eq_false (kern_not h1 hx)]
    refine planBad_congr (fun x hx => ?_) fun x hx _ => ?_
    · rw [decide_eq_decide]
      exact (below_iff h hm (by omega) F (.inl hx)).symm
    · rw [newKs_full h1]
      have hx2 : x ∈ (behindL ks n s xs).map (·.nm) ∨ x = "Object" := .inl (by rw [behind_nm]; exact hx)
      have LB := hB.line (by omega) hx2
      exact (hB.all LB.1 hx2 (by have := LB.2; omega)).symm
theorem planR_law (h : TR ks m) (hm : 1 ≤ m) (hm2 : m ≤ 9) (hl : xs.length ≤ 40) (F : Fit ks n s) : planR (full ks) n s xs (lnF ks) (lnF (behindL ks n s xs)) = lawR ks n s xs := by
  unfold planR lawR
  have hB := behind_TR h hm F hl
  rw [full_nm, planRows_off fun x hx => decide_eq_false (kern_not F.nk hx)]
  refine planRows_congr (fun x hx => ?_) fun x hx _ => ⟨?_, ?_⟩
  · rw [decide_eq_decide]
    exact (below_iff h hm (by omega) F (.inl hx)).symm
  · have LB := h.line hm (.inl hx)
    exact (h.all LB.1 (.inl hx) (by have := LB.2; omega)).symm
  · rw [newKs_full F.nk]
    have hx2 : x ∈ (behindL ks n s xs).map (·.nm) ∨ x = "Object" := .inl (by rw [behind_nm]; exact hx)
    have LB := hB.line (by omega) hx2
    exact (hB.all LB.1 hx2 (by have := LB.2; omega)).symm
theorem lawW_fit (h : TR ks m) (hm : 1 ≤ m) (hm2 : m ≤ 9) (hl : xs.length ≤ 40) (w : lawW ks n s xs = none) : Fit ks n s := by
  rw [← planW_law h hm hm2 hl] at w
  refine fit_of h ?_
  unfold planW at w
  cases c : classW (full ks) (lnF ks) n s with
  | none => rfl
  | some y =>
    rw [c] at w
    cases w
/-- all fields of a class are different ones -/
def NDf (ks : List Lk) : Prop := ∀ x ∈ ks.map (·.nm), (allL ks x).Nodup
theorem plan_in (h : TR ks m) (hm : 1 ≤ m) (hm2 : m ≤ 9) (nd : NDf ks) (hl : xs.length ≤ 40) (hx : ∀ x ∈ xs, x.length ≤ 100000) : PlanIn (full ks) n s xs (lnF ks) (lnF (behindL ks n s xs)) where
  nd := by
    rw [full_nm, List.nodup_append]
    exact ⟨by decide +kernel, h.nd, fun a ha b hb e => h.nk b hb (e ▸ ha)⟩
  len := by
    have := h.len
    unfold full
    rw [List.length_append, List.length_map, ← List.length_map (f := (·.nm)) (as := kernK), kernK_nm]
    have : kern.length = 15 := rfl
    omega
  lx := by omega
  hx := hx
  line := by
    intro x hx
    rcases full_in.mp hx with a | a
    · have L := Line.kern (ks := ks) a
      rw [lnF_of L]
      have e : flds (full ks) (if x = "Object" then ["Object"] else [x, "Object"]) = [] := by
        unfold flds
        rw [List.flatMap_eq_nil_iff]
        intro y hy
        have hyk : y ∈ kern := by
          rw [List.mem_reverse] at hy
          by_cases e : x = "Object"
          · rw [if_pos e, List.mem_singleton] at hy
            exact hy ▸ obj_kern
          · rw [if_neg e] at hy
            rcases List.mem_cons.mp hy with z | z
            · exact z ▸ a
            · rw [List.mem_singleton] at z
              exact z ▸ obj_kern
        rw [full_kern hyk]
        split <;> rfl
      rw [e]
      exact ⟨L, by split <;> simp, Nat.zero_le _, List.nodup_nil⟩
    · have L := h.line hm (.inl a)
      refine ⟨L.1, by have := L.2; omega, Nat.le_trans (h.fle _) (by have := L.2; omega), ?_⟩
      rw [← h.all L.1 (.inl a) (by have := L.2; omega)]
      exact nd x a
  line2 := by
    intro c x hx hn
    have F := fit_of h c
    have hB := behind_TR h hm F hl
    have hxn : x ∈ ks.map (·.nm) := (full_in.mp hx).resolve_left fun z => kern_not F.nk z hn
    have L := hB.line (by omega) (x := x) (.inl (by rw [behind_nm]; exact hxn))
    rw [newKs_full F.nk]
    exact ⟨L.1, by have := L.2; omega, Nat.le_trans (hB.fle _) (by have := L.2; omega)⟩
end

/-! ### the kinds that the law draws; changing back -/
def names5 : List Str := ["A", "Bo", "C9", "Dd", "E"]
def fields8 : List Str := ["x", "y", "z", "w", "long1", "v", "u", "t"]
inductive DK : List Lk → Prop
  | nil : DK []
  | snoc {ks : List Lk} {k : Lk} : DK ks → names5[ks.length]? = some k.nm → (k.ab = "Object" ∨ k.ab ∈ ks.map (·.nm)) → k.fs.length ≤ 3 → k.fs.Nodup → (∀ x ∈ k.fs, x ∈ fields8) → (∀ x ∈ k.fs, x ∉ allL ks k.ab) → DK (ks ++ [k])
theorem DK.names {ks : List Lk} (h : DK ks) : ks.map (·.nm) = names5.take ks.length ∧ ks.length ≤ 5 := by
  induction h with
  | nil => exact ⟨rfl, by decide⟩
  | @snoc ks k _ hn _ _ _ _ _ ih =>
    have := (List.getElem?_eq_some_iff.mp hn).1
    refine ⟨?_, ?_⟩
    · rw [List.map_append, ih.1, List.length_append, List.length_singleton, List.take_add_one, hn]
      rfl
    · rw [List.length_append, List.length_singleton]
      exact this
theorem names5_kern : ∀ x ∈ names5, x ∉ kern := by decide +kernel
theorem names5_nd : names5.Nodup := by decide +kernel
theorem full_snoc (ks : List Lk) (k : Lk) : full (ks ++ [k]) = full ks ++ [k.kd] := by
  unfold full
  rw [List.map_append, List.append_assoc]
  rfl
theorem flds_congr {K1 K2 : List Kd} {l : List Str} (h : ∀ x ∈ l, kdOf K1 x = kdOf K2 x) : flds K1 l = flds K2 l := by
  unfold flds
  have : ∀ l : List Str, (∀ x ∈ l, kdOf K1 x = kdOf K2 x) → l.flatMap (fun n => ((kdOf K1 n).map (·.fs)).getD []) = l.flatMap (fun n => ((kdOf K2 n).map (·.fs)).getD []) := by
    intro l hl
    induction l with
    | nil => rfl
    | cons y r ih => rw [List.flatMap_cons, List.flatMap_cons, ih fun z hz => hl z (List.mem_cons_of_mem _ hz), hl y List.mem_cons_self]
  exact this _ fun y hy => h y (List.mem_reverse.mp hy)
theorem flds_cons (K1 : List Kd) (x : Str) (l : List Str) : flds K1 (x :: l) = flds K1 l ++ ((kdOf K1 x).map (·.fs)).getD [] := by
  unfold flds
  rw [List.reverse_cons, List.flatMap_append, List.flatMap_cons, List.flatMap_nil, List.append_nil]
theorem badF_none : ∀ (xs seen : List Str), (∀ x ∈ xs, fieldOk x = true) → (seen ++ xs).Nodup → badF seen xs = none
  | [], _, _, _ => rfl
  | x :: r, seen, h, nd => by
    rw [badF, if_pos (h x List.mem_cons_self)]
    have hx : x ∉ seen := fun z => (List.nodup_append.mp nd).2.2 x z x List.mem_cons_self rfl
    rw [if_neg hx]
    exact badF_none r _ (fun y hy => h y (List.mem_cons_of_mem _ hy)) (by rw [List.append_assoc]; exact nd)
theorem fields8_ok : ∀ x ∈ fields8, fieldOk x = true := by decide +kernel
theorem DK.tree {ks : List Lk} (h : DK ks) : TR ks (ks.length + 1) ∧ NDf ks ∧ ∀ k ∈ ks, k.fs.length ≤ 3 ∧ badF [] k.fs = none ∧ ∀ x ∈ k.fs, x ∈ fields8 := by
  induction h with
  | nil => exact ⟨⟨List.nodup_nil, fun x hx => absurd hx List.not_mem_nil, by decide, fun x hx => absurd hx List.not_mem_nil, fun x hx => absurd hx List.not_mem_nil, fun x hx => absurd hx List.not_mem_nil⟩, fun x hx => absurd hx List.not_mem_nil, fun x hx => absurd hx List.not_mem_nil⟩
  | @snoc ks k hd hn hab h3 hnd h8 hdj ih =>
    obtain ⟨h, nd, hf⟩ := ih
    obtain ⟨e1, e2⟩ := hd.names
    have hin : k.nm ∈ names5 := List.mem_of_getElem? hn
    have hk : k.nm ∉ kern := names5_kern _ hin
    have hno : k.nm ∉ ks.map (·.nm) := by
      rw [e1]
      intro z
      obtain ⟨j, hj⟩ := List.mem_iff_getElem?.mp z
      have jl := (List.getElem?_eq_some_iff.mp hj).1
      rw [List.length_take] at jl
      rw [List.getElem?_take, if_pos (by omega)] at hj
      obtain ⟨l1, g1⟩ := List.getElem?_eq_some_iff.mp hj
      obtain ⟨l2, g2⟩ := List.getElem?_eq_some_iff.mp hn
      have := (List.getElem_inj names5_nd).mp (g1.trans g2.symm)
      omega
    have off : ∀ x, x ≠ k.nm → kdOf (full (ks ++ [k])) x = kdOf (full ks) x := fun x hx => by
      rw [full_snoc, kdOf_app, kdOf_no (ks := [k.kd]) (by rw [List.map_cons, List.map_nil, List.mem_singleton]; exact hx), Option.or_none]
    have here : kdOf (full (ks ++ [k])) k.nm = some k.kd := by
      rw [full_snoc, kdOf_app, kdOf_no (ks := full ks) (by rw [full_nm, List.mem_append]; exact fun z => z.elim hk hno)]
      unfold kdOf
      rw [Option.none_or, List.find?_cons_of_pos (by exact decide_eq_true rfl)]
    have hmem : ∀ x, x ∈ (ks ++ [k]).map (·.nm) ↔ x ∈ ks.map (·.nm) ∨ x = k.nm := fun x => by
      rw [List.map_append, List.mem_append, List.map_cons, List.map_nil, List.mem_singleton]
    have hab' : k.ab ∈ ks.map (·.nm) ∨ k.ab = "Object" := hab.symm
    have nin : ∀ {x : Str}, (x ∈ ks.map (·.nm) ∨ x = "Object") → k.nm ∉ lnF ks x := fun {x} hx z => by
      rcases (h.up (h.line (by omega) hx).1 hx).1 _ z with a | a
      · exact hno a
      · exact hk (a ▸ obj_kern)
    have T : TR (ks ++ [k]) ((ks ++ [k]).length + 1) := by
      refine ⟨?_, ?_, ?_, ?_, ?_, ?_⟩
      · rw [List.map_append, List.nodup_append]
        refine ⟨h.nd, List.nodup_cons.mpr ⟨List.not_mem_nil, List.nodup_nil⟩, fun a ha b hb e => ?_⟩
        rw [List.map_cons, List.map_nil, List.mem_singleton] at hb
        exact hno (hb ▸ e ▸ ha)
      · intro x hx
        rcases (hmem x).mp hx with a | rfl
        · exact h.nk x a
        · exact hk
      · have := (List.getElem?_eq_some_iff.mp hn).1
        rw [List.length_append, List.length_singleton]
        exact this
      · intro q hq
        rcases List.mem_append.mp hq with a | a
        · exact h.fl q a
        · rw [List.mem_singleton] at a
          rw [a]
          omega
      · intro q hq
        rcases List.mem_append.mp hq with a | a
        · exact (h.ab q a).imp id fun z => (hmem _).mpr (.inl z)
        · rw [List.mem_singleton] at a
          rw [a]
          exact hab.imp id fun z => (hmem _).mpr (.inl z)
      · intro x hx
        rw [List.length_append, List.length_singleton]
        rcases (hmem x).mp hx with a | rfl
        · have L := h.line (by omega) (.inl a)
          exact ⟨_, L.1.off (nin (.inl a)) off, by have := L.2; omega⟩
        · have L := h.line (by omega) hab'
          exact ⟨_, .cons here (L.1.off (nin hab') off), by rw [List.length_cons]; have := L.2; omega⟩
    refine ⟨T, ?_, ?_⟩
    · intro x hx
      have hl5 : (ks ++ [k]).length ≤ 5 := T.len
      have LT := T.line (by omega) (.inl hx)
      rw [T.all LT.1 (.inl hx) (by have := LT.2; omega)]
      rw [List.length_append, List.length_singleton] at hl5
      have cg : ∀ {y : Str}, (y ∈ ks.map (·.nm) ∨ y = "Object") → flds (full (ks ++ [k])) (lnF ks y) = allL ks y := fun {y} hy => by
        have L := h.line (by omega) hy
        rw [h.all L.1 hy (by have := L.2; omega)]
        exact flds_congr fun z hz => off z fun e => nin hy (e ▸ hz)
      rcases (hmem x).mp hx with a | rfl
      · rw [lnF_of ((h.line (by omega) (.inl a)).1.off (nin (.inl a)) off), cg (.inl a)]
        exact nd x a
      · rw [lnF_of (.cons here ((h.line (by omega) hab').1.off (nin hab') off)), flds_cons, here, cg hab', List.nodup_append]
        refine ⟨?_, hnd, fun a ha b hb e => hdj b hb (e ▸ ha)⟩
        rcases hab' with a | a
        · exact nd _ a
        · have L := h.line (by omega) (.inr a)
          rw [a] at L ⊢
          rw [h.all L.1 (.inr rfl) (by have := L.2; omega), lnF_of Line.obj]
          have : flds (full ks) ["Object"] = [] := by
            rw [flds_cons, full_kern obj_kern]
            rfl
          rw [this]
          exact List.nodup_nil
    · intro q hq
      rcases List.mem_append.mp hq with a | a
      · exact hf q a
      · rw [List.mem_singleton] at a
        rw [a]
        exact ⟨h3, badF_none _ _ (fun x hx => fields8_ok x (h8 x hx)) (by rw [List.nil_append]; exact hnd), h8⟩
theorem dist_nd (xs : List Str) : ∀ i, i ≤ xs.length → (distN xs i = i ↔ (xs.take i).Nodup)
  | 0, _ => ⟨fun _ => by rw [List.take_zero]; exact List.nodup_nil, fun _ => rfl⟩
  | i + 1, h => by
    have ih := dist_nd xs i (by omega)
    have hle := distN_le xs i
    have e : xs.getD i Str.empty = xs[i] := by
      rw [List.getD_eq_getElem?_getD, List.getElem?_eq_getElem (by omega)]
      rfl
    rw [distN, e, List.take_add_one, List.getElem?_eq_getElem (by omega), Option.toList_some, List.nodup_append]
    by_cases ha : (xs.take i).any (· == xs[i]) = true
    · rw [if_pos ha]
      obtain ⟨y, hy, hy2⟩ := List.any_eq_true.mp ha
      have hy3 : y = xs[i] := eq_of_beq hy2
      exact ⟨fun z => by omega, fun z => absurd hy3 (z.2.2 y hy xs[i] List.mem_cons_self)⟩
    · rw [if_neg ha]
      refine ⟨fun z => ⟨ih.mp (by omega), List.nodup_cons.mpr ⟨List.not_mem_nil, List.nodup_nil⟩, fun a hm b hb e => ?_⟩, fun z => by rw [ih.mpr z.1]⟩
      rw [List.mem_singleton] at hb
      exact ha (List.any_eq_true.mpr ⟨a, hm, by rw [e, hb]; exact beq_self_eq_true _⟩)
theorem bad1_nd {xs : List Str} (h : bad1 xs = none) : xs.Nodup ∧ xs.length ≤ 32 := by
  unfold bad1 at h
  by_cases h1 : distN xs xs.length < xs.length
  · rw [if_pos h1] at h
    cases h
  rw [if_neg h1] at h
  by_cases h2 : 32 < xs.length
  · rw [if_pos h2] at h
    cases h
  have := (dist_nd xs xs.length (Nat.le_refl _)).mp (by have := distN_le xs xs.length; omega)
  rw [List.take_length] at this
  exact ⟨this, by omega⟩
theorem bad1_ok {xs : List Str} (h : xs.Nodup) (h2 : xs.length ≤ 32) : bad1 xs = none := by
  have := (dist_nd xs xs.length (Nat.le_refl _)).mpr (by rw [List.take_length]; exact h)
  unfold bad1
  rw [if_neg (by omega), if_neg (by omega)]
theorem planBad_none {b : Str → Bool} {f : Str → List Str} : ∀ {ns : List Str}, planBad ns b f = none ↔ ∀ x ∈ ns, b x = true → bad1 (f x) = none := by
  intro ns
  unfold planBad
  rw [List.findSome?_eq_none_iff]
  constructor
  · intro h x hx hb
    have := h x hx
    rw [if_pos hb] at this
    exact this
  · intro h x hx
    by_cases hb : b x = true
    · rw [if_pos hb]
      exact h x hx hb
    · rw [if_neg hb]
theorem nm_inj {ks : List Lk} (nd : (ks.map (·.nm)).Nodup) {k q : Lk} (hk : k ∈ ks) (hq : q ∈ ks) (e : q.nm = k.nm) : q = k := by
  have h1 := lkOf_at nd hk rfl
  rw [lkOf_at nd hq e] at h1
  exact Option.some.inj h1
theorem behind_back {ks : List Lk} (nd : (ks.map (·.nm)).Nodup) {k : Lk} (hk : k ∈ ks) (s : Str) (xs : List Str) : behindL (behindL ks k.nm s xs) k.nm k.ab k.fs = ks := by
  unfold behindL
  rw [List.map_map]
  have : ∀ q ∈ ks, ((fun q : Lk => if q.nm = k.nm then (⟨k.nm, k.ab, k.fs⟩ : Lk) else q) ∘ fun q => if q.nm = k.nm then (⟨k.nm, s, xs⟩ : Lk) else q) q = q := fun q hq => by
    show (if (if q.nm = k.nm then (⟨k.nm, s, xs⟩ : Lk) else q).nm = k.nm then (⟨k.nm, k.ab, k.fs⟩ : Lk) else (if q.nm = k.nm then (⟨k.nm, s, xs⟩ : Lk) else q)) = q
    by_cases e : q.nm = k.nm
    · rw [if_pos e, if_pos rfl, nm_inj nd hk hq e]
    · rw [if_neg e, if_neg e]
  exact (List.map_congr_left this).trans (List.map_id' _)
/-- behind a change that is made -/
structure Behind (ks : List Lk) (k : Lk) (s : Str) (xs : List Str) : Prop where
  tr : ∃ m, 1 ≤ m ∧ m ≤ 13 ∧ TR (behindL ks k.nm s xs) m
  nd : NDf (behindL ks k.nm s xs)
  w : lawW (behindL ks k.nm s xs) k.nm k.ab k.fs = none
  r : lawR (behindL ks k.nm s xs) k.nm k.ab k.fs = (lawR ks k.nm s xs).map fun w => (w.1, w.2.2, w.2.1)
theorem DK.behind {ks : List Lk} (D : DK ks) {k : Lk} (hk : k ∈ ks) {s : Str} {xs : List Str} (hl : xs.length ≤ 40) (w : lawW ks k.nm s xs = none) : Behind ks k s xs := by
  obtain ⟨h, nd, hf⟩ := D.tree
  have h5 := h.len
  have F := lawW_fit h (by omega) (by omega) hl w
  have hB := behind_TR (xs := xs) h (by omega) F hl
  have off := fun y (hy : y ≠ k.nm) => behind_off (ks := ks) (s := s) (xs := xs) F.nk y hy
  have hkn : k.nm ∈ ks.map (·.nm) := List.mem_map_of_mem hk
  have bn : ∀ x, x ∈ (behindL ks k.nm s xs).map (·.nm) ↔ x ∈ ks.map (·.nm) := fun x => by rw [behind_nm]
  have pb : planBad (ks.map (·.nm)) (fun x => decide (k.nm ∈ ups ks 21 x)) (allL (behindL ks k.nm s xs)) = none := by
    unfold lawW at w
    by_cases h1 : k.nm ∈ kern
    · exact absurd h1 F.nk
    rw [if_neg h1] at w
    by_cases h2 : k.nm ∉ ks.map (·.nm)
    · exact absurd hkn h2
    rw [if_neg h2] at w
    by_cases h3 : s ≠ "Object" ∧ s ∉ ks.map (·.nm)
    · rw [if_pos h3] at w
      cases w
    rw [if_neg h3] at w
    by_cases h4 : s ≠ "Object" ∧ k.nm ∈ ups ks 21 s
    · rw [if_pos h4] at w
      cases w
    rw [if_neg h4] at w
    cases hb : badF [] xs with
    | none =>
      rw [hb] at w
      exact w
    | some y =>
      rw [hb] at w
      cases w
  have lineB : ∀ {x : Str}, x ∈ ks.map (·.nm) → Line (full (behindL ks k.nm s xs)) (some x) (lnF (behindL ks k.nm s xs) x) ∧ (k.nm ∈ lnF (behindL ks k.nm s xs) x ↔ k.nm ∈ lnF ks x) ∧ (k.nm ∉ lnF ks x → lnF (behindL ks k.nm s xs) x = lnF ks x) := fun {x} hx => by
    obtain ⟨l, a, _, c, d⟩ := behind_line (xs := xs) h (by omega) F (.inl hx)
    rw [lnF_of a]
    exact ⟨a, c, d⟩
  have ndB : NDf (behindL ks k.nm s xs) := by
    intro x hx
    have hx' := (bn x).mp hx
    by_cases hn : k.nm ∈ lnF ks x
    · exact (bad1_nd (planBad_none.mp pb x hx' (decide_eq_true ((below_iff h (by omega) (by omega) F (.inl hx')).mpr hn)))).1
    · have L := hB.line (by omega) (.inl hx)
      have L0 := h.line (by omega) (.inl hx')
      rw [hB.all L.1 (.inl hx) (by have := L.2; omega), (lineB hx').2.2 hn, flds_congr (K2 := full ks) fun z hz => off z fun e => hn (e ▸ hz), ← h.all L0.1 (.inl hx') (by have := L0.2; omega)]
      exact nd x hx'
  have hab : k.ab ∈ ks.map (·.nm) ∨ k.ab = "Object" := (h.ab k hk).symm
  have La := h.line (by omega) hab
  have nab : k.nm ∉ lnF ks k.ab := Line.head (h.kd hk) La.1
  have LaB : Line (full (behindL ks k.nm s xs)) (some k.ab) (lnF ks k.ab) := La.1.off nab off
  have FB : Fit (behindL ks k.nm s xs) k.nm k.ab := ⟨F.nk, (bn _).mpr hkn, hab.imp (bn _).mpr id, by rw [lnF_of LaB]; exact nab⟩
  have bel : ∀ x ∈ ks.map (·.nm), decide (k.nm ∈ ups (behindL ks k.nm s xs) 21 x) = decide (k.nm ∈ ups ks 21 x) := fun x hx => by
    rw [decide_eq_decide, below_iff h (by omega) (by omega) F (.inl hx), below_iff hB (by omega) (by omega) FB (.inl ((bn x).mpr hx)), (lineB hx).2.1]
  refine ⟨⟨_, by omega, by omega, hB⟩, ndB, ?_, ?_⟩
  · unfold lawW
    rw [if_neg F.nk, behind_nm, if_neg (fun z => z hkn), if_neg (fun z => hab.elim z.2 z.1), if_neg, (hf k hk).2.1]
    · dsimp only
      rw [behind_back h.nd hk, planBad_none]
      intro x hx _
      have L0 := h.line (by omega) (.inl hx)
      refine bad1_ok (nd x hx) ?_
      rw [h.all L0.1 (.inl hx) (by have := L0.2; omega)]
      have := flds_le (K1 := full ks) (c := 3) (fun n q hq => by
        by_cases hn : n ∈ kern
        · rw [full_kern hn] at hq
          cases hq
          split <;> exact Nat.zero_le _
        · rw [full_own hn] at hq
          obtain ⟨q2, hq2, rfl⟩ := List.mem_map.mp (List.mem_of_find?_eq_some hq)
          exact (hf q2 hq2).1) (lnF ks x)
      have := L0.2
      omega
    · rintro ⟨a, b⟩
      have := (hB.under LaB (hab.imp (bn _).mpr id) (by have := La.2; omega) F.nk).mp b
      exact nab this
  · unfold lawR
    rw [behind_nm, behind_back h.nd hk]
    unfold planRows
    rw [List.map_map, List.filter_congr bel]
    rfl

def But (p : Addr) (H H' : Hp) : Prop := ∀ q, q ≠ p → H' q = H q
/-- the drawing's list at p, the script at a -/
def Dr (K : PySem.W.Frag) (H : Hp) (p a : Addr) : Prop := ∃ (ns : List Int) (i : Nat) (d : Int), H p = some (.lst [.int i, .int d]) ∧ 0 ≤ d ∧ SqL K H a (ns.map V.int) ∧ (a ≠ p ∨ ∀ G, SqL K G a (ns.map V.int))
theorem Dr.scr {K : PySem.W.Frag} {H H' : Hp} {p a : Addr} {ns : List Int} (h : SqL K H a (ns.map V.int)) (h2 : a ≠ p ∨ ∀ G, SqL K G a (ns.map V.int)) (b : But p H H') : SqL K H' a (ns.map V.int) := by
  rcases h2 with h2 | h2
  · rcases h with h | h
    · refine .inl ?_
      unfold Rd at h ⊢
      rw [b a h2]
      exact h
    · exact .inr h
  · exact h2 H'
def sp_ldraw (K : PySem.W.Frag) : Sp := fun vs H Q _ => ∃ (p a : Addr) (n : Nat), vs = [.ref p, .ref a, .int (n : Nat)] ∧ Dr K H p a ∧ 0 < n ∧ n < 1000000 ∧ ∀ (d : Nat) H', d < n → Dr K H' p a → But p H H' → Q (.int (d : Nat)) H'
theorem sp_ldraw_len {K vs H Q E} (h : sp_ldraw K vs H Q E) : vs.length = (["state", "script", "size"] : List Str).length := by
  obtain ⟨_, _, _, rfl, _⟩ := h
  rfl
section
variable {P : Program} {w : World} {K : PySem.W.Frag} {mg : Str → Option Value} {base : Heap} {A : Ad}
theorem ok__law_draw (T : Txt K mg A) : FnOk P w K mg base CX0 1 A.f__law_draw A.d__law_draw ["state", "script", "size"] (sp_ldraw K) := by
  refine Fun.ok T.F__law_draw sc__law_draw (fun vs H Q E h => ?_) (fun cdv Ar outer s H vs Q E hr h => ?_)
  · exact sp_ldraw_len h
  · have hu := hu_of hr
    refine ⟨_, (Evl.pss_cut (ps_if (pt_cmpR op_eq (pe_ix ix_lstM (pv 0) pe_int (fun _ _ => rfl)) pe_int (nomark _)) (pss_cons (ps_asg pe_int (pg_name (i := 3) sc__law_draw.nd rfl (Or.inl rfl)))
    (Evl.pss_cut (ps_if (pt_cmpR op_gt (pe_callB call_len_seq (by rfl) T.z_len PySem.boot_len (pa_cons (pv 1) pa_nil)) pe_int (nomark _)) (pss_one (ps_asg (pe_ix ix_list (pv 1) (pe_op op_mod (pe_ix ix_lstM (pv 0) pe_int (fun _ _ => rfl)) (pe_callB call_len_seq (by rfl) T.z_len PySem.boot_len (pa_cons (pv 1) pa_nil))) (fun _ _ => rfl)) (pg_name (i := 3) sc__law_draw.nd rfl (Or.inl rfl)))) pss_nil)
    (Evl.pss_cut (ps_if (pt_cmpR op_lt (pv 3) pe_int (nomark _)) (pss_one (ps_asg (pe_op op_sub pe_int (pe_op op_mul pe_int (pv 3))) (pg_name (i := 3) sc__law_draw.nd rfl (Or.inl rfl)))) pss_nil)
    (pss_cons (ps_asg (pe_op op_mod (pe_callTy call_intI (by rfl) T.z_int (by decide +kernel) (pa_cons (pe_op op_mul (pe_op op_add (pe_op op_add (pv 3) (pe_op op_mul (pe_ix ix_lstM (pv 0) pe_int (fun _ _ => rfl)) pe_int)) pe_int) pe_int) pa_nil)) pe_int) (pg_name (i := 4) sc__law_draw.nd rfl (Or.inl rfl)))
    (pss_cons (ps_asg (pe_op op_mod (pe_callTy call_intI (by rfl) T.z_int (by decide +kernel) (pa_cons (pe_op op_add (pe_op op_mul (pv 4) pe_int) (pe_op op_mul (pe_ix ix_lstM (pv 0) pe_int (fun _ _ => rfl)) pe_int)) pa_nil)) pe_int) (pg_sub (pv 0) pe_int set_lstM))
    (Evl.pss_cut (ps_if (PW.pt (pw_and (pt_cmpR op_ge (pv 3) (pe_op op_pow pe_int pe_int) (nomark _)) (pw_and1 (pt_cmpR op_lt (pe_ix ix_lstM (pv 0) pe_int (fun _ _ => rfl)) (pe_callB call_len_seq (by rfl) T.z_len PySem.boot_len (pa_cons (pv 1) pa_nil)) (nomark _))))) (pss_one (ps_asg (pv 3) (pg_sub (pv 0) pe_int set_lstM))) pss_nil)
    (pss_one (ps_asg (pe_op op_add (pe_ix ix_lstM (pv 0) pe_int (fun _ _ => rfl)) pe_int) (pg_sub (pv 0) pe_int set_lstM))))))))) pss_nil)
    (pss_cons (ps_asg (pe_op op_mod (pe_callTy call_intI (by rfl) T.z_int (by decide +kernel) (pa_cons (pe_ix ix_lstM (pv 0) pe_int (fun _ _ => rfl)) pa_nil)) (pv 2)) (pg_name (i := 5) sc__law_draw.nd rfl (Or.inl rfl)))
    (pss_cons (ps_asg (pe_op op_fdiv (pe_ix ix_lstM (pv 0) pe_int (fun _ _ => rfl)) (pv 2)) (pg_sub (pv 0) pe_int set_lstM))
    (pss_one (ps_ret (pv 5)))))), ?_⟩
    obtain ⟨p, a, n, rfl, ⟨ns, i, d0, hp, hd0, ha, ha2⟩, hn0, hn1, k⟩ := h
    refine ⟨fun σ' H' => ∃ (c3 c4 : Option V) (i2 : Nat) (d2 : Int), σ' = [some (.ref p), some (.ref a), some (.int (n : Nat)), c3, c4, none] ∧ H' p = some (.lst [.int i2, .int d2]) ∧ 0 ≤ d2 ∧ But p H H', ?_, ?_⟩
    · simp (config := { maxSteps := 4000000 }) only [tSeq, tNext, tDrop, tRet, tRetN, tIfS, tAsg, tTest, tAnd, tOr, tNot, tAndV, tOrV, tNotV, tIf, tOp, tUn, tVar, tC, tCB, tCons, tNil, tCall, tPart, tNoPart, tM0, tM1, tTup, tLst, tB, tIsN, tNotN, rI0, rI, rU, rEq, rNe, rAdd, gName, gTup, gCons, gNil, gSub, rSetL, rIxL, rIxT, rIxS, L2.start,
      List.map_cons, List.map_nil, List.cons_append, List.nil_append, List.append_nil, List.length_cons, List.length_nil, List.replicate, List.getElem?_cons_zero, List.getElem?_cons_succ, List.set_cons_zero, List.set_cons_succ, Nat.reduceAdd, Nat.reduceSub, Nat.sub_self, Nat.zero_add,
      Option.some.injEq, V.int.injEq, V.str.injEq, V.bl.injEq, V.ref.injEq, V.ty.injEq, List.cons.injEq, and_true, true_and, exists_eq_left, exists_eq_left', exists_eq_right, exists_and_left, exists_and_right, exists_const, decide_eq_true_eq, decide_eq_false_iff_not, if_true, if_false, reduceIte, Bool.false_eq_true, Bool.not_eq_true', sc_ii, sc_ss, sc_bb, str1, cx_K, lstAt, rIxM, rSetM, rLenM, atI_0, atI_1, atI_2, atI_3, setI_0, setI_1, setI_2, setI_3, upd_same, upd_upd, ite_true, ite_false, exists_eq', eq_self, and_assoc, rIsS, isTy_bb, isTy_bi, isTy_ib, isTy_ii, isTy_ss, isTy_nb, isTy_ni, Bool.not_true, Bool.not_false, not_true_eq_false, not_false_eq_true, tChain, tRz1, tRz2, rIsX, tFx, tMethE, tCallS, tCallZ, tMeth, tMake, tFld, sFld, HO.ins.injEq, HO.lst.injEq, HO.dK.injEq, HO.tup.injEq, dcAt, dcRd, rDInM, rDGetM, rDSetM, rDLenM, keyOf_int, keyOf_str, rIsBM, plainV_b, plainV_i, plainV_n, plainV_s, rInM, rListM, rSortM, rSumM, rIsD, tBMM, tBM0M, tSl, rSlM, rAppend, rPop, rClear, wAs, reduceCtorEq, false_implies, true_implies, implies_true, forall_const, cxH_K, clsV_ref, clsV_ty, HO.xd.injEq, Value.ref.injEq, lkc, lkn, pfn, pfc, List.map_nil, rExtend, rCat, rRep, tMethE0, rSortD, rPush, rPopH, tDGetM, gAll, iRev, tCB, sDDel, wPair, tBreak, tDelT, rDLenR, tMethN, hp]
      refine ite2 (fun h0 => ?_) (fun _ => ⟨⟨i, rfl⟩, hd0, fun _ _ => rfl⟩)
      have hcell : ∀ (z : Int) (c : Option V), (∃ z2 : Int, c = some (.int z2)) → True := fun _ _ _ => trivial
      refine ⟨fun σ' H' => ∃ z : Int, σ' = [some (.ref p), some (.ref a), some (.int (n : Nat)), some (.int z), none, none] ∧ H' = H, ?_, ?_⟩
      · simp (config := { maxSteps := 4000000 }) only [tSeq, tNext, tDrop, tRet, tRetN, tIfS, tAsg, tTest, tAnd, tOr, tNot, tAndV, tOrV, tNotV, tIf, tOp, tUn, tVar, tC, tCB, tCons, tNil, tCall, tPart, tNoPart, tM0, tM1, tTup, tLst, tB, tIsN, tNotN, rI0, rI, rU, rEq, rNe, rAdd, gName, gTup, gCons, gNil, gSub, rSetL, rIxL, rIxT, rIxS, L2.start,
      List.map_cons, List.map_nil, List.cons_append, List.nil_append, List.append_nil, List.length_cons, List.length_nil, List.replicate, List.getElem?_cons_zero, List.getElem?_cons_succ, List.set_cons_zero, List.set_cons_succ, Nat.reduceAdd, Nat.reduceSub, Nat.sub_self, Nat.zero_add,
      Option.some.injEq, V.int.injEq, V.str.injEq, V.bl.injEq, V.ref.injEq, V.ty.injEq, List.cons.injEq, and_true, true_and, exists_eq_left, exists_eq_left', exists_eq_right, exists_and_left, exists_and_right, exists_const, decide_eq_true_eq, decide_eq_false_iff_not, if_true, if_false, reduceIte, Bool.false_eq_true, Bool.not_eq_true', sc_ii, sc_ss, sc_bb, str1, cx_K, lstAt, rIxM, rSetM, rLenM, atI_0, atI_1, atI_2, atI_3, setI_0, setI_1, setI_2, setI_3, upd_same, upd_upd, ite_true, ite_false, exists_eq', eq_self, and_assoc, rIsS, isTy_bb, isTy_bi, isTy_ib, isTy_ii, isTy_ss, isTy_nb, isTy_ni, Bool.not_true, Bool.not_false, not_true_eq_false, not_false_eq_true, tChain, tRz1, tRz2, rIsX, tFx, tMethE, tCallS, tCallZ, tMeth, tMake, tFld, sFld, HO.ins.injEq, HO.lst.injEq, HO.dK.injEq, HO.tup.injEq, dcAt, dcRd, rDInM, rDGetM, rDSetM, rDLenM, keyOf_int, keyOf_str, rIsBM, plainV_b, plainV_i, plainV_n, plainV_s, rInM, rListM, rSortM, rSumM, rIsD, tBMM, tBM0M, tSl, rSlM, rAppend, rPop, rClear, wAs, reduceCtorEq, false_implies, true_implies, implies_true, forall_const, cxH_K, clsV_ref, clsV_ty, HO.xd.injEq, Value.ref.injEq, lkc, lkn, pfn, pfc, List.map_nil, rExtend, rCat, rRep, tMethE0, rSortD, rPush, rPopH, tDGetM, gAll, iRev, tCB, sDDel, wPair, tBreak, tDelT, rDLenR, tMethN, hp]
        refine ⟨_, .inl ha, ite2 (fun h2 => ?_) (fun h2 => trivial)⟩
        rw [List.length_map] at h2
        have hl : 0 < ns.length := by omega
        have hm := Int.emod_nonneg (i : Int) (show ((ns.length : Nat) : Int) ≠ 0 by omega)
        have hm2 := Int.emod_lt_of_pos (i : Int) (show (0 : Int) < ((ns.length : Nat) : Int) by omega)
        obtain ⟨q, hq⟩ := Int.eq_ofNat_of_zero_le hm
        rw [hq] at hm2
        have hql : q < ns.length := by omega
        have hat : atI (ns.map V.int) ((q : Nat) : Int) = some (.int ns[q]) := atI_nat (by rw [List.getElem?_map, List.getElem?_eq_getElem hql]; rfl)
        refine ⟨_, .inl ha, by rw [List.length_map]; omega, _, ha, V.int ns[q], ?_, ns[q], rfl⟩
        rw [List.length_map, hq]
        exact hat
      rintro σ' G ⟨z, rfl, e⟩
      subst e
      refine ⟨fun σ' G2 => ∃ z : Int, σ' = [some (.ref p), some (.ref a), some (.int (n : Nat)), some (.int z), none, none] ∧ G2 = G ∧ 0 ≤ z, ?_, ?_⟩
      · simp (config := { maxSteps := 4000000 }) only [tSeq, tNext, tDrop, tRet, tRetN, tIfS, tAsg, tTest, tAnd, tOr, tNot, tAndV, tOrV, tNotV, tIf, tOp, tUn, tVar, tC, tCB, tCons, tNil, tCall, tPart, tNoPart, tM0, tM1, tTup, tLst, tB, tIsN, tNotN, rI0, rI, rU, rEq, rNe, rAdd, gName, gTup, gCons, gNil, gSub, rSetL, rIxL, rIxT, rIxS, L2.start,
      List.map_cons, List.map_nil, List.cons_append, List.nil_append, List.append_nil, List.length_cons, List.length_nil, List.replicate, List.getElem?_cons_zero, List.getElem?_cons_succ, List.set_cons_zero, List.set_cons_succ, Nat.reduceAdd, Nat.reduceSub, Nat.sub_self, Nat.zero_add,
      Option.some.injEq, V.int.injEq, V.str.injEq, V.bl.injEq, V.ref.injEq, V.ty.injEq, List.cons.injEq, and_true, true_and, exists_eq_left, exists_eq_left', exists_eq_right, exists_and_left, exists_and_right, exists_const, decide_eq_true_eq, decide_eq_false_iff_not, if_true, if_false, reduceIte, Bool.false_eq_true, Bool.not_eq_true', sc_ii, sc_ss, sc_bb, str1, cx_K, lstAt, rIxM, rSetM, rLenM, atI_0, atI_1, atI_2, atI_3, setI_0, setI_1, setI_2, setI_3, upd_same, upd_upd, ite_true, ite_false, exists_eq', eq_self, and_assoc, rIsS, isTy_bb, isTy_bi, isTy_ib, isTy_ii, isTy_ss, isTy_nb, isTy_ni, Bool.not_true, Bool.not_false, not_true_eq_false, not_false_eq_true, tChain, tRz1, tRz2, rIsX, tFx, tMethE, tCallS, tCallZ, tMeth, tMake, tFld, sFld, HO.ins.injEq, HO.lst.injEq, HO.dK.injEq, HO.tup.injEq, dcAt, dcRd, rDInM, rDGetM, rDSetM, rDLenM, keyOf_int, keyOf_str, rIsBM, plainV_b, plainV_i, plainV_n, plainV_s, rInM, rListM, rSortM, rSumM, rIsD, tBMM, tBM0M, tSl, rSlM, rAppend, rPop, rClear, wAs, reduceCtorEq, false_implies, true_implies, implies_true, forall_const, cxH_K, clsV_ref, clsV_ty, HO.xd.injEq, Value.ref.injEq, lkc, lkn, pfn, pfc, List.map_nil, rExtend, rCat, rRep, tMethE0, rSortD, rPush, rPopH, tDGetM, gAll, iRev, tCB, sDDel, wPair, tBreak, tDelT, rDLenR, tMethN, hp]
        refine ite2 (fun h => ⟨.inl ⟨by decide, by decide⟩, by omega⟩) (fun h => by omega)
      rintro σ' G2 ⟨z, rfl, e, hz⟩
      subst e
      simp (config := { maxSteps := 4000000 }) only [tSeq, tNext, tDrop, tRet, tRetN, tIfS, tAsg, tTest, tAnd, tOr, tNot, tAndV, tOrV, tNotV, tIf, tOp, tUn, tVar, tC, tCB, tCons, tNil, tCall, tPart, tNoPart, tM0, tM1, tTup, tLst, tB, tIsN, tNotN, rI0, rI, rU, rEq, rNe, rAdd, gName, gTup, gCons, gNil, gSub, rSetL, rIxL, rIxT, rIxS, L2.start,
      List.map_cons, List.map_nil, List.cons_append, List.nil_append, List.append_nil, List.length_cons, List.length_nil, List.replicate, List.getElem?_cons_zero, List.getElem?_cons_succ, List.set_cons_zero, List.set_cons_succ, Nat.reduceAdd, Nat.reduceSub, Nat.sub_self, Nat.zero_add,
      Option.some.injEq, V.int.injEq, V.str.injEq, V.bl.injEq, V.ref.injEq, V.ty.injEq, List.cons.injEq, and_true, true_and, exists_eq_left, exists_eq_left', exists_eq_right, exists_and_left, exists_and_right, exists_const, decide_eq_true_eq, decide_eq_false_iff_not, if_true, if_false, reduceIte, Bool.false_eq_true, Bool.not_eq_true', sc_ii, sc_ss, sc_bb, str1, cx_K, lstAt, rIxM, rSetM, rLenM, atI_0, atI_1, atI_2, atI_3, setI_0, setI_1, setI_2, setI_3, upd_same, upd_upd, ite_true, ite_false, exists_eq', eq_self, and_assoc, rIsS, isTy_bb, isTy_bi, isTy_ib, isTy_ii, isTy_ss, isTy_nb, isTy_ni, Bool.not_true, Bool.not_false, not_true_eq_false, not_false_eq_true, tChain, tRz1, tRz2, rIsX, tFx, tMethE, tCallS, tCallZ, tMeth, tMake, tFld, sFld, HO.ins.injEq, HO.lst.injEq, HO.dK.injEq, HO.tup.injEq, dcAt, dcRd, rDInM, rDGetM, rDSetM, rDLenM, keyOf_int, keyOf_str, rIsBM, plainV_b, plainV_i, plainV_n, plainV_s, rInM, rListM, rSortM, rSumM, rIsD, tBMM, tBM0M, tSl, rSlM, rAppend, rPop, rClear, wAs, reduceCtorEq, false_implies, true_implies, implies_true, forall_const, cxH_K, clsV_ref, clsV_ty, HO.xd.injEq, Value.ref.injEq, lkc, lkn, pfn, pfc, List.map_nil, rExtend, rCat, rRep, tMethE0, rSortD, rPush, rPopH, tDGetM, gAll, iRev, tCB, sDDel, wPair, tBreak, tDelT, rDLenR, tMethN, hp]
      refine ⟨.inr ⟨by decide, by decide⟩, .inr ⟨by decide, by decide⟩, by decide, .inr ⟨by decide, by decide⟩, .inr ⟨by decide, by decide⟩, by decide, ?_⟩
      have hd4 := Int.emod_nonneg ((z + (i : Int) * 7919 + 1) * 48271 % 2147483647 * 69621 + (i : Int) * 104729) (show (4294967291 : Int) ≠ 0 by decide)
      generalize ((z + (i : Int) * 7919 + 1) * 48271 % 2147483647 * 69621 + (i : Int) * 104729) % 4294967291 = d4 at hd4 ⊢
      generalize ((z + (i : Int) * 7919 + 1) * 48271 % 2147483647) = m4
      refine ⟨fun σ' G3 => ∃ (d3 : Int), σ' = [some (.ref p), some (.ref a), some (.int (n : Nat)), some (.int z), some (.int m4), none] ∧ G3 p = some (.lst [.int i, .int d3]) ∧ 0 ≤ d3 ∧ But p G2 G3, ?_, ?_⟩
      · simp (config := { maxSteps := 4000000 }) only [tSeq, tNext, tDrop, tRet, tRetN, tIfS, tAsg, tTest, tAnd, tOr, tNot, tAndV, tOrV, tNotV, tIf, tOp, tUn, tVar, tC, tCB, tCons, tNil, tCall, tPart, tNoPart, tM0, tM1, tTup, tLst, tB, tIsN, tNotN, rI0, rI, rU, rEq, rNe, rAdd, gName, gTup, gCons, gNil, gSub, rSetL, rIxL, rIxT, rIxS, L2.start,
      List.map_cons, List.map_nil, List.cons_append, List.nil_append, List.append_nil, List.length_cons, List.length_nil, List.replicate, List.getElem?_cons_zero, List.getElem?_cons_succ, List.set_cons_zero, List.set_cons_succ, Nat.reduceAdd, Nat.reduceSub, Nat.sub_self, Nat.zero_add,
      Option.some.injEq, V.int.injEq, V.str.injEq, V.bl.injEq, V.ref.injEq, V.ty.injEq, List.cons.injEq, and_true, true_and, exists_eq_left, exists_eq_left', exists_eq_right, exists_and_left, exists_and_right, exists_const, decide_eq_true_eq, decide_eq_false_iff_not, if_true, if_false, reduceIte, Bool.false_eq_true, Bool.not_eq_true', sc_ii, sc_ss, sc_bb, str1, cx_K, lstAt, rIxM, rSetM, rLenM, atI_0, atI_1, atI_2, atI_3, setI_0, setI_1, setI_2, setI_3, upd_same, upd_upd, ite_true, ite_false, exists_eq', eq_self, and_assoc, rIsS, isTy_bb, isTy_bi, isTy_ib, isTy_ii, isTy_ss, isTy_nb, isTy_ni, Bool.not_true, Bool.not_false, not_true_eq_false, not_false_eq_true, tChain, tRz1, tRz2, rIsX, tFx, tMethE, tCallS, tCallZ, tMeth, tMake, tFld, sFld, HO.ins.injEq, HO.lst.injEq, HO.dK.injEq, HO.tup.injEq, dcAt, dcRd, rDInM, rDGetM, rDSetM, rDLenM, keyOf_int, keyOf_str, rIsBM, plainV_b, plainV_i, plainV_n, plainV_s, rInM, rListM, rSortM, rSumM, rIsD, tBMM, tBM0M, tSl, rSlM, rAppend, rPop, rClear, wAs, reduceCtorEq, false_implies, true_implies, implies_true, forall_const, cxH_K, clsV_ref, clsV_ty, HO.xd.injEq, Value.ref.injEq, lkc, lkn, pfn, pfc, List.map_nil, rExtend, rCat, rRep, tMethE0, rSortD, rPush, rPopH, tDGetM, gAll, iRev, tCB, sDDel, wPair, tBreak, tDelT, rDLenR, tMethN, upd_same]
        have bb : ∀ o, But p G2 (upd G2 p o) := fun o q hq => upd_ne hq
        exact ⟨⟨by decide, by decide, by decide⟩, ite2 (fun _ => ⟨_, .inl (Dr.scr ha ha2 (bb _)), ite2 (fun _ => ⟨hz, bb _⟩) (fun _ => ⟨hd4, bb _⟩)⟩) (fun _ => ⟨hd4, bb _⟩)⟩
      · rintro σ' G3 ⟨d3, rfl, g3, hd3, b3⟩
        simp (config := { maxSteps := 4000000 }) only [tSeq, tNext, tDrop, tRet, tRetN, tIfS, tAsg, tTest, tAnd, tOr, tNot, tAndV, tOrV, tNotV, tIf, tOp, tUn, tVar, tC, tCB, tCons, tNil, tCall, tPart, tNoPart, tM0, tM1, tTup, tLst, tB, tIsN, tNotN, rI0, rI, rU, rEq, rNe, rAdd, gName, gTup, gCons, gNil, gSub, rSetL, rIxL, rIxT, rIxS, L2.start,
      List.map_cons, List.map_nil, List.cons_append, List.nil_append, List.append_nil, List.length_cons, List.length_nil, List.replicate, List.getElem?_cons_zero, List.getElem?_cons_succ, List.set_cons_zero, List.set_cons_succ, Nat.reduceAdd, Nat.reduceSub, Nat.sub_self, Nat.zero_add,
      Option.some.injEq, V.int.injEq, V.str.injEq, V.bl.injEq, V.ref.injEq, V.ty.injEq, List.cons.injEq, and_true, true_and, exists_eq_left, exists_eq_left', exists_eq_right, exists_and_left, exists_and_right, exists_const, decide_eq_true_eq, decide_eq_false_iff_not, if_true, if_false, reduceIte, Bool.false_eq_true, Bool.not_eq_true', sc_ii, sc_ss, sc_bb, str1, cx_K, lstAt, rIxM, rSetM, rLenM, atI_0, atI_1, atI_2, atI_3, setI_0, setI_1, setI_2, setI_3, upd_same, upd_upd, ite_true, ite_false, exists_eq', eq_self, and_assoc, rIsS, isTy_bb, isTy_bi, isTy_ib, isTy_ii, isTy_ss, isTy_nb, isTy_ni, Bool.not_true, Bool.not_false, not_true_eq_false, not_false_eq_true, tChain, tRz1, tRz2, rIsX, tFx, tMethE, tCallS, tCallZ, tMeth, tMake, tFld, sFld, HO.ins.injEq, HO.lst.injEq, HO.dK.injEq, HO.tup.injEq, dcAt, dcRd, rDInM, rDGetM, rDSetM, rDLenM, keyOf_int, keyOf_str, rIsBM, plainV_b, plainV_i, plainV_n, plainV_s, rInM, rListM, rSortM, rSumM, rIsD, tBMM, tBM0M, tSl, rSlM, rAppend, rPop, rClear, wAs, reduceCtorEq, false_implies, true_implies, implies_true, forall_const, cxH_K, clsV_ref, clsV_ty, HO.xd.injEq, Value.ref.injEq, lkc, lkn, pfn, pfc, List.map_nil, rExtend, rCat, rRep, tMethE0, rSortD, rPush, rPopH, tDGetM, gAll, iRev, tCB, sDDel, wPair, tBreak, tDelT, rDLenR, tMethN, g3]
        exact ⟨⟨i + 1, rfl⟩, hd3, fun q hq => by
          rw [upd_ne hq]
          exact b3 q hq⟩
    · rintro σ' H' ⟨c3, c4, i2, d2, rfl, hp2, hd2, hb⟩
      simp (config := { maxSteps := 4000000 }) only [tSeq, tNext, tDrop, tRet, tRetN, tIfS, tAsg, tTest, tAnd, tOr, tNot, tAndV, tOrV, tNotV, tIf, tOp, tUn, tVar, tC, tCB, tCons, tNil, tCall, tPart, tNoPart, tM0, tM1, tTup, tLst, tB, tIsN, tNotN, rI0, rI, rU, rEq, rNe, rAdd, gName, gTup, gCons, gNil, gSub, rSetL, rIxL, rIxT, rIxS, L2.start,
      List.map_cons, List.map_nil, List.cons_append, List.nil_append, List.append_nil, List.length_cons, List.length_nil, List.replicate, List.getElem?_cons_zero, List.getElem?_cons_succ, List.set_cons_zero, List.set_cons_succ, Nat.reduceAdd, Nat.reduceSub, Nat.sub_self, Nat.zero_add,
      Option.some.injEq, V.int.injEq, V.str.injEq, V.bl.injEq, V.ref.injEq, V.ty.injEq, List.cons.injEq, and_true, true_and, exists_eq_left, exists_eq_left', exists_eq_right, exists_and_left, exists_and_right, exists_const, decide_eq_true_eq, decide_eq_false_iff_not, if_true, if_false, reduceIte, Bool.false_eq_true, Bool.not_eq_true', sc_ii, sc_ss, sc_bb, str1, cx_K, lstAt, rIxM, rSetM, rLenM, atI_0, atI_1, atI_2, atI_3, setI_0, setI_1, setI_2, setI_3, upd_same, upd_upd, ite_true, ite_false, exists_eq', eq_self, and_assoc, rIsS, isTy_bb, isTy_bi, isTy_ib, isTy_ii, isTy_ss, isTy_nb, isTy_ni, Bool.not_true, Bool.not_false, not_true_eq_false, not_false_eq_true, tChain, tRz1, tRz2, rIsX, tFx, tMethE, tCallS, tCallZ, tMeth, tMake, tFld, sFld, HO.ins.injEq, HO.lst.injEq, HO.dK.injEq, HO.tup.injEq, dcAt, dcRd, rDInM, rDGetM, rDSetM, rDLenM, keyOf_int, keyOf_str, rIsBM, plainV_b, plainV_i, plainV_n, plainV_s, rInM, rListM, rSortM, rSumM, rIsD, tBMM, tBM0M, tSl, rSlM, rAppend, rPop, rClear, wAs, reduceCtorEq, false_implies, true_implies, implies_true, forall_const, cxH_K, clsV_ref, clsV_ty, HO.xd.injEq, Value.ref.injEq, lkc, lkn, pfn, pfc, List.map_nil, rExtend, rCat, rRep, tMethE0, rSortD, rPush, rPopH, tDGetM, gAll, iRev, tCB, sDDel, wPair, tBreak, tDelT, rDLenR, tMethN, hp2]
      have e1 := Int.emod_nonneg d2 (show ((n : Nat) : Int) ≠ 0 by omega)
      have e2 := Int.emod_lt_of_pos d2 (show (0 : Int) < ((n : Nat) : Int) by omega)
      obtain ⟨dn, hdn⟩ := Int.eq_ofNat_of_zero_le e1
      have hdv := Int.ediv_nonneg hd2 (show (0 : Int) ≤ (n : Nat) by omega)
      have but2 : But p H (upd H' p (.lst [.int i2, .int (d2 / (n : Nat))])) := fun q hq => by
        rw [upd_ne hq]
        exact hb q hq
      rw [hdn]
      exact ⟨by omega, ⟨by omega, by omega⟩, k dn _ (by omega) ⟨ns, i2, _, upd_same, hdv, Dr.scr ha ha2 but2, ha2⟩ but2⟩
end

/-- a kind of the law on the heap -/
def LkAt1 (K : PySem.W.Frag) (H : Hp) (r : Addr) (k : Lk) : Prop := ∃ o, SqT K H r [.str k.nm, .str k.ab, .ref o] ∧ H o = some (.lst (k.fs.map V.str))
theorem LkAt1.same {K : PySem.W.Frag} {H H' : Hp} {r : Addr} {k : Lk} (h : LkAt1 K H r k) (s : Same H H') : LkAt1 K H' r k :=
  let ⟨o, a, b⟩ := h; ⟨o, a.same s, s _ _ b⟩
def LksAt (K : PySem.W.Frag) (H : Hp) (p : Addr) (ks : List Lk) : Prop := ∃ rs : List Addr, H p = some (.lst (rs.map V.ref)) ∧ rs.length = ks.length ∧ ∀ (i : Nat) (r : Addr) (k : Lk), rs[i]? = some r → ks[i]? = some k → LkAt1 K H r k
theorem LksAt.same {K : PySem.W.Frag} {H H' : Hp} {p : Addr} {ks : List Lk} (h : LksAt K H p ks) (s : Same H H') : LksAt K H' p ks :=
  let ⟨rs, a, b, c⟩ := h; ⟨rs, s _ _ a, b, fun i r k h1 h2 => (c i r k h1 h2).same s⟩
theorem ownF_le {ks : List Lk} {c : Nat} (h : ∀ k ∈ ks, k.fs.length ≤ c) (n : Str) : (ownF ks n).length ≤ c := by
  unfold ownF
  cases e : lkOf ks n with
  | none => exact Nat.zero_le _
  | some k => exact h k (lkOf_some e).1
theorem ups_len (ks : List Lk) : ∀ (i : Nat) (n : Str), (ups ks i n).length = i
  | 0, _ => rfl
  | i + 1, n => by
    show (ups ks i (abv ks n)).length + 1 = i + 1
    rw [ups_len ks i]
theorem flat_le {f : Str → List Str} {c : Nat} (h : ∀ x, (f x).length ≤ c) : ∀ l : List Str, (l.flatMap f).length ≤ c * l.length
  | [] => Nat.zero_le _
  | x :: l => by
    rw [List.flatMap_cons, List.length_append, List.length_cons, Nat.mul_succ]
    have := flat_le h l
    have := h x
    omega
def sp_lall (K : PySem.W.Frag) : Sp := fun vs H Q _ => ∃ (p : Addr) (ks : List Lk) (n : Str), vs = [.ref p, .str n] ∧ LksAt K H p ks ∧ ks.length ≤ 100 ∧ (∀ k ∈ ks, k.fs.length ≤ 40) ∧ ∀ H' q, Same H H' → H q = none → H' q = some (.lst ((allL ks n).map V.str)) → Q (.ref q) H'
theorem sp_lall_len {K vs H Q E} (h : sp_lall K vs H Q E) : vs.length = (["kinds", "name"] : List Str).length := by
  obtain ⟨_, _, _, rfl, _⟩ := h
  rfl
section
variable {P : Program} {w : World} {K : PySem.W.Frag} {mg : Str → Option Value} {base : Heap} {A : Ad}
theorem ok__law_all (T : Txt K mg A) : FnOk P w K mg base CX0 1 A.f__law_all A.d__law_all ["kinds", "name"] (sp_lall K) := by
  refine Fun.ok T.F__law_all sc__law_all (fun vs H Q E h => ?_) (fun cdv Ar outer s H vs Q E hr h => ?_)
  · exact sp_lall_len h
  · have hu := hu_of hr
    refine ⟨_, (pss_cons (ps_asg (pe_lst pa_nil) (pg_name (i := 2) sc__law_all.nd rfl (Or.inl rfl)))
    (pss_cons (ps_for PassesOwn.never rfl (pi_range1 (by rfl) T.z_range (pa_cons pe_int pa_nil)) (pg_name (i := 3) sc__law_all.nd rfl (Or.inl rfl))
      (pss_cons (ps_asg pe_str (pg_name (i := 4) sc__law_all.nd rfl (Or.inl rfl)))
    (pss_cons (ps_asg (pe_lst pa_nil) (pg_name (i := 5) sc__law_all.nd rfl (Or.inl rfl)))
    (pss_cons (ps_for PassesOwn.never rfl (pi_list (pv 0)) (pg_name (i := 6) sc__law_all.nd rfl (Or.inl rfl))
      (pss_one (ps_if (pt_cmpR op_eq (pe_ix ix_tup (pv 6) pe_int (fun _ _ => rfl)) (pv 1) (nomark _)) (pss_cons (ps_asg (pe_callTy call_listM (by rfl) T.z_list (by decide +kernel) (pa_cons (pe_ix ix_tup (pv 6) pe_int (fun _ _ => rfl)) pa_nil)) (pg_name (i := 5) sc__law_all.nd rfl (Or.inl rfl)))
    (pss_one (ps_asg (pe_ix ix_tup (pv 6) pe_int (fun _ _ => rfl)) (pg_name (i := 4) sc__law_all.nd rfl (Or.inl rfl))))) pss_nil)))
    (pss_cons (ps_asg (pe_op op_cat (pv 5) (pv 2)) (pg_name (i := 2) sc__law_all.nd rfl (Or.inl rfl)))
    (pss_one (ps_asg (pv 4) (pg_name (i := 1) sc__law_all.nd rfl (Or.inl rfl)))))))))
    (pss_one (ps_ret (pv 2))))), ?_⟩
    obtain ⟨p, ks, n, rfl, hK, hl, hf, k⟩ := h
    obtain ⟨rs, gp, lrs, hrs⟩ := id hK
    have szl : (2000 : Nat) < sizeLine := by decide
    have fl : ∀ i, ((ups ks i n).reverse.flatMap (ownF ks)).length ≤ 40 * i := fun i => by
      have := flat_le (ownF_le hf) (ups ks i n).reverse
      rw [List.length_reverse, ups_len] at this
      exact this
    simp! only []
    refine ⟨Nat.zero_le _, fun f0 hf0 => ?_⟩
    refine for_rng (20 : Int) (fun R h => ?_) (by decide) (by decide) (fun i σ' H' => ∃ (f : Addr) (c3 c4 c5 c6 : Option V), σ' = [some (.ref p), some (.str (upn ks i n)), some (.ref f), c3, c4, c5, c6] ∧ Same H H' ∧ H f = none ∧ H' f = some (.lst (((ups ks i n).reverse.flatMap (ownF ks)).map V.str))) ⟨f0, none, none, none, none, rfl, same_new hf0, hf0, upd_same⟩ ?_ ?_
    · exact h
    · rintro i σ' H' hi ⟨f, c3, c4, c5, c6, rfl, sm, hf1, gf⟩
      simp! only [gf]
      refine ⟨Nat.zero_le _, fun o0 ho0 => ?_⟩
      refine for_lst (K := K) (H0 := upd H' o0 (.lst [])) (a := p) (rs.map V.ref) (fun R h => ⟨_, rfl, h⟩) (fun j σ' H2 => ∃ (o : Addr) (c6 : Option V), σ' = [some (.ref p), some (.str (upn ks i n)), some (.ref f), some (.int (i : Nat)), some (.str (abv (ks.take j) (upn ks i n))), some (.ref o), c6] ∧ Same H' H2 ∧ H' o = none ∧ H2 o = some (.lst ((ownF (ks.take j) (upn ks i n)).map V.str))) ⟨o0, _, rfl, same_new ho0, ho0, upd_same⟩ ?_ ?_ ?_
      · rintro j σ' H2 _ ⟨o, c6, rfl, sm2, _⟩
        exact .inl (.inl (sm2 _ _ (sm _ _ gp)))
      · rintro j x σ' H2 hx ⟨o, c6, rfl, sm2, ho, go⟩
        rw [List.getElem?_map] at hx
        obtain ⟨r, hr2, rfl⟩ := Option.map_eq_some_iff.mp hx
        have hil := (List.getElem?_eq_some_iff.mp hr2).1
        have hki : j < ks.length := by rw [← lrs]; exact hil
        have hk2 : ks[j]? = some ks[j] := List.getElem?_eq_getElem hki
        obtain ⟨ow, ht, gow⟩ := (hrs j r ks[j] hr2 hk2).same (sm_trans sm sm2)
        have e : lkOf (ks.take (j + 1)) (upn ks i n) = if ks[j].nm = upn ks i n then some ks[j] else lkOf (ks.take j) (upn ks i n) := by
          rw [List.take_add_one, hk2]
          exact lkOf_snoc _ _ _
        unfold abv ownF at go ⊢
        rw [e]
        generalize ks[j] = kk at ht gow e
        simp! only [ht]
        refine ⟨_, ht, _, rfl, rfl, ite2 (fun h => ?_) (fun h => ?_)⟩
        · have h2 : kk.nm = upn ks i n := by injection h
          rw [if_pos h2]
          refine ⟨_, ht, _, rfl, ow, rfl, ?_⟩
          rw [gow]
          dsimp only
          exact fun l hl2 => ⟨_, ht.same (same_new hl2), _, rfl, rfl, sm_upd sm2 (no_of sm2 hl2), no_of sm2 hl2, rfl⟩
        · have h2 : ¬ kk.nm = upn ks i n := fun z => h (by rw [z])
          rw [if_neg h2]
          exact ⟨rfl, sm2, ho, go⟩
      · rintro σ' H2 ⟨o, c6, rfl, sm2, ho, go⟩
        rw [List.length_map, lrs, List.take_length] at go ⊢
        have gf2 := sm2 _ _ gf
        simp! only [go, gf2]
        have l1 := ownF_le hf (upn ks i n)
        have l2 := fl i
        refine ⟨by rw [List.length_map, List.length_map]; omega, fun q hq => ⟨(upn_succ ks i n).symm, sm_upd (sm_trans sm sm2) (no_of (sm_trans sm sm2) hq), no_of (sm_trans sm sm2) hq, ?_⟩⟩
        rw [ups_snoc, List.reverse_append, List.flatMap_append, List.map_append, List.reverse_singleton, List.flatMap_cons, List.flatMap_nil, List.append_nil]
    · rintro σ' H' ⟨f, c3, c4, c5, c6, rfl, sm, hf1, gf⟩
      simp! only [rIsL]
      exact k H' f sm hf1 gf
end

def sp_lunder (K : PySem.W.Frag) : Sp := fun vs H Q _ => ∃ (p : Addr) (ks : List Lk) (n o : Str), vs = [.ref p, .str n, .str o] ∧ LksAt K H p ks ∧ Q (.bl (decide (o ∈ ups ks 21 n))) H
theorem sp_lunder_len {K vs H Q E} (h : sp_lunder K vs H Q E) : vs.length = (["kinds", "name", "other"] : List Str).length := by
  obtain ⟨_, _, _, _, rfl, _⟩ := h
  rfl
theorem ups_in {ks : List Lk} {o : Str} : ∀ {i j : Nat} {n : Str}, i < j → upn ks i n = o → o ∈ ups ks j n
  | 0, j + 1, n, _, h => by
    show o ∈ n :: _
    rw [show n = o from h]
    exact List.mem_cons_self
  | i + 1, j + 1, n, h, e => List.mem_cons_of_mem _ (ups_in (n := abv ks n) (Nat.lt_of_succ_lt_succ h) e)
section
variable {P : Program} {w : World} {K : PySem.W.Frag} {mg : Str → Option Value} {base : Heap} {A : Ad}
theorem ok__law_under (T : Txt K mg A) : FnOk P w K mg base CX0 1 A.f__law_under A.d__law_under ["kinds", "name", "other"] (sp_lunder K) := by
  refine Fun.ok T.F__law_under sc__law_under (fun vs H Q E h => ?_) (fun cdv Ar outer s H vs Q E hr h => ?_)
  · exact sp_lunder_len h
  · have hu := hu_of hr
    refine ⟨_, (pss_cons (ps_for PassesOwn.never rfl (pi_range1 (by rfl) T.z_range (pa_cons pe_int pa_nil)) (pg_name (i := 3) sc__law_under.nd rfl (Or.inl rfl))
      (pss_cons (ps_if (pt_cmpR op_eq (pv 1) (pv 2) (nomark _)) (pss_one (ps_ret pe_bl)) pss_nil)
    (pss_cons (ps_asg pe_str (pg_name (i := 4) sc__law_under.nd rfl (Or.inl rfl)))
    (pss_cons (ps_for PassesOwn.never rfl (pi_list (pv 0)) (pg_name (i := 5) sc__law_under.nd rfl (Or.inl rfl))
      (pss_one (ps_if (pt_cmpR op_eq (pe_ix ix_tup (pv 5) pe_int (fun _ _ => rfl)) (pv 1) (nomark _)) (pss_one (ps_asg (pe_ix ix_tup (pv 5) pe_int (fun _ _ => rfl)) (pg_name (i := 4) sc__law_under.nd rfl (Or.inl rfl)))) pss_nil)))
    (pss_one (ps_asg (pv 4) (pg_name (i := 1) sc__law_under.nd rfl (Or.inl rfl))))))))
    (pss_one (ps_ret (pe_cmpR op_eq (pv 1) (pv 2) (nomark _))))), ?_⟩
    obtain ⟨p, ks, n, o, rfl, hK, k⟩ := h
    obtain ⟨rs, gp, lrs, hrs⟩ := id hK
    refine for_rng (20 : Int) (fun R h => ?_) (by decide) (by decide) (fun i σ' H' => ∃ (c3 c4 c5 : Option V), σ' = [some (.ref p), some (.str (upn ks i n)), some (.str o), c3, c4, c5] ∧ H' = H ∧ o ∉ ups ks i n) ⟨none, none, none, rfl, rfl, List.not_mem_nil⟩ ?_ ?_
    · exact h
    · rintro i σ' H' hi ⟨c3, c4, c5, rfl, e, hno⟩
      subst e
      simp! only []
      refine ite2 (fun h => ?_) (fun h => ?_)
      · rw [decide_eq_true (ups_in (j := 21) (by omega) h)] at k
        exact k
      · have hno2 : o ∉ ups ks (i + 1) n := by
          rw [ups_snoc, List.mem_append, List.mem_singleton]
          exact fun z => z.elim hno fun z => h z.symm
        refine for_lst (K := K) (H0 := H') (a := p) (rs.map V.ref) (fun R h => ⟨_, rfl, h⟩) (fun j σ' H2 => ∃ (c5 : Option V), σ' = [some (.ref p), some (.str (upn ks i n)), some (.str o), some (.int (i : Nat)), some (.str (abv (ks.take j) (upn ks i n))), c5] ∧ H2 = H') ⟨_, rfl, rfl⟩ ?_ ?_ ?_
        · rintro j σ' H2 _ ⟨c5, rfl, rfl⟩
          exact .inl (.inl gp)
        · rintro j x σ' H2 hx ⟨c5, rfl, e⟩
          subst e
          rw [List.getElem?_map] at hx
          obtain ⟨r, hr2, rfl⟩ := Option.map_eq_some_iff.mp hx
          have hil := (List.getElem?_eq_some_iff.mp hr2).1
          have hki : j < ks.length := by rw [← lrs]; exact hil
          have hk2 : ks[j]? = some ks[j] := List.getElem?_eq_getElem hki
          obtain ⟨ow, ht, gow⟩ := hrs j r ks[j] hr2 hk2
          have e : lkOf (ks.take (j + 1)) (upn ks i n) = if ks[j].nm = upn ks i n then some ks[j] else lkOf (ks.take j) (upn ks i n) := by
            rw [List.take_add_one, hk2]
            exact lkOf_snoc _ _ _
          unfold abv
          rw [e]
          generalize ks[j] = kk at ht gow e
          simp! only [ht]
          refine ⟨_, ht, _, rfl, rfl, ite2 (fun h => ?_) (fun h => ?_)⟩
          · have h2 : kk.nm = upn ks i n := by injection h
            rw [if_pos h2]
            exact ⟨_, ht, rfl⟩
          · have h2 : ¬ kk.nm = upn ks i n := fun z => h (by rw [z])
            rw [if_neg h2]
        · rintro σ' H2 ⟨c5, rfl, rfl⟩
          rw [List.length_map, lrs, List.take_length]
          simp! only []
          exact ⟨(upn_succ ks i n).symm, hno2⟩
    · rintro σ' H' ⟨c3, c4, c5, rfl, e, hno⟩
      subst e
      simp! only []
      have e : decide (o ∈ ups ks 21 n) = decide (upn ks 20 n = o) := by
        rw [decide_eq_decide, ups_snoc ks 20 n, List.mem_append, List.mem_singleton]
        exact ⟨fun z => z.elim (fun y => absurd y hno) Eq.symm, fun z => .inr z.symm⟩
      rw [e] at k
      exact k
end

def sp_lbehind (K : PySem.W.Frag) : Sp := fun vs H Q _ => ∃ (p o : Addr) (ks : List Lk) (n s : Str) (xs : List Str), vs = [.ref p, .str n, .str s, .ref o] ∧ LksAt K H p ks ∧ ks.length ≤ 100 ∧ H o = some (.lst (xs.map V.str)) ∧ ∀ H' q, Same H H' → H q = none → LksAt K H' q (behindL ks n s xs) → Q (.ref q) H'
theorem sp_lbehind_len {K vs H Q E} (h : sp_lbehind K vs H Q E) : vs.length = (["kinds", "name", "above", "own"] : List Str).length := by
  obtain ⟨_, _, _, _, _, _, rfl, _⟩ := h
  rfl
section
variable {P : Program} {w : World} {K : PySem.W.Frag} {mg : Str → Option Value} {base : Heap} {A : Ad}
theorem ok__law_behind (T : Txt K mg A) : FnOk P w K mg base CX0 1 A.f__law_behind A.d__law_behind ["kinds", "name", "above", "own"] (sp_lbehind K) := by
  refine Fun.ok T.F__law_behind sc__law_behind (fun vs H Q E h => ?_) (fun cdv Ar outer s H vs Q E hr h => ?_)
  · exact sp_lbehind_len h
  · have hu := hu_of hr
    refine ⟨_, (pss_cons (ps_asg (pe_lst pa_nil) (pg_name (i := 4) sc__law_behind.nd rfl (Or.inl rfl)))
    (pss_cons (ps_for PassesOwn.never rfl (pi_list (pv 0)) (pg_name (i := 5) sc__law_behind.nd rfl (Or.inl rfl))
      (pss_one (ps_if (pt_cmpR op_eq (pe_ix ix_tup (pv 5) pe_int (fun _ _ => rfl)) (pv 1) (nomark _)) (pss_one (ps_expr (pe_bmM PySem.F.slot_list_append PySem.F.type_list_append mt_append (pv 4) (pa_cons (pe_tup (pa_cons (pv 1) (pa_cons (pv 2) (pa_cons (pv 3) pa_nil)))) pa_nil)))) (pss_one (ps_expr (pe_bmM PySem.F.slot_list_append PySem.F.type_list_append mt_append (pv 4) (pa_cons (pv 5) pa_nil)))))))
    (pss_one (ps_ret (pv 4))))), ?_⟩
    obtain ⟨p, o, ks, n, s, xs, rfl, hK, hl, go, k⟩ := h
    obtain ⟨rs, gp, lrs, hrs⟩ := id hK
    have szl : (2000 : Nat) < sizeLine := by decide
    simp! only []
    refine ⟨Nat.zero_le _, fun f hf => ?_⟩
    refine for_lst (K := K) (H0 := upd H f (.lst [])) (a := p) (rs.map V.ref) (fun R h => ⟨_, rfl, h⟩) (fun j σ' H2 => ∃ (c5 : Option V) (cs : List Addr), σ' = [some (.ref p), some (.str n), some (.str s), some (.ref o), some (.ref f), c5] ∧ Same H H2 ∧ H2 f = some (.lst (cs.map V.ref)) ∧ cs.length = j ∧
      ∀ (i : Nat) (r : Addr) (q : Lk), cs[i]? = some r → (behindL ks n s xs)[i]? = some q → ∃ o, SqT K H2 r [.str q.nm, .str q.ab, .ref o] ∧ H o = some (.lst (q.fs.map V.str))) ⟨none, [], rfl, same_new hf, upd_same, rfl, (fun (i : Nat) r q (hj : ([] : List Addr)[i]? = some r) => by simp at hj)⟩ ?_ ?_ ?_
    · rintro j σ' H2 _ ⟨c5, cs, rfl, sm, _⟩
      exact .inl (.inl (sm _ _ gp))
    · rintro j x σ' H2 hx ⟨c5, cs, rfl, sm, gf, el, hc⟩
      rw [List.getElem?_map] at hx
      obtain ⟨r, hr2, rfl⟩ := Option.map_eq_some_iff.mp hx
      have hil := (List.getElem?_eq_some_iff.mp hr2).1
      have hki : j < ks.length := by rw [← lrs]; exact hil
      have hk2 : ks[j]? = some ks[j] := List.getElem?_eq_getElem hki
      obtain ⟨ow, ht0, gow⟩ := hrs j r ks[j] hr2 hk2
      have ht := ht0.same sm
      have hb : (behindL ks n s xs)[j]? = some (if ks[j].nm = n then ⟨n, s, xs⟩ else ks[j]) := by
        unfold behindL
        rw [List.getElem?_map, hk2]
        rfl
      generalize ks[j] = kk at ht gow hb
      have tput : ∀ {H3 : Hp} {t : Addr} {ws zs ys : List V}, SqT K H3 t ws → H3 f = some (.lst ys) → SqT K (upd H3 f (.lst zs)) t ws := fun {H3 t ws zs ys} a g => by
        rcases a with a | a
        · refine .inl ?_
          have ne2 : t ≠ f := fun z => by
            unfold Rd at a
            rw [z, g] at a
            rcases a with a | ⟨_, a⟩ <;> cases a
          unfold Rd at a ⊢
          rw [upd_ne ne2]
          exact a
        · exact .inr a
      have step : ∀ (H3 : Hp) (t : Addr) (q : Lk) (oo : Addr), Same H2 H3 → SqT K H3 t [.str q.nm, .str q.ab, .ref oo] → H oo = some (.lst (q.fs.map V.str)) → (behindL ks n s xs)[j]? = some q →
          Same H (upd H3 f (.lst (cs.map V.ref ++ [.ref t]))) ∧ (cs ++ [t]).length = j + 1 ∧ ∀ (i : Nat) (r : Addr) (q : Lk), (cs ++ [t])[i]? = some r → (behindL ks n s xs)[i]? = some q → ∃ o, SqT K (upd H3 f (.lst (cs.map V.ref ++ [.ref t]))) r [.str q.nm, .str q.ab, .ref o] ∧ H o = some (.lst (q.fs.map V.str)) := fun H3 t q oo s3 a b c => by
        refine ⟨sm_upd (sm_trans sm s3) hf, by rw [List.length_append, el]; rfl, fun i r2 q2 h1 h2 => ?_⟩
        by_cases hj : i < cs.length
        · rw [List.getElem?_append_left hj] at h1
          obtain ⟨o2, a2, b2⟩ := hc i r2 q2 h1 h2
          exact ⟨o2, tput (a2.same s3) (s3 _ _ gf), b2⟩
        · rw [List.getElem?_append_right (by omega)] at h1
          have hj0 : i - cs.length = 0 := by
            have := (List.getElem?_eq_some_iff.mp h1).1
            rw [List.length_singleton] at this
            omega
          rw [hj0] at h1
          cases h1
          have : i = j := by omega
          subst this
          rw [c] at h2
          cases h2
          exact ⟨oo, tput a (s3 _ _ gf), b⟩
      simp! only [ht]
      refine ⟨_, ht, _, rfl, rfl, ite2 (fun h => ?_) (fun h => ?_)⟩
      · have h2 : kk.nm = n := by injection h
        rw [if_pos h2] at hb
        simp! only [gf]
        refine ⟨by decide, fun t ht2 => ?_⟩
        have s3 := same_new (o := HO.tup [V.str n, V.str s, V.ref o]) ht2
        obtain ⟨a, b, c⟩ := step _ t ⟨n, s, xs⟩ o s3 (.inl (.inl upd_same)) go hb
        exact ⟨_, s3 _ _ gf, by rw [List.length_map]; omega, a, cs ++ [t], by rw [List.map_append]; rfl, b, c⟩
      · have h2 : ¬ kk.nm = n := fun z => h (by rw [z])
        rw [if_neg h2] at hb
        simp! only [gf]
        obtain ⟨a, b, c⟩ := step H2 r kk ow sm_refl ht gow hb
        exact ⟨by rw [List.length_map]; omega, a, cs ++ [r], by rw [List.map_append]; rfl, b, c⟩
    · rintro σ' H2 ⟨c5, cs, rfl, sm, gf, el, hc⟩
      simp! only [rIsL]
      rw [List.length_map, lrs] at el
      exact k H2 f sm hf ⟨cs, gf, by rw [el]; unfold behindL; rw [List.length_map], fun i r q h1 h2 => let ⟨o, a, b⟩ := hc i r q h1 h2; ⟨o, a, sm _ _ b⟩⟩
end

theorem lc_strM {tl : TE} {te : TE} {c : Nat} {σ : L2.St} {H : Hp} {Q : VK} (x : Str) (f : Nat → V) (htl : ∀ R : V → Hp → Prop, R (.str x) H → tl σ H R) (hx : x.length ≤ 100000) (he : ∀ (ch : Nat) (H' : Hp) (R : VK), R (f ch) H' → te ((σ.set c none).set c (some (.str ⟨#[ch]⟩))) H' R)
    (k : ∀ D, H D = none → Q (.ref D) (upd H D (.lst ((cl x).map f)))) : tLc (iStr tl) (gName c) tYes te [c] σ H Q := by
  have szl : (100000 : Nat) < sizeLine := by decide
  have lx : (cl x).length = x.length := len_cl x
  refine htl _ ⟨x, rfl, fun D hD => ?_⟩
  refine ⟨fun i m H' => m = (cl x).length - i ∧ i ≤ (cl x).length ∧ H' = upd H D (.lst (((cl x).take i).map f)), ⟨_, rfl, Nat.zero_le _, rfl⟩, ?_⟩
  rintro i m H' ⟨rfl, hi, rfl⟩
  by_cases hlt : i < (cl x).length
  · refine .inr ⟨?_, fun H2 => H2 = upd H D (.lst (((cl x).take (i + 1)).map f)), fun H2 h => ⟨(cl x).length - (i + 1), by omega, rfl, hlt, h⟩, ?_⟩
    · show i < x.cps.size
      rw [lx] at hlt
      exact hlt
    · rintro v H2 ⟨rfl, ch, hch, rfl⟩
      have hc2 : (cl x)[i]? = some ch := by
        rw [← hch]
        show x.cps.toList[i]? = x.cps[i]?
        rw [Array.getElem?_toList]
      refine ⟨?_, ?_⟩
      · show List.set (List.set (List.set σ c none) c _) c none = List.set σ c none
        rw [List.set_set, List.set_set]
      · show (fun (b : Bool) (H3 : Hp) => if b = true then te ((σ.set c none).set c (some (.str ⟨#[ch]⟩))) H3 _ else (fun H2 => H2 = upd H D (.lst (((cl x).take (i + 1)).map f))) H3) true _
        dsimp only
        rw [if_pos rfl]
        refine he ch _ _ ⟨_, upd_same, by rw [List.length_map, List.length_take]; omega, ?_⟩
        rw [upd_upd, List.take_add_one, hc2, List.map_append]
        rfl
  · have e : i = (cl x).length := by omega
    subst e
    rw [List.take_length]
    refine .inl ⟨?_, k D hD⟩
    show x.cps.size ≤ (cl x).length
    rw [lx]
    exact Nat.le_refl _
/-- between two signs, as Python compares one-sign texts -/
def btw (a b c : Nat) : Bool := (!decide ([c] < [a])) && (!decide ([b] < [c]))
theorem btw_eq (a b c : Nat) : btw a b c = (decide (a ≤ c) && decide (c ≤ b)) := by
  unfold btw
  have e : ∀ u v : Nat, decide ([u] < [v]) = decide (u < v) := fun u v => by
    rw [decide_eq_decide]
    constructor
    · intro h
      cases h with
      | rel h => exact h
      | cons h => cases h
    · exact fun h => .rel h
  rw [e, e, Bool.eq_iff_iff, Bool.and_eq_true, Bool.and_eq_true, Bool.not_eq_true', Bool.not_eq_true', decide_eq_false_iff_not, decide_eq_false_iff_not, decide_eq_true_eq, decide_eq_true_eq]
  omega
def chOk (c : Nat) : Bool := btw 97 122 c || (btw 65 90 c || btw 48 57 c)
theorem chOk_eq (c : Nat) : chOk c = isLD c := by
  by_cases h : c < 128
  · have key : ∀ c < 128, (decide (97 ≤ c) && decide (c ≤ 122) || (decide (65 ≤ c) && decide (c ≤ 90) || decide (48 ≤ c) && decide (c ≤ 57))) = isLD c := by decide +kernel
    unfold chOk
    rw [btw_eq, btw_eq, btw_eq]
    exact key c h
  · have k1 : ∀ x ∈ cl sL, x < 128 := by decide +kernel
    have k2 : ∀ x ∈ cl sD, x < 128 := by decide +kernel
    have e : isLD c = false := by
      unfold isLD isL isD
      rw [decide_eq_false fun z => h (k1 c z), decide_eq_false fun z => h (k2 c z)]
      rfl
    unfold chOk
    rw [btw_eq, btw_eq, btw_eq, e, decide_eq_false (show ¬ c ≤ 122 by omega), decide_eq_false (show ¬ c ≤ 90 by omega), decide_eq_false (show ¬ c ≤ 57 by omega)]
    simp
theorem low_eq (c : Nat) : btw 97 122 c = (isL c && Txt.islower ⟨#[c]⟩) := by
  by_cases h : c < 128
  · have key : ∀ c < 128, (decide (97 ≤ c) && decide (c ≤ 122)) = (isL c && Txt.islower ⟨#[c]⟩) := by decide +kernel
    rw [btw_eq]
    exact key c h
  · have k1 : ∀ x ∈ cl sL, x < 128 := by decide +kernel
    unfold isL
    rw [btw_eq, decide_eq_false fun z => h (k1 c z), decide_eq_false (show ¬ c ≤ 122 by omega)]
    simp
def sp_lgood : Sp := fun vs H Q _ => ∃ (x : Str), vs = [.str x] ∧ x.length ≤ 100000 ∧ ∀ H', Same H H' → Q (.bl (fieldOk x)) H'
theorem sp_lgood_len {vs H Q E} (h : sp_lgood vs H Q E) : vs.length = (["name"] : List Str).length := by
  obtain ⟨_, rfl, _⟩ := h
  rfl
section
variable {P : Program} {w : World} {K : PySem.W.Frag} {mg : Str → Option Value} {base : Heap} {A : Ad}
theorem ok__law_good (T : Txt K mg A) : FnOk P w K mg base CX0 1 A.f__law_good A.d__law_good ["name"] (sp_lgood) := by
  refine Fun.ok T.F__law_good sc__law_good (fun vs H Q E h => ?_) (fun cdv Ar outer s H vs Q E hr h => ?_)
  · exact sp_lgood_len h
  · have hu := hu_of hr
    refine ⟨_, (pss_cons (ps_if (PW.pt (pw_or (pt_cmpR op_in_seq (pv 0) (pe_lst (pa_cons pe_str (pa_cons pe_str (pa_cons pe_str (pa_cons pe_str (pa_cons pe_str pa_nil)))))) (by rfl)) (pw_or (pt_cmpR op_eq (pe_callB call_len_str (by rfl) T.z_len PySem.boot_len (pa_cons (pv 0) pa_nil)) pe_int (nomark _)) (pw_or (pt_cmpR op_gt (pe_callB call_len_str (by rfl) T.z_len PySem.boot_len (pa_cons (pv 0) pa_nil)) pe_int (nomark _)) (pw_or1 (pt_not (pt_chain op_le_str op_le_str pe_str (pe_item_str (pv 0) pe_int (fun _ _ => rfl)) pe_str))))))) (pss_one (ps_ret pe_bl)) pss_nil)
    (pss_one (ps_ret (pe_cmpR op_notIn_seq pe_bl (pe_lc (own := [("char", 1)]) (g := gName 1) rfl sc__law_good.nd (pi_str (pv 0)) (blkOk_by (own := [("char", 1)]) (N := ["name", "char"]) (sc := defScope s__law_good) (by decide +kernel)) (fun _ _ _ _ _ => pg_name (i := 1) sc__law_good.nd rfl (Or.inl rfl)) (fun _ _ _ _ _ => pts_nil) (fun _ _ _ _ _ => (pe_or (pe_chain op_le_str op_le_str pe_str (pv 1) pe_str) (pe_or (pe_chain op_le_str op_le_str pe_str (pv 1) pe_str) (pe_one (pe_chain op_le_str op_le_str pe_str (pv 1) pe_str)))))) (by rfl))))), ?_⟩
    obtain ⟨x, rfl, hx, k⟩ := h
    have szl : (100000 : Nat) < sizeLine := by decide
    have hl := len_cl x
    simp! only [rIn]
    refine ⟨by decide, fun q hq => ?_⟩
    have s1 := same_new (o := HO.lst (resv.map V.str)) hq
    refine ⟨resv.map V.str, .inl (.inl (.inl upd_same)), rfl, by decide, ?_⟩
    change if inV (V.str x) (resv.map V.str) = true then Q (V.bl false) (upd H q (HO.lst (resv.map V.str))) else _
    rw [inV_strs]
    refine ite2 (fun h1 => ?_) (fun h1 => ⟨by omega, ite2 (fun h2 => ?_) (fun h2 => ⟨by omega, ite2 (fun h3 => ?_) (fun h3 => ?_)⟩)⟩)
    · have e : fieldOk x = false := by
        unfold fieldOk
        rw [h1]
        simp
      exact e ▸ k _ s1
    · have h2 : (cl x).length = 0 := by omega
      have e : fieldOk x = false := by
        unfold fieldOk
        rw [List.eq_nil_of_length_eq_zero h2]
        rfl
      exact e ▸ k _ s1
    · have h3 : ¬ (cl x).length ≤ 32 := by omega
      have e : fieldOk x = false := by
        unfold fieldOk
        cases hc : cl x with
        | nil => rfl
        | cons c r =>
          rw [hc] at h3
          have e2 : nameOk (c :: r) = false := by
            show (isL c && (r.all isLD) && decide ((c :: r).length ≤ 32)) = false
            rw [decide_eq_false h3, Bool.and_false]
          rw [e2]
          rfl
      exact e ▸ k _ s1
    · cases hc : cl x with
      | nil =>
        rw [hc] at hl
        rw [List.length_nil] at hl
        exact absurd (show ((x.length : Nat) : Int) = 0 by omega) h2
      | cons c r =>
        have h0 : x.cps[Int.toNat 0]? = some c := by
          have e : x.cps[0]? = (cl x)[0]? := by
            show x.cps[0]? = x.cps.toList[0]?
            rw [Array.getElem?_toList]
          rw [show Int.toNat 0 = 0 from rfl, e, hc]
          rfl
        refine ⟨Int.le_refl _, by decide, by omega, c, h0, ?_⟩
        have hrs : decide (x ∈ resv) = false := by simpa using h1
        have fe : fieldOk x = ((isL c && (r.all isLD) && decide ((c :: r).length ≤ 32)) && (Txt.islower ⟨#[c]⟩ && !decide (x ∈ resv))) := by
          unfold fieldOk
          rw [hc]
          rfl
        have no : btw 97 122 c = false → fieldOk x = false := fun z => by
          rw [low_eq] at z
          rw [fe]
          cases hA : isL c with
          | false => rfl
          | true =>
            rw [hA, Bool.true_and] at z
            rw [z, Bool.false_and, Bool.and_false]
        refine ite2 (fun h4 => ite2 (fun h5 => ?_) (fun h5 => ?_)) (fun h4 => ?_)
        · have e : fieldOk x = false := no (by
            unfold btw
            rw [show decide ([122] < [c]) = true from (Bool.not_eq_false' _).mp h5]
            simp)
          exact e ▸ k _ s1
        · have yes : btw 97 122 c = true := by
            unfold btw
            rw [show decide ([c] < [97]) = false from decide_eq_false h4, show decide ([122] < [c]) = false from (Bool.not_eq_true' _).mp ((Bool.not_eq_false _).mp h5)]
            rfl
          rw [low_eq, Bool.and_eq_true] at yes
          refine lc_strM x (fun ch => .bl (chOk ch)) (fun R h => ⟨_, rfl, h⟩) hx (fun ch H' R h => ?_) (fun D hD => ⟨D, rfl, _, .inl (.inl (.inl upd_same)), rfl, by rw [List.all_map, List.all_eq_true]; exact fun _ _ => rfl, ?_⟩)
          · simp! only [tChain, tOrV]
            rw [show (Str.ofString "a").cps.toList = [97] from rfl, show (Str.ofString "z").cps.toList = [122] from rfl, show (Str.ofString "A").cps.toList = [65] from rfl, show (Str.ofString "Z").cps.toList = [90] from rfl, show (Str.ofString "0").cps.toList = [48] from rfl, show (Str.ofString "9").cps.toList = [57] from rfl]
            have f : R (V.bl (((!decide ([ch] < [97])) && (!decide ([122] < [ch]))) || (((!decide ([ch] < [65])) && (!decide ([90] < [ch]))) || ((!decide ([ch] < [48])) && (!decide ([57] < [ch])))))) H' := h
            by_cases a1 : [ch] < [97]
            · rw [if_neg (fun z => z a1)]
              rw [decide_eq_true a1, Bool.not_true, Bool.false_and, Bool.false_or] at f
              by_cases a3 : [ch] < [65]
              · rw [if_neg (fun z => z a3)]
                rw [decide_eq_true a3, Bool.not_true, Bool.false_and, Bool.false_or] at f
                exact ite2 (fun a5 => by rw [decide_eq_false a5] at f; exact f) (fun a5 => by rw [decide_eq_true (Classical.not_not.mp a5)] at f; exact f)
              · rw [if_pos a3]
                rw [decide_eq_false a3, Bool.not_false, Bool.true_and] at f
                refine ite2 (fun a4 => by rw [decide_eq_false a4] at f; exact f) (fun a4 => ?_)
                rw [decide_eq_true (Classical.not_not.mp a4), Bool.not_true, Bool.false_or] at f
                exact ite2 (fun a5 => by rw [decide_eq_false a5] at f; exact f) (fun a5 => by rw [decide_eq_true (Classical.not_not.mp a5)] at f; exact f)
            · rw [if_pos a1]
              rw [decide_eq_false a1, Bool.not_false, Bool.true_and] at f
              refine ite2 (fun a2 => by rw [decide_eq_false a2] at f; exact f) (fun a2 => ?_)
              rw [decide_eq_true (Classical.not_not.mp a2), Bool.not_true, Bool.false_or] at f
              by_cases a3 : [ch] < [65]
              · rw [if_neg (fun z => z a3)]
                rw [decide_eq_true a3, Bool.not_true, Bool.false_and, Bool.false_or] at f
                exact ite2 (fun a5 => by rw [decide_eq_false a5] at f; exact f) (fun a5 => by rw [decide_eq_true (Classical.not_not.mp a5)] at f; exact f)
              · rw [if_pos a3]
                rw [decide_eq_false a3, Bool.not_false, Bool.true_and] at f
                refine ite2 (fun a4 => by rw [decide_eq_false a4] at f; exact f) (fun a4 => ?_)
                rw [decide_eq_true (Classical.not_not.mp a4), Bool.not_true, Bool.false_or] at f
                exact ite2 (fun a5 => by rw [decide_eq_false a5] at f; exact f) (fun a5 => by rw [decide_eq_true (Classical.not_not.mp a5)] at f; exact f)
          · have e : (!inV (V.bl false) ((cl x).map fun ch => V.bl (chOk ch))) = fieldOk x := by
              rw [fe, hrs, yes.1, yes.2, decide_eq_true (show (c :: r).length ≤ 32 by rw [hc] at hl; omega)]
              have e2 : inV (V.bl false) ((cl x).map fun ch => V.bl (chOk ch)) = !((cl x).all isLD) := by
                unfold inV
                rw [List.any_map, List.not_all_eq_any_not]
                refine List.any_congr rfl fun ch => ?_
                rw [← chOk_eq]
                show eqV (V.bl (chOk ch)) (V.bl false) = !chOk ch
                cases chOk ch <;> rfl
              rw [e2, Bool.not_not, hc, List.all_cons]
              unfold isLD
              rw [yes.1]
              simp
            rw [e]
            exact k _ (sm_upd s1 (no_of s1 hD))
        · have e : fieldOk x = false := no (by
            unfold btw
            rw [show decide ([c] < [97]) = true from decide_eq_true (Classical.not_not.mp h4)]
            rfl)
          exact e ▸ k _ s1
end

theorem for_rngX {ta : TA} {g : TG} {tb : TS} {D : Ends} {σ : L2.St} {H : Hp} (P : Nat → Hp → Prop) (htl : ∀ R : List V → Hp → Prop, (∀ (j : Nat) H1, P j H1 → R [.int (j : Nat)] H1) → ta σ H R) (h1 : ∀ j H1, P j H1 → j < 100000) (Pv : Nat → Nat → L2.St → Hp → Prop) (hp : ∀ j H1, P j H1 → Pv j 0 σ H1)
    (hs : ∀ (j i : Nat) σ H, i < j → Pv j i σ H → g (.int (i : Nat)) σ H fun σ2 H2 => tb { D with nx := Pv j (i + 1), ct := Pv j (i + 1), bk := D.nx } σ2 H2) (hd : ∀ j σ H, Pv j j σ H → D.nx σ H) : tFor (iRng1 ta) g tb D σ H := by
  refine htl _ fun j H1 p => ⟨(j : Nat), rfl, by omega, by have := h1 j H1 p; omega, ?_⟩
  rw [Int.toNat_natCast]
  refine for_range (lo := 0) (n := j) (Pv j) (hp j H1 p) (fun i σ H hi pv => ?_) (hd j)
  rw [Int.zero_add]
  exact hs j i σ H hi pv
/-- all stays but what is told -/
def Ex (s : List Addr) (H H' : Hp) : Prop := ∀ b x, b ∉ s → H b = some x → H' b = some x
theorem Ex.refl {s : List Addr} {H : Hp} : Ex s H H := fun _ _ _ h => h
theorem Ex.trans {s : List Addr} {H1 H2 H3 : Hp} (a : Ex s H1 H2) (b : Ex s H2 H3) : Ex s H1 H3 := fun x o n h => b x o n (a x o n h)
theorem Ex.same {s : List Addr} {H1 H2 : Hp} (a : Same H1 H2) : Ex s H1 H2 := fun x o _ h => a x o h
theorem Ex.upd {s : List Addr} {H1 H2 : Hp} {p : Addr} {o : HO} (a : Ex s H1 H2) (h : p ∈ s) : Ex s H1 (L2.upd H2 p o) := fun x y n e => by
  rw [upd_ne (show x ≠ p from fun z => n (by rw [z]; exact h))]
  exact a x y n e
theorem Ex.but {s : List Addr} {H1 H2 H3 : Hp} {p : Addr} (a : Ex s H1 H2) (h : p ∈ s) (b : But p H2 H3) : Ex s H1 H3 := fun x y n e => by
  rw [b x (show x ≠ p from fun z => n (by rw [z]; exact h))]
  exact a x y n e
theorem Ex.mono {s t : List Addr} {H1 H2 : Hp} (a : Ex s H1 H2) (h : ∀ x ∈ s, x ∈ t) : Ex t H1 H2 := fun x y n e => a x y (fun z => n (h x z)) e
def Lk0 (H : Hp) (s : List Addr) (r : Addr) (k : Lk) : Prop := ∃ o, H r = some (.tup [.str k.nm, .str k.ab, .ref o]) ∧ r ∉ s ∧ H o = some (.lst (k.fs.map V.str)) ∧ o ∉ s
theorem Lk0.ex {s t : List Addr} {H H' : Hp} {r : Addr} {k : Lk} (h : Lk0 H s r k) (e : Ex t H H') (ht : ∀ b x, b ∈ t → b ∉ s → H b = some x → H' b = some x) : Lk0 H' s r k := by
  obtain ⟨o, a, b, c, d⟩ := h
  have go : ∀ b x, b ∉ s → H b = some x → H' b = some x := fun b x hb hx => by
    by_cases hm : b ∈ t
    · exact ht b x hm hb hx
    · exact e b x hm hx
  exact ⟨o, go _ _ b a, b, go _ _ d c, d⟩
theorem Lk0.exs {s : List Addr} {H H' : Hp} {r : Addr} {k : Lk} (h : Lk0 H s r k) (e : Ex s H H') : Lk0 H' s r k := h.ex e fun _ _ a b => absurd a b
def LksX (H : Hp) (s : List Addr) (q : Addr) (ks : List Lk) : Prop := ∃ rs : List Addr, H q = some (.lst (rs.map V.ref)) ∧ rs.length = ks.length ∧ ∀ (i : Nat) (r : Addr) (k : Lk), rs[i]? = some r → ks[i]? = some k → Lk0 H s r k
theorem LksX.at {K : PySem.W.Frag} {H : Hp} {s : List Addr} {q : Addr} {ks : List Lk} (h : LksX H s q ks) : LksAt K H q ks := by
  obtain ⟨rs, a, b, c⟩ := h
  exact ⟨rs, a, b, fun i r k h1 h2 => let ⟨o, x, _, y, _⟩ := c i r k h1 h2; ⟨o, .inl (.inl x), y⟩⟩
theorem LksX.go {H H' : Hp} {s : List Addr} {q : Addr} {ks : List Lk} (h : LksX H s q ks) (e : Ex s H H') (hq : ∀ x, H q = some x → H' q = some x) : LksX H' s q ks := by
  obtain ⟨rs, a, b, c⟩ := h
  exact ⟨rs, hq _ a, b, fun i r k h1 h2 => (c i r k h1 h2).exs e⟩
theorem Dr.put {K : PySem.W.Frag} {H0 H : Hp} {p a o : Addr} {x : HO} (hb : Dr K H0 p a) (ho : H0 o = none) (h : Dr K H p a) (hop : o ≠ p) : Dr K (upd H o x) p a := by
  obtain ⟨ns, i, d, h1, h2, h3, h4⟩ := h
  obtain ⟨n0, _, _, _, _, q3, _⟩ := hb
  rcases q3 with q3 | q3
  · have ne : a ≠ o := fun z => by
      unfold Rd at q3
      rw [z, ho] at q3
      rcases q3 with q3 | ⟨_, q3⟩ <;> cases q3
    refine ⟨ns, i, d, by rw [upd_ne (Ne.symm hop)]; exact h1, h2, ?_, h4⟩
    rcases h3 with h3 | h3
    · refine .inl ?_
      unfold Rd at h3 ⊢
      rw [upd_ne ne]
      exact h3
    · exact .inr h3
  · exact ⟨n0, i, d, by rw [upd_ne (Ne.symm hop)]; exact h1, h2, .inr q3, .inr fun G => .inr q3⟩
def sp_lkinds (K : PySem.W.Frag) : Sp := fun vs H Q _ => ∃ (p a : Addr), vs = [.ref p, .ref a] ∧ Dr K H p a ∧ ∀ H' q ks, Ex [p] H H' → H q = none → Dr K H' p a → DK ks → 1 ≤ ks.length → LksX H' [p, q] q ks → Q (.ref q) H'
theorem sp_lkinds_len {K vs H Q E} (h : sp_lkinds K vs H Q E) : vs.length = (["state", "script"] : List Str).length := by
  obtain ⟨_, _, rfl, _⟩ := h
  rfl
theorem Dr.hp {K : PySem.W.Frag} {H : Hp} {p a : Addr} (h : Dr K H p a) : ∃ o, H p = some o := by
  obtain ⟨_, _, _, e, _⟩ := h
  exact ⟨_, e⟩
theorem Dr.same {K : PySem.W.Frag} {H H' : Hp} {p a : Addr} (h : Dr K H p a) (s : Same H H') : Dr K H' p a := by
  obtain ⟨ns, i, d, h1, h2, h3, h4⟩ := h
  exact ⟨ns, i, d, s _ _ h1, h2, h3.same s, h4⟩
section
variable {P : Program} {w : World} {K : PySem.W.Frag} {mg : Str → Option Value} {base : Heap} {A : Ad}
theorem ok__law_kinds (T : Txt K mg A) : FnOk P w K mg base CX0 2 A.f__law_kinds A.d__law_kinds ["state", "script"] (sp_lkinds K) := by
  refine Fun.ok T.F__law_kinds sc__law_kinds (fun vs H Q E h => ?_) (fun cdv Ar outer s H vs Q E hr h => ?_)
  · exact sp_lkinds_len h
  · have hu := hu_of hr
    refine ⟨_, (pss_cons (ps_asg (pe_lst (pa_cons pe_str (pa_cons pe_str (pa_cons pe_str (pa_cons pe_str (pa_cons pe_str pa_nil)))))) (pg_name (i := 2) sc__law_kinds.nd rfl (Or.inl rfl)))
    (pss_cons (ps_asg (pe_lst (pa_cons pe_str (pa_cons pe_str (pa_cons pe_str (pa_cons pe_str (pa_cons pe_str (pa_cons pe_str (pa_cons pe_str (pa_cons pe_str pa_nil))))))))) (pg_name (i := 3) sc__law_kinds.nd rfl (Or.inl rfl)))
    (pss_cons (ps_asg (pe_lst pa_nil) (pg_name (i := 4) sc__law_kinds.nd rfl (Or.inl rfl)))
    (pss_cons (ps_for PassesOwn.never rfl (pi_range1 (by rfl) T.z_range (pa_cons (pe_op op_add pe_int (pe_call (ok__law_draw T) (hr.mono (by decide)) (by rfl) T.g__law_draw T.k__law_draw T.b__law_draw .nil pass0 (pa_cons (pv 0) (pa_cons (pv 1) (pa_cons pe_int pa_nil))))) pa_nil)) (pg_name (i := 5) sc__law_kinds.nd rfl (Or.inl rfl))
      (pss_cons (ps_asg pe_str (pg_name (i := 6) sc__law_kinds.nd rfl (Or.inl rfl)))
    (Evl.pss_cut (ps_if (PW.pt (pw_and (pt_cmpR op_gt (pv 5) pe_int (nomark _)) (pw_and1 (pt_cmpR op_gt (pe_call (ok__law_draw T) (hr.mono (by decide)) (by rfl) T.g__law_draw T.k__law_draw T.b__law_draw .nil pass0 (pa_cons (pv 0) (pa_cons (pv 1) (pa_cons pe_int pa_nil)))) pe_int (nomark _))))) (pss_one (ps_asg (pe_ix ix_tup (pe_ix ix_lstM (pv 4) (pe_call (ok__law_draw T) (hr.mono (by decide)) (by rfl) T.g__law_draw T.k__law_draw T.b__law_draw .nil pass0 (pa_cons (pv 0) (pa_cons (pv 1) (pa_cons (pv 5) pa_nil)))) (fun _ _ => rfl)) pe_int (fun _ _ => rfl)) (pg_name (i := 6) sc__law_kinds.nd rfl (Or.inl rfl)))) pss_nil)
    (pss_cons (ps_asg (pe_call (ok__law_all T) (hr.mono (by decide)) (by rfl) T.g__law_all T.k__law_all T.b__law_all .nil pass0 (pa_cons (pv 4) (pa_cons (pv 6) pa_nil))) (pg_name (i := 7) sc__law_kinds.nd rfl (Or.inl rfl)))
    (pss_cons (ps_asg (pe_lst pa_nil) (pg_name (i := 8) sc__law_kinds.nd rfl (Or.inl rfl)))
    (pss_cons (ps_for PassesOwn.never rfl (pi_range1 (by rfl) T.z_range (pa_cons (pe_call (ok__law_draw T) (hr.mono (by decide)) (by rfl) T.g__law_draw T.k__law_draw T.b__law_draw .nil pass0 (pa_cons (pv 0) (pa_cons (pv 1) (pa_cons pe_int pa_nil)))) pa_nil)) (pg_name (i := 9) sc__law_kinds.nd rfl (Or.inl rfl))
      (pss_cons (ps_asg (pe_ix ix_lstM (pv 3) (pe_call (ok__law_draw T) (hr.mono (by decide)) (by rfl) T.g__law_draw T.k__law_draw T.b__law_draw .nil pass0 (pa_cons (pv 0) (pa_cons (pv 1) (pa_cons pe_int pa_nil)))) (fun _ _ => rfl)) (pg_name (i := 10) sc__law_kinds.nd rfl (Or.inl rfl)))
    (pss_one (ps_if (PW.pt (pw_and (pt_cmpR op_notInM (pv 10) (pv 8) (by rfl)) (pw_and1 (pt_cmpR op_notInM (pv 10) (pv 7) (by rfl))))) (pss_one (ps_expr (pe_bmM PySem.F.slot_list_append PySem.F.type_list_append mt_append (pv 8) (pa_cons (pv 10) pa_nil)))) pss_nil))))
    (pss_one (ps_expr (pe_bmM PySem.F.slot_list_append PySem.F.type_list_append mt_append (pv 4) (pa_cons (pe_tup (pa_cons (pe_ix ix_lstM (pv 2) (pv 5) (fun _ _ => rfl)) (pa_cons (pv 6) (pa_cons (pv 8) pa_nil)))) pa_nil))))))))))
    (pss_one (ps_ret (pv 4))))))), ?_⟩
    obtain ⟨p, a, rfl, hDr, k⟩ := h
    have szl : (2000 : Nat) < sizeLine := by decide
    simp! only []
    refine ⟨by decide, fun nm hnm => ⟨by decide, fun fl hfl => ⟨by decide, fun kq hkq => ?_⟩⟩⟩
    obtain ⟨op, gpp⟩ := hDr.hp
    have s1 := same_new (o := HO.lst (names5.map V.str)) hnm
    have g1 : upd H nm (HO.lst (names5.map V.str)) nm = some (.lst (names5.map V.str)) := upd_same
    change upd (upd H nm (HO.lst (names5.map V.str))) fl (HO.lst (fields8.map V.str)) kq = none at hkq
    change tFor _ _ _ _ _ (upd (upd (upd H nm (HO.lst (names5.map V.str))) fl (HO.lst (fields8.map V.str))) kq (HO.lst []))
    have s2 := same_new (o := HO.lst (fields8.map V.str)) hfl
    change Same (upd H nm (HO.lst (names5.map V.str))) (upd (upd H nm (HO.lst (names5.map V.str))) fl (HO.lst (fields8.map V.str))) at s2
    have g2 : upd (upd H nm (HO.lst (names5.map V.str))) fl (HO.lst (fields8.map V.str)) fl = some (.lst (fields8.map V.str)) := upd_same
    have g1' := s2 _ _ g1
    have s12 := sm_trans s1 s2
    generalize upd (upd H nm (HO.lst (names5.map V.str))) fl (HO.lst (fields8.map V.str)) = H2 at hkq g2 g1' s12 ⊢
    have nmp : nm ≠ p := fun z => by
      rw [← z, hnm] at gpp
      cases gpp
    have flp : fl ≠ p := fun z => by
      rw [z] at hfl
      have := s1 _ _ gpp
      change upd H nm (HO.lst (names5.map V.str)) p = none at hfl
      rw [this] at hfl
      cases hfl
    have nmk : nm ≠ kq := ne_of_none g1' hkq
    have flk : fl ≠ kq := ne_of_none g2 hkq
    have kqp : kq ≠ p := Ne.symm (ne_of_none (s12 _ _ gpp) hkq)
    have hkq0 := no_of s12 hkq
    have s3 := same_new (o := HO.lst []) hkq
    have e3 : Ex [p, kq] H (upd H2 kq (HO.lst [])) := Ex.same (sm_trans s12 s3)
    have d3 : Dr K (upd H2 kq (HO.lst [])) p a := hDr.same (sm_trans s12 s3)
    have a1 := s3 _ _ g1'
    have a2 := s3 _ _ g2
    have a3 : upd H2 kq (HO.lst []) kq = some (.lst []) := upd_same
    generalize upd H2 kq (HO.lst []) = H3 at e3 d3 a1 a2 a3 ⊢
    refine for_rngX (fun j H1 => 1 ≤ j ∧ j ≤ 5 ∧ Dr K H1 p a ∧ But p H3 H1) (fun R h => ?_) (fun j H1 h => by have := h.2.1; omega) (fun j i σ' H' => ∃ (c5 c6 c7 c8 c9 c10 : Option V) (ks : List Lk), σ' = [some (.ref p), some (.ref a), some (.ref nm), some (.ref fl), some (.ref kq), c5, c6, c7, c8, c9, c10] ∧ Dr K H' p a ∧ Ex [p, kq] H H' ∧
      H' nm = some (.lst (names5.map V.str)) ∧ H' fl = some (.lst (fields8.map V.str)) ∧ DK ks ∧ ks.length = i ∧ LksX H' [p, kq] kq ks ∧ 1 ≤ j ∧ j ≤ 5) ?_ ?_ ?_
    · simp! only []
      refine ⟨p, a, 5, rfl, d3, by decide, by decide, fun d H1 hd dr b => ?_⟩
      refine ⟨_, rfl, ?_⟩
      rw [show (1 : Int) + (d : Int) = ((d + 1 : Nat) : Int) by omega]
      exact h _ _ ⟨by omega, by omega, dr, b⟩
    · rintro j H1 ⟨j1, j2, dr, b⟩
      exact ⟨none, none, none, none, none, none, [], rfl, dr, e3.but List.mem_cons_self b, (b _ nmp).trans a1, (b _ flp).trans a2, .nil, rfl, ⟨[], (b _ kqp).trans a3, rfl, (fun (i : Nat) r q (hj : ([] : List Addr)[i]? = some r) => by simp at hj)⟩, j1, j2⟩
    · rintro j i σ' H' hij ⟨c5, c6, c7, c8, c9, c10, ks, rfl, dr, ex, gn, gf, dk, lk, hX, j1, j2⟩
      simp! only []
      refine ⟨fun σ'' H'' => ∃ (c7 c8 c9 c10 : Option V) (ab : Str), σ'' = [some (.ref p), some (.ref a), some (.ref nm), some (.ref fl), some (.ref kq), some (.int (i : Nat)), some (.str ab), c7, c8, c9, c10] ∧ Dr K H'' p a ∧ But p H' H'' ∧ (ab = "Object" ∨ ab ∈ ks.map (·.nm)), ?_, ?_⟩
      · obtain ⟨rs, gk, lrs, hrs⟩ := id hX
        simp! only [gk]
        refine ite2 (fun hi0 => ?_) (fun _ => ⟨dr, fun _ _ => rfl, .inl trivial⟩)
        refine ⟨p, a, 3, rfl, dr, by decide, by decide, fun d1 H5 _ dr5 b5 => ⟨_, rfl, ite2 (fun _ => ?_) (fun _ => ⟨dr5, b5, .inl trivial⟩)⟩⟩
        refine ⟨p, a, i, rfl, dr5, by omega, by omega, fun d2 H6 hd2 dr6 b6 => ⟨_, rfl, ?_⟩⟩
        rw [b6 kq kqp, b5 kq kqp, gk]
        dsimp only
        have hdl : d2 < rs.length := by omega
        have hdk : d2 < ks.length := by omega
        obtain ⟨o, gt, rn, go, on⟩ := hrs d2 rs[d2] ks[d2] (List.getElem?_eq_getElem hdl) (List.getElem?_eq_getElem hdk)
        have rp : rs[d2] ≠ p := fun z => rn (by rw [z]; exact List.mem_cons_self)
        exact ⟨V.ref rs[d2], atI_nat (by rw [List.getElem?_map, List.getElem?_eq_getElem hdl]; rfl), rs[d2], rfl, _, .inl (.inl (by rw [b6 _ rp, b5 _ rp]; exact gt)), _, rfl, _, _, _, _, ks[d2].nm, rfl, rfl, rfl, rfl, rfl, dr6, fun q hq => (b6 q hq).trans (b5 q hq), .inr (List.mem_map_of_mem (List.getElem_mem hdk))⟩
      · rintro σ'' H4 ⟨c7, c8, c9, c10, ab, rfl, dr4, b4, hab⟩
        simp! only []
        have ex4 : Ex [p, kq] H H4 := ex.but List.mem_cons_self b4
        have e44 : Ex [p, kq] H' H4 := Ex.refl.but List.mem_cons_self b4
        have hX4 : LksX H4 [p, kq] kq ks := hX.go e44 fun x hx => (b4 _ kqp).trans hx
        have gn4 := (b4 _ nmp).trans gn
        have gf4 := (b4 _ flp).trans gf
        obtain ⟨_, _, hfs⟩ := dk.tree
        have hl5 := dk.names.2
        refine ⟨kq, ks, ab, rfl, hX4.at, by omega, fun k hk => by have := (hfs k hk).1; omega, fun H5 tk s5 htk gtk => ⟨Nat.zero_le _, fun o ho => ?_⟩⟩
        obtain ⟨op4, gp4⟩ := dr4.hp
        have gp5 := s5 _ _ gp4
        have tkp : tk ≠ p := Ne.symm (ne_of_none gp4 htk)
        have tko : tk ≠ o := ne_of_none gtk ho
        have opn : o ≠ p := Ne.symm (ne_of_none gp5 ho)
        have fo : fl ≠ o := ne_of_none (s5 _ _ gf4) ho
        have no : nm ≠ o := ne_of_none (s5 _ _ gn4) ho
        have s6 := same_new (o := HO.lst []) ho
        refine for_rngX (fun j H1 => j ≤ 3 ∧ Dr K H1 p a ∧ But p (upd H5 o (HO.lst [])) H1) (fun R h => ?_) (fun j H1 h => by have := h.1; omega) (fun m t σ' H7 => ∃ (c9 c10 : Option V) (ys : List Str), σ' = [some (.ref p), some (.ref a), some (.ref nm), some (.ref fl), some (.ref kq), some (.int (i : Nat)), some (.str ab), some (.ref tk), some (.ref o), c9, c10] ∧ Dr K H7 p a ∧ Ex [p, o] H5 H7 ∧
          H7 o = some (.lst (ys.map V.str)) ∧ ys.length ≤ t ∧ ys.Nodup ∧ (∀ x ∈ ys, x ∈ fields8) ∧ (∀ x ∈ ys, x ∉ allL ks ab) ∧ m ≤ 3) ?_ ?_ ?_
        · simp! only []
          refine ⟨p, a, 4, rfl, (dr4.same s5).same s6, by decide, by decide, fun d H1 hd dr b => ?_⟩
          exact h _ _ ⟨by omega, dr, b⟩
        · rintro m H1 ⟨m1, dr1, b1⟩
          exact ⟨_, _, [], rfl, dr1, (Ex.same s6).but List.mem_cons_self b1, (b1 _ opn).trans upd_same, Nat.le_refl _, List.nodup_nil, fun x hx => absurd hx List.not_mem_nil, fun x hx => absurd hx List.not_mem_nil, m1⟩
        · rintro m t σ' H7 hmt ⟨c9, c10, ys, rfl, dr7, e7, g7, l7, nd7, f7, a7, m3⟩
          have gf7 := e7 _ _ (by simp only [List.mem_cons, List.not_mem_nil, or_false]; exact fun z => z.elim flp fo) (s5 _ _ gf4)
          have gt7 := e7 _ _ (by simp only [List.mem_cons, List.not_mem_nil, or_false]; exact fun z => z.elim tkp tko) gtk
          simp! only [gf7, gt7, g7]
          refine ⟨p, a, 8, rfl, dr7, by decide, by decide, fun d H8 hd dr8 b8 => ⟨_, rfl, ?_⟩⟩
          have e8 : Ex [p, o] H5 H8 := e7.but List.mem_cons_self b8
          have f8l : fields8.length = 8 := rfl
          have hin : fields8[d] ∈ fields8 := List.getElem_mem (by omega)
          rw [b8 fl flp, gf7, b8 o opn, g7, b8 tk tkp, gt7]
          dsimp only
          refine ⟨.str fields8[d], atI_nat (by rw [List.getElem?_map, List.getElem?_eq_getElem (by omega)]; rfl), rfl, by rw [List.all_map, List.all_eq_true]; exact fun _ _ => rfl, ?_⟩
          have stay : Dr K H8 p a ∧ Ex [p, o] H5 H8 ∧ ∃ zs : List Str, some (HO.lst (ys.map V.str)) = some (HO.lst (zs.map V.str)) ∧ zs.length ≤ t + 1 ∧ zs.Nodup ∧ (∀ x ∈ zs, x ∈ fields8) ∧ (∀ x ∈ zs, x ∉ allL ks ab) ∧ m ≤ 3 := ⟨dr8, e8, ys, rfl, by omega, nd7, f7, a7, m3⟩
          rw [inV_strs]
          refine ite2 (fun h1 => ⟨rfl, by rw [List.all_map, List.all_eq_true]; exact fun _ _ => rfl, ?_⟩) (fun _ => stay)
          rw [inV_strs]
          refine ite2 (fun h2 => ⟨_, rfl, by rw [List.length_map]; omega, (dr4.same s5).put ho dr8 opn, e8.upd (List.mem_cons_of_mem _ List.mem_cons_self), ys ++ [fields8[d]], by rw [List.map_append]; rfl, by rw [List.length_append, List.length_singleton]; omega, ?_, ?_, ?_, m3⟩) (fun _ => stay)
          · rw [List.nodup_append]
            refine ⟨nd7, List.nodup_cons.mpr ⟨List.not_mem_nil, List.nodup_nil⟩, fun x hx y hy e => ?_⟩
            rw [List.mem_singleton] at hy
            exact of_decide_eq_false h1 (hy ▸ e ▸ hx)
          · intro x hx
            rcases List.mem_append.mp hx with z | z
            · exact f7 x z
            · rw [List.mem_singleton] at z
              rw [z]
              exact hin
          · intro x hx
            rcases List.mem_append.mp hx with z | z
            · exact a7 x z
            · rw [List.mem_singleton] at z
              rw [z]
              exact of_decide_eq_false h2
        · rintro m σ' H7 ⟨c9, c10, ys, rfl, dr7, e7, g7, l7, nd7, f7, a7, m3⟩
          have gn7 := e7 _ _ (by simp only [List.mem_cons, List.not_mem_nil, or_false]; exact fun z => z.elim nmp no) (s5 _ _ gn4)
          simp! only [gn7]
          obtain ⟨rs, gk4, lrs, hrs⟩ := id hX4
          have gk5 := s5 _ _ gk4
          have kqo : kq ≠ o := ne_of_none gk5 ho
          have nin : ∀ {b : Addr}, b ≠ p → b ≠ o → b ∉ [p, o] := fun {b} h1 h2 => by
            simp only [List.mem_cons, List.not_mem_nil, or_false]
            exact fun z => z.elim h1 h2
          have gk7 := e7 _ _ (nin kqp kqo) gk5
          rw [gk7]
          dsimp only
          have n5l : names5.length = 5 := rfl
          refine ⟨.str names5[i], atI_nat (by rw [List.getElem?_map, List.getElem?_eq_getElem (by omega)]; rfl), by decide, fun tt htt => ?_⟩
          have s8 := same_new (o := HO.tup [V.str names5[i], V.str ab, V.ref o]) htt
          have g8t : upd H7 tt (HO.tup [V.str names5[i], V.str ab, V.ref o]) tt = some (HO.tup [V.str names5[i], V.str ab, V.ref o]) := upd_same
          have dr8 := dr7.same s8
          obtain ⟨_, gp8⟩ := dr7.hp
          have ttp : tt ≠ p := Ne.symm (ne_of_none gp8 htt)
          have ttk : tt ≠ kq := Ne.symm (ne_of_none gk7 htt)
          generalize upd H7 tt (HO.tup [V.str names5[i], V.str ab, V.ref o]) = H8 at s8 g8t dr8 ⊢
          have e48 : ∀ {b : Addr} {x : HO}, b ≠ p → H4 b = some x → H8 b = some x := fun {b x} h1 h2 => s8 _ _ (e7 _ _ (nin h1 (ne_of_none (s5 _ _ h2) ho)) (s5 _ _ h2))
          have o4 : H4 o = none := no_of s5 ho
          have nin2 : ∀ {b : Addr}, b ≠ p → b ≠ kq → b ∉ [p, kq] := fun {b} h1 h2 => by
            simp only [List.mem_cons, List.not_mem_nil, or_false]
            exact fun z => z.elim h1 h2
          have dk2 : DK (ks ++ [⟨names5[i], ab, ys⟩]) := .snoc dk (by rw [lk, List.getElem?_eq_getElem (by omega)]) hab (by show ys.length ≤ 3; omega) nd7 f7 a7
          refine ⟨_, s8 _ _ gk7, by rw [List.length_map]; omega, (hDr.same s12).put hkq dr8 kqp, fun b x hb hx => ?_, ?_, ?_, _, dk2, by rw [List.length_append, lk]; rfl, ⟨rs ++ [tt], by rw [upd_same, List.map_append]; rfl, by rw [List.length_append, List.length_append, lrs]; rfl, fun n r q h1 h2 => ?_⟩, j1, j2⟩
          · have hbp : b ≠ p := fun z => hb (by rw [z]; exact List.mem_cons_self)
            have hbk : b ≠ kq := fun z => hb (by rw [z]; exact List.mem_cons_of_mem _ List.mem_cons_self)
            rw [upd_ne hbk]
            exact e48 hbp (ex4 b x hb hx)
          · rw [upd_ne nmk]
            exact e48 nmp gn4
          · rw [upd_ne flk]
            exact e48 flp gf4
          · by_cases hn : n < rs.length
            · rw [List.getElem?_append_left hn] at h1
              rw [List.getElem?_append_left (by omega)] at h2
              obtain ⟨oo, x1, x2, x3, x4⟩ := hrs n r q h1 h2
              have r1 : r ≠ p := fun z => x2 (by rw [z]; exact List.mem_cons_self)
              have r2 : r ≠ kq := fun z => x2 (by rw [z]; exact List.mem_cons_of_mem _ List.mem_cons_self)
              have o1 : oo ≠ p := fun z => x4 (by rw [z]; exact List.mem_cons_self)
              have o2 : oo ≠ kq := fun z => x4 (by rw [z]; exact List.mem_cons_of_mem _ List.mem_cons_self)
              exact ⟨oo, by rw [upd_ne r2]; exact e48 r1 x1, x2, by rw [upd_ne o2]; exact e48 o1 x3, x4⟩
            · rw [List.getElem?_append_right (by omega)] at h1
              rw [List.getElem?_append_right (by omega)] at h2
              have hn0 : n - rs.length = 0 := by
                have := (List.getElem?_eq_some_iff.mp h1).1
                rw [List.length_singleton] at this
                omega
              rw [← lrs, hn0] at h2
              rw [hn0] at h1
              cases h1
              cases h2
              exact ⟨o, by rw [upd_ne ttk]; exact g8t, nin2 ttp ttk, by rw [upd_ne (Ne.symm kqo)]; exact s8 _ _ g7, nin2 opn (Ne.symm kqo)⟩
    · rintro j σ' H' ⟨c5, c6, c7, c8, c9, c10, ks, rfl, dr, ex, gn, gf, dk, lk, hX, j1, j2⟩
      simp! only [rIsL]
      refine k H' kq ks (fun b x n e => ex b x ?_ e) hkq0 dr dk (by omega) hX
      simp only [List.mem_cons, List.not_mem_nil, or_false]
      rintro (z | z)
      · exact n (by rw [z]; exact List.mem_cons_self)
      · rw [z, hkq0] at e
        cases e
end

def sp_lwhy (K : PySem.W.Frag) (A : Ad) : Sp := fun vs H Q _ => ∃ (p o : Addr) (ks : List Lk) (n s : Str) (xs : List Str) (m : Nat), vs = [.ref p, .str n, .str s, .ref o] ∧ LksAt K H p ks ∧ H o = some (.lst (xs.map V.str)) ∧ TR ks m ∧ 1 ≤ m ∧ m ≤ 9 ∧ xs.length ≤ 40 ∧ (∀ x ∈ xs, x.length ≤ 100000) ∧ ∀ H', Same H H' → Q (.str ((lawW ks n s xs).getD "")) H'
theorem sp_lwhy_len {K A vs H Q E} (h : sp_lwhy K A vs H Q E) : vs.length = (["kinds", "name", "above", "own"] : List Str).length := by
  obtain ⟨_, _, _, _, _, _, _, rfl, _⟩ := h
  rfl
section
variable {P : Program} {w : World} {K : PySem.W.Frag} {mg : Str → Option Value} {base : Heap} {A : Ad}
theorem ok__law_why (T : Txt K mg A) : FnOk P w K mg base CX0 2 A.f__law_why A.d__law_why ["kinds", "name", "above", "own"] (sp_lwhy K A) := by
  refine Fun.ok T.F__law_why sc__law_why (fun vs H Q E h => ?_) (fun cdv Ar outer s H vs Q E hr h => ?_)
  · exact sp_lwhy_len h
  · have hu := hu_of hr
    refine ⟨_, (pss_cons (ps_setLc (i := 5) (own := [("one", 4)]) (g := gName 4) rfl sc__law_why.nd rfl rfl (sw_true rfl rfl rfl (by decide +kernel)) (pi_list (pv 0)) (blkOk_by (own := [("one", 4)]) (N := ["kinds", "name", "above", "own", "one", "names", "k", "behind", "fields"]) (sc := defScope s__law_why) (by decide +kernel)) (fun _ _ _ _ _ => pg_name (i := 4) sc__law_why.nd rfl (Or.inl rfl)) (fun _ _ _ _ _ => pts_nil) (fun _ _ _ _ _ => (pe_ix (ix_tupK (K := K) rfl) (pv 4) pe_int (fun _ _ => rfl))))
    (pss_cons (ps_if (pt_cmpR op_in_seq (pv 1) (pe_glob (v := .ref A.t_KERNEL) (by rfl) T.c_KERNEL rfl) (by rfl)) (pss_one (ps_ret pe_str)) pss_nil)
    (pss_cons (ps_if (pt_cmpR op_notInM (pv 1) (pv 5) (by rfl)) (pss_one (ps_ret pe_str)) pss_nil)
    (Evl.pss_cut (ps_if (PW.pt (pw_and (pt_cmpR op_ne (pv 2) pe_str (nomark _)) (pw_and1 (pt_cmpR op_notInM (pv 2) (pv 5) (by rfl))))) (pss_one (ps_ret pe_str)) pss_nil)
    (Evl.pss_cut (ps_if (PW.pt (pw_and (pt_cmpR op_ne (pv 2) pe_str (nomark _)) (pw_and1 (pt_val (pe_call (ok__law_under T) (hr.mono (by decide)) (by rfl) T.g__law_under T.k__law_under T.b__law_under .nil pass0 (pa_cons (pv 0) (pa_cons (pv 2) (pa_cons (pv 1) pa_nil)))))))) (pss_one (ps_ret pe_str)) pss_nil)
    (pss_cons (ps_for PassesOwn.never rfl (pi_range1 (by rfl) T.z_range (pa_cons (pe_callB call_lenM (by rfl) T.z_len PySem.boot_len (pa_cons (pv 3) pa_nil)) pa_nil)) (pg_name (i := 6) sc__law_why.nd rfl (Or.inl rfl))
      (pss_cons (ps_if (pt_not (pt_val (pe_call (ok__law_good T) (hr.mono (by decide)) (by rfl) T.g__law_good T.k__law_good T.b__law_good .nil pass0 (pa_cons (pe_ix ix_lstM (pv 3) (pv 6) (fun _ _ => rfl)) pa_nil)))) (pss_one (ps_ret pe_str)) pss_nil)
    (pss_one (ps_if (pt_cmpR op_inM (pe_ix ix_lstM (pv 3) (pv 6) (fun _ _ => rfl)) (pe_slice sl_listM (pv 3) po_none (po_some (pv 6))) (by rfl)) (pss_one (ps_ret pe_str)) pss_nil))))
    (pss_cons (ps_asg (pe_call (ok__law_behind T) (hr.mono (by decide)) (by rfl) T.g__law_behind T.k__law_behind T.b__law_behind .nil pass0 (pa_cons (pv 0) (pa_cons (pv 1) (pa_cons (pv 2) (pa_cons (pv 3) pa_nil))))) (pg_name (i := 7) sc__law_why.nd rfl (Or.inl rfl)))
    (pss_cons (ps_for PassesOwn.never rfl (pi_list (pv 0)) (pg_name (i := 4) sc__law_why.nd rfl (Or.inl rfl))
      (pss_one (ps_if (pt_val (pe_call (ok__law_under T) (hr.mono (by decide)) (by rfl) T.g__law_under T.k__law_under T.b__law_under .nil pass0 (pa_cons (pv 0) (pa_cons (pe_ix ix_tup (pv 4) pe_int (fun _ _ => rfl)) (pa_cons (pv 1) pa_nil))))) (pss_cons (ps_asg (pe_call (ok__law_all T) (hr.mono (by decide)) (by rfl) T.g__law_all T.k__law_all T.b__law_all .nil pass0 (pa_cons (pv 7) (pa_cons (pe_ix ix_tup (pv 4) pe_int (fun _ _ => rfl)) pa_nil))) (pg_name (i := 8) sc__law_why.nd rfl (Or.inl rfl)))
    (pss_cons (ps_for PassesOwn.never rfl (pi_range1 (by rfl) T.z_range (pa_cons (pe_callB call_lenM (by rfl) T.z_len PySem.boot_len (pa_cons (pv 8) pa_nil)) pa_nil)) (pg_name (i := 6) sc__law_why.nd rfl (Or.inl rfl))
      (pss_one (ps_if (pt_cmpR op_inM (pe_ix ix_lstM (pv 8) (pv 6) (fun _ _ => rfl)) (pe_slice sl_listM (pv 8) po_none (po_some (pv 6))) (by rfl)) (pss_one (ps_ret pe_str)) pss_nil)))
    (pss_one (ps_if (pt_cmpR op_gt (pe_callB call_lenM (by rfl) T.z_len PySem.boot_len (pa_cons (pv 8) pa_nil)) pe_int (nomark _)) (pss_one (ps_ret pe_str)) pss_nil)))) pss_nil)))
    (pss_one (ps_ret pe_str)))))))))), ?_⟩
    obtain ⟨p, o, ks, n, s, xs, m, rfl, hK, go, hT, hm, hm9, hl, hx, k⟩ := h
    have szl : (2000 : Nat) < sizeLine := by decide
    have flat : (kern.map V.str).all flatV = true := by decide
    obtain ⟨rs, gp, lrs, hrs⟩ := id hK
    have h5 := hT.len
    simp! only [rIn]
    refine lc_lstI (K := K) (a := p) (rs.map V.ref) (fun _ => true) (fun i y => ∃ q : Lk, ks[i]? = some q ∧ y = .str q.nm) (fun R h => ⟨_, rfl, h⟩) (.inl (.inl gp)) (by rw [List.length_map]; omega) (fun i x H' R _ _ h => h) (fun i x H' R hi _ sm h => ?_) (fun D ys hD hy => ?_)
    · rw [List.getElem?_map] at hi
      obtain ⟨r, hr2, rfl⟩ := Option.map_eq_some_iff.mp hi
      have hil := (List.getElem?_eq_some_iff.mp hr2).1
      have hk2 : ks[i]? = some ks[i] := List.getElem?_eq_getElem (by omega)
      obtain ⟨ow, ht, _⟩ := (hrs i r ks[i] hr2 hk2).same sm
      simp! only [ht]
      exact ⟨_, ht, _, rfl, h _ ⟨ks[i], hk2, rfl⟩⟩
    · rw [List.length_map] at hy
      have ey : ys = (ks.map (·.nm)).map V.str := by
        obtain ⟨e1, e2⟩ := hy.all
        apply List.ext_getElem?
        intro i
        by_cases hi : i < ys.length
        · obtain ⟨q, hq, e⟩ := e2 i ys[i] (List.getElem?_eq_getElem hi)
          rw [List.getElem?_eq_getElem hi, e, List.getElem?_map, List.getElem?_map, hq]
          rfl
        · rw [List.getElem?_eq_none (by omega), List.getElem?_eq_none (by rw [List.length_map, List.length_map]; omega)]
      subst ey
      have kk : ∀ w, lawW ks n s xs = some w → ∀ H', Same H H' → Q (.str w) H' := fun w e H' sm => by
        have := k H' sm
        rw [e] at this
        exact this
      have k0 : lawW ks n s xs = none → ∀ H', Same H H' → Q (.str "") H' := fun e H' sm => by
        have := k H' sm
        rw [e] at this
        exact this
      have s1 := same_new (o := HO.lst ((ks.map (·.nm)).map V.str)) hD
      have gD : upd H D (HO.lst ((ks.map (·.nm)).map V.str)) D = some (HO.lst ((ks.map (·.nm)).map V.str)) := upd_same
      generalize upd H D (HO.lst ((ks.map (·.nm)).map V.str)) = H1 at s1 gD ⊢
      have fln : ((ks.map (·.nm)).map V.str).all flatV = true := by rw [List.all_map, List.all_eq_true]; exact fun _ _ => rfl
      refine ⟨kern.map V.str, .inr (T.q_KERNEL H1), rfl, flat, ?_⟩
      rw [inV_strs]
      refine ite2 (fun h1 => kk _ ?_ H1 s1) (fun h1 => ⟨D, rfl, ?_⟩)
      · unfold lawW
        rw [if_pos (of_decide_eq_true h1)]
      rw [gD]
      dsimp only
      refine ⟨rfl, fln, ?_⟩
      have h1' : n ∉ kern := fun z => h1 (decide_eq_true z)
      rw [inV_strs]
      refine ite2 (fun h2 => kk _ ?_ H1 s1) (fun h2 => ?_)
      · unfold lawW
        rw [if_neg h1', if_pos (of_decide_eq_false h2)]
      have h2' : n ∈ ks.map (·.nm) := Classical.byContradiction fun z => h2 (decide_eq_false z)
      refine ⟨fun σ' H' => σ' = [some (.ref p), some (.str n), some (.str s), some (.ref o), none, some (.ref D), none, none, none] ∧ H' = H1 ∧ ¬ (s ≠ "Object" ∧ s ∉ ks.map (·.nm)), ?_, ?_⟩
      · simp! only [gD]
        refine ite2 (fun h => ⟨rfl, fln, ?_⟩) (fun h => fun z => h z.1)
        rw [inV_strs]
        refine ite2 (fun h3 => kk _ ?_ H1 s1) (fun h3 => fun z => h3 (decide_eq_false z.2))
        unfold lawW
        rw [if_neg h1', if_neg (fun z => z h2'), if_pos ⟨h, of_decide_eq_false h3⟩]
      rintro σ' H' ⟨rfl, e, h3⟩
      subst e
      refine ⟨fun σ' H2 => σ' = [some (.ref p), some (.str n), some (.str s), some (.ref o), none, some (.ref D), none, none, none] ∧ H2 = H' ∧ ¬ (s ≠ "Object" ∧ n ∈ ups ks 21 s), ?_, ?_⟩
      · simp! only []
        refine ite2 (fun h => ⟨p, ks, s, n, rfl, hK.same s1, _, rfl, ite2 (fun h4 => kk _ ?_ H' s1) (fun h4 => ⟨rfl, fun z => h4 (decide_eq_true z.2)⟩)⟩) (fun h => fun z => h z.1)
        unfold lawW
        rw [if_neg h1', if_neg (fun z => z h2'), if_neg h3, if_pos ⟨h, of_decide_eq_true h4⟩]
      rintro σ' H2 ⟨rfl, e, h4⟩
      subst e
      have eW : lawW ks n s xs = match badF [] xs with
          | some w => some w
          | none => planBad (ks.map (·.nm)) (fun x => decide (n ∈ ups ks 21 x)) (allL (behindL ks n s xs)) := by
        unfold lawW
        rw [if_neg h1', if_neg (fun z => z h2'), if_neg h3, if_neg h4]
        all_goals (cases badF [] xs <;> rfl)
      refine for_rng ((xs.length : Nat) : Int) (fun R h => ?_) (by omega) (by omega) (fun i σ' H3 => ∃ c6 : Option V, σ' = [some (.ref p), some (.str n), some (.str s), some (.ref o), none, some (.ref D), c6, none, none] ∧ Same H2 H3 ∧ badF [] xs = badF (xs.take i) (xs.drop i)) ⟨_, rfl, sm_refl, rfl⟩ ?_ ?_
      · have go2 := s1 _ _ go
        simp! only [go2, List.length_map]
        exact h
      · rintro i σ' H3 hi ⟨c6, rfl, sm, e⟩
        have hil : i < xs.length := by omega
        have go3 := sm _ _ (s1 _ _ go)
        have hat : atI (xs.map V.str) ((i : Nat) : Int) = some (.str xs[i]) := atI_nat (by rw [List.getElem?_map, List.getElem?_eq_getElem hil]; rfl)
        have hdr : xs.drop i = xs[i] :: xs.drop (i + 1) := List.drop_eq_getElem_cons hil
        have htk : xs.take (i + 1) = xs.take i ++ [xs[i]] := by
          rw [List.take_add_one, List.getElem?_eq_getElem hil]
          rfl
        have hyl := hx xs[i] (List.getElem_mem hil)
        rw [hdr] at e
        rw [htk]
        generalize xs[i] = y at hat hyl e ⊢
        simp! only [go3, hat]
        refine ⟨y, rfl, hyl, fun H4 s4 => ⟨_, rfl, ite2 (fun hf => ?_) (fun hf => ?_)⟩⟩
        · refine kk "field" ?_ H4 (sm_trans s1 (sm_trans sm s4))
          rw [eW, e, badF, hf]
          rfl
        · have hf' : fieldOk y = true := (Bool.not_eq_false _).mp hf
          rw [s4 _ _ go3]
          dsimp only
          refine ⟨_, hat, ?_⟩
          rw [cutV_to, ← List.map_take]
          refine fun l hl2 => ?_
          refine ⟨rfl, by rw [List.all_map, List.all_eq_true]; exact fun _ _ => rfl, ?_⟩
          rw [inV_strs]
          have s5 := sm_trans sm (sm_trans s4 (same_new (o := HO.lst ((xs.take i).map V.str)) hl2))
          refine ite2 (fun hin => ?_) (fun hin => ⟨s5, e.trans ?_⟩)
          · refine kk "twice" ?_ _ (sm_trans s1 s5)
            rw [eW, e, badF, if_pos hf', if_pos (of_decide_eq_true hin)]
          · rw [badF, if_pos hf', if_neg (fun z => hin (decide_eq_true z))]
      · rintro σ' H3 ⟨c6, rfl, sm, e⟩
        rw [Int.toNat_natCast, List.drop_length] at e
        have e0 : badF [] xs = none := e
        rw [e0] at eW
        dsimp only at eW
        have s3 := sm_trans s1 sm
        simp! only []
        refine ⟨p, o, ks, n, s, xs, rfl, hK.same s3, by omega, s3 _ _ go, fun H4 bq s4 hbq hB => ?_⟩
        have s34 := sm_trans s3 s4
        have hBf : ∀ k ∈ behindL ks n s xs, k.fs.length ≤ 40 := by
          intro k hk
          unfold behindL at hk
          obtain ⟨q, hq, rfl⟩ := List.mem_map.mp hk
          by_cases e : q.nm = n
          · rw [if_pos e]
            exact hl
          · rw [if_neg e]
            exact hT.fl q hq
        have hBl : (behindL ks n s xs).length ≤ 100 := by
          unfold behindL
          rw [List.length_map]
          omega
        refine for_lst (K := K) (H0 := H4) (a := p) (rs.map V.ref) (fun R h => ⟨_, rfl, h⟩) (fun i σ' H5 => ∃ (c4 c6 c8 : Option V), σ' = [some (.ref p), some (.str n), some (.str s), some (.ref o), c4, some (.ref D), c6, some (.ref bq), c8] ∧ Same H4 H5 ∧ lawW ks n s xs = planBad ((ks.map (·.nm)).drop i) (fun x => decide (n ∈ ups ks 21 x)) (allL (behindL ks n s xs))) ⟨_, _, _, rfl, sm_refl, eW⟩ ?_ ?_ ?_
        · rintro i σ' H5 _ ⟨c4, c6, c8, rfl, sm5, _⟩
          exact .inl (.inl (sm5 _ _ (s34 _ _ gp)))
        · rintro i x σ' H5 hx2 ⟨c4, c6, c8, rfl, sm5, e5⟩
          rw [List.getElem?_map] at hx2
          obtain ⟨r, hr2, rfl⟩ := Option.map_eq_some_iff.mp hx2
          have hil := (List.getElem?_eq_some_iff.mp hr2).1
          have hk2 : ks[i]? = some ks[i] := List.getElem?_eq_getElem (by omega)
          obtain ⟨ow, ht, _⟩ := (hrs i r ks[i] hr2 hk2).same (sm_trans s34 sm5)
          have hdr : (ks.map (·.nm)).drop i = ks[i].nm :: (ks.map (·.nm)).drop (i + 1) := by
            rw [List.drop_eq_getElem_cons (by rw [List.length_map]; omega), List.getElem_map]
          rw [hdr] at e5
          generalize ks[i] = kd at ht e5 hk2
          have hKs := hK.same (sm_trans s34 sm5)
          simp! only [ht]
          refine ⟨_, ht, _, rfl, p, ks, kd.nm, n, rfl, hKs, _, rfl, ite2 (fun hin => ?_) (fun hin => ⟨sm5, e5.trans ?_⟩)⟩
          · have eb : planBad (kd.nm :: (ks.map (·.nm)).drop (i + 1)) (fun x => decide (n ∈ ups ks 21 x)) (allL (behindL ks n s xs)) = match bad1 (allL (behindL ks n s xs) kd.nm) with
                | some w => some w
                | none => planBad ((ks.map (·.nm)).drop (i + 1)) (fun x => decide (n ∈ ups ks 21 x)) (allL (behindL ks n s xs)) := by
              unfold planBad
              rw [List.findSome?_cons, if_pos hin]
              cases bad1 (allL (behindL ks n s xs) kd.nm) <;> rfl
            refine ⟨_, ht, _, rfl, bq, _, kd.nm, rfl, hB.same sm5, hBl, hBf, fun H6 f s6 hf gf => ?_⟩
            have fle : (allL (behindL ks n s xs) kd.nm).length ≤ 800 := by
              have := flat_le (ownF_le hBf) (ups (behindL ks n s xs) 20 kd.nm).reverse
              rw [List.length_reverse, ups_len] at this
              exact this
            generalize allL (behindL ks n s xs) kd.nm = fs at gf eb fle
            rw [eb] at e5
            have sm6 := sm_trans s34 (sm_trans sm5 s6)
            refine for_rng ((fs.length : Nat) : Int) (fun R h => ?_) (by omega) (by omega) (fun j σ' H7 => ∃ c6 : Option V, σ' = [some (.ref p), some (.str n), some (.str s), some (.ref o), some (.ref r), some (.ref D), c6, some (.ref bq), some (.ref f)] ∧ Same H6 H7 ∧ (fs.take j).Nodup) ⟨_, rfl, sm_refl, List.nodup_nil⟩ ?_ ?_
            · simp! only [gf, List.length_map]
              exact h
            · rintro j σ' H7 hj ⟨c6, rfl, sm7, nd⟩
              have hjl : j < fs.length := by omega
              have gf7 := sm7 _ _ gf
              have hat : atI (fs.map V.str) ((j : Nat) : Int) = some (.str fs[j]) := atI_nat (by rw [List.getElem?_map, List.getElem?_eq_getElem hjl]; rfl)
              simp! only [gf7, hat]
              rw [cutV_to, ← List.map_take]
              refine fun l hl2 => ?_
              refine ⟨rfl, by rw [List.all_map, List.all_eq_true]; exact fun _ _ => rfl, ?_⟩
              rw [inV_strs]
              have s8 := sm_trans sm7 (same_new (o := HO.lst ((fs.take j).map V.str)) hl2)
              refine ite2 (fun hin2 => ?_) (fun hin2 => ⟨s8, ?_⟩)
              · refine kk "twice" ?_ _ (sm_trans sm6 s8)
                have hb : bad1 fs = some ("twice" : Str) := by
                  have hd : ¬ distN fs fs.length = fs.length := fun z => by
                    have := (dist_nd fs fs.length (Nat.le_refl _)).mp z
                    rw [List.take_length] at this
                    have ss : (fs.take (j + 1)).Nodup := this.sublist (List.take_sublist _ _)
                    rw [List.take_add_one, List.getElem?_eq_getElem hjl, Option.toList_some, List.nodup_append] at ss
                    exact ss.2.2 _ (of_decide_eq_true hin2) _ List.mem_cons_self rfl
                  have := distN_le fs fs.length
                  unfold bad1
                  rw [if_pos (by omega)]
                rw [e5, hb]
              · rw [List.take_add_one, List.getElem?_eq_getElem hjl, Option.toList_some, List.nodup_append]
                refine ⟨nd, List.nodup_cons.mpr ⟨List.not_mem_nil, List.nodup_nil⟩, fun x hx y hy e => ?_⟩
                rw [List.mem_singleton] at hy
                exact hin2 (decide_eq_true (hy ▸ e ▸ hx))
            · rintro σ' H7 ⟨c6, rfl, sm7, nd⟩
              rw [Int.toNat_natCast, List.take_length] at nd
              have gf7 := sm7 _ _ gf
              have dn := (dist_nd fs fs.length (Nat.le_refl _)).mpr (by rw [List.take_length]; exact nd)
              simp! only [gf7, List.length_map]
              refine ite2 (fun hm => kk "many" ?_ _ (sm_trans sm6 sm7)) (fun hm => ⟨sm_trans sm5 (sm_trans s6 sm7), ?_⟩)
              · rw [e5]
                unfold bad1
                rw [if_neg (by omega), if_pos (by omega)]
              · rw [e5, bad1_ok nd (by omega)]
          · unfold planBad
            rw [List.findSome?_cons, if_neg hin]
        · rintro σ' H5 ⟨c4, c6, c8, rfl, sm5, e5⟩
          rw [List.length_map, lrs, ← List.length_map (f := fun q : Lk => q.nm), List.drop_length] at e5
          simp! only [rIsL]
          exact k0 e5 H5 (sm_trans s34 sm5)
end

theorem dpa_strs {K : PySem.W.Frag} {H : Hp} : ∀ xs : List Str, DpAll K H (xs.map V.str) (xs.map PyData.str)
  | [] => .nil
  | x :: xs => .cons (.str x) (dpa_strs xs)
theorem lay_strs : ∀ {xs : List Str}, (∀ x ∈ xs, PyData.canLay0 (.str x) = true) → PyData.canLayAll0 (xs.map PyData.str) = true
  | [], _ => rfl
  | x :: xs, h => by
    show (PyData.canLay0 (.str x) && PyData.canLayAll0 (xs.map PyData.str)) = true
    rw [h x List.mem_cons_self, lay_strs fun y hy => h y (List.mem_cons_of_mem _ hy)]
    rfl
theorem dep_strs : ∀ xs : List Str, PyData.depthAll (xs.map PyData.str) = 0
  | [] => rfl
  | x :: xs => by
    show max (PyData.depth (.str x)) (PyData.depthAll (xs.map PyData.str)) = 0
    rw [dep_strs xs]
    rfl
theorem lc_preT {K : PySem.W.Frag} {tl : TE} {g : TG} {tt : TT} {te : TE} {vs : List Nat} {σ : L2.St} {H : Hp} {Q : VK} (P : Addr → Hp → Prop) (htl : ∀ R : V → Hp → Prop, (∀ a H0, P a H0 → R (.ref a) H0) → tl σ H R)
    (h : ∀ a H0, P a H0 → tLc (iTup K fun _ H Q => Q (.ref a) H) g tt te vs σ H0 Q) : tLc (iTup K tl) g tt te vs σ H Q :=
  htl _ fun a H0 p => by
    obtain ⟨a', e, x⟩ := h a H0 p
    cases e
    exact ⟨a, rfl, x⟩
/-- kinds at the addresses of a row -/
def KsR (K : PySem.W.Frag) (C : Addr) (H : Hp) (rs : List Addr) (ks : List Kd) : Prop := rs.length = ks.length ∧ ∀ (i : Nat) (r : Addr) (k : Kd), rs[i]? = some r → ks[i]? = some k → KAt K C H r k
theorem KsR.same {K : PySem.W.Frag} {C : Addr} {H H' : Hp} {rs : List Addr} {ks : List Kd} (h : KsR K C H rs ks) (s : Same H H') : KsR K C H' rs ks := ⟨h.1, fun i r k a b => (h.2 i r k a b).same s⟩
theorem KsR.app {K : PySem.W.Frag} {C : Addr} {H : Hp} {rs rs2 : List Addr} {ks ks2 : List Kd} (h : KsR K C H rs ks) (h2 : KsR K C H rs2 ks2) : KsR K C H (rs ++ rs2) (ks ++ ks2) := by
  refine ⟨by rw [List.length_append, List.length_append, h.1, h2.1], fun i r k a b => ?_⟩
  by_cases hi : i < rs.length
  · rw [List.getElem?_append_left hi] at a
    rw [List.getElem?_append_left (by rw [← h.1]; exact hi)] at b
    exact h.2 i r k a b
  · rw [List.getElem?_append_right (by omega)] at a
    rw [List.getElem?_append_right (by rw [← h.1]; omega), ← h.1] at b
    exact h2.2 _ r k a b
theorem KsR.snoc {K : PySem.W.Frag} {C : Addr} {H : Hp} {rs : List Addr} {ks : List Kd} {r : Addr} {k : Kd} (h : KsR K C H rs ks) (h2 : KAt K C H r k) : KsR K C H (rs ++ [r]) (ks ++ [k]) :=
  h.app ⟨rfl, fun i x y a b => by
    match i, a, b with
    | 0, a, b =>
      cases a
      cases b
      exact h2
    | i + 1, a, b => simp at a⟩
theorem KAt.putl {K : PySem.W.Frag} {C : Addr} {H : Hp} {d : Addr} {xs ys : List V} {r : Addr} {k : Kd} (h : KAt K C H r k) (g : H d = some (.lst xs)) : KAt K C (upd H d (.lst ys)) r k := by
  obtain ⟨dx, t, h1, h2⟩ := h
  have ne : r ≠ d := fun z => by
    rw [z, g] at h1
    cases h1
  refine ⟨dx, t, by rw [upd_ne ne]; exact h1, ?_⟩
  rcases h2 with h2 | h2
  · refine .inl ?_
    have ne2 : t ≠ d := fun z => by
      unfold Rd at h2
      rw [z, g] at h2
      rcases h2 with h2 | ⟨_, h2⟩ <;> cases h2
    unfold Rd at h2 ⊢
    rw [upd_ne ne2]
    exact h2
  · exact .inr h2
theorem KsR.putl {K : PySem.W.Frag} {C : Addr} {H : Hp} {d : Addr} {xs ys : List V} {rs : List Addr} {ks : List Kd} (h : KsR K C H rs ks) (g : H d = some (.lst xs)) : KsR K C (upd H d (.lst ys)) rs ks := ⟨h.1, fun i r k a b => (h.2 i r k a b).putl g⟩
theorem kind_made {K : PySem.W.Frag} {C : Addr} {H1 : Hp} {x dx p : Addr} {nm : Str} {sup : Option Str} {fs : List Str} {Q : VK} {E : XK} (hx : H1 x = none) (hd : H1 dx = none) (hp : SqL K H1 p (fs.map V.str) ∨ SqT K H1 p (fs.map V.str)) (k : ∀ H2, Same H1 H2 → KAt K C H2 x ⟨nm, sup, fs⟩ → Q .non H2) :
    sp_kindI K C [.ref x, .str nm, supV sup, .ref p] (upd (upd H1 dx (.own x)) x (.ins C dx [])) Q E := by
  have s1 : Same H1 (upd (upd H1 dx (.own x)) x (.ins C dx [])) := sm_upd (same_new hd) hx
  refine ⟨x, dx, p, nm, sup, fs, rfl, upd_same, hp.imp (fun h => h.same s1) (fun h => h.same s1), fun H2 j ka => k H2 (fun b o e => j b o (fun z => ?_) (s1 _ _ e)) ka⟩
  rw [z, hx] at e
  cases e
/-- the kinds of the kernel but the first one -/
theorem lc_kern {K : PySem.W.Frag} {mg : Str → Option Value} {A : Ad} (T : Txt K mg A) {c : Nat} {σ : L2.St} {H : Hp} {Q : VK} (hc : c < σ.length) (k : ∀ D H' rs, Same H H' → H D = none → H' D = some (.lst (rs.map V.ref)) → KsR K A.C_Kind H' rs (kern.tail.map fun x => ⟨x, some "Object", []⟩) → Q (.ref D) H') :
    tLc (iTup K (tSl (rSlT K) (tC (V.ref A.t_KERNEL)) (tPart (tC (V.int 1))) tNoPart)) (gName c) tYes (tMake A.C_Kind (sp_kindI K A.C_Kind) [] E0 (tCons (tVar c) (tCons (tC (V.str (Str.ofString "Object"))) (tCons (tTup tNil) tNil)))) [c] σ H Q := by
  have szl : (2000 : Nat) < sizeLine := by decide
  refine lc_preT (fun a H0 => Same H H0 ∧ SqT K H0 a (kern.tail.map V.str)) (fun R h => ?_) (fun a H0 p => ?_)
  · simp! only []
    refine ⟨A.t_KERNEL, kern.map V.str, rfl, T.q_KERNEL H, by decide, fun l hl => h l _ ⟨same_new hl, ?_⟩⟩
    have e : cutV (kern.map V.str) (some 1) none = kern.tail.map V.str := rfl
    rw [e]
    exact .inl (.inl upd_same)
  · obtain ⟨s0, ha⟩ := p
    refine lc_tupA (a := a) (kern.tail.map V.str) (fun R h => h) ha (fun D i H' => Same H0 H' ∧ ∃ rs : List Addr, H' D = some (.lst (rs.map V.ref)) ∧ KsR K A.C_Kind H' rs ((kern.tail.take i).map fun x => ⟨x, some "Object", []⟩)) (fun D hD => ⟨same_new hD, [], upd_same, rfl, (fun (i : Nat) r q (hj : ([] : List Addr)[i]? = some r) => by simp at hj)⟩) (fun D i H' _ p => ha.same p.1) (fun D i x H' hD hi p => ?_) (fun D H' hD p => ?_)
    · obtain ⟨sm, rs, gD, hr⟩ := p
      rw [List.getElem?_map] at hi
      obtain ⟨y, hy, rfl⟩ := Option.map_eq_some_iff.mp hi
      have hil := (List.getElem?_eq_some_iff.mp hy).1
      have kl : kern.tail.length = 14 := rfl
      simp! only []
      refine ⟨_, List.getElem?_set_self (by rw [List.length_set]; exact hc), Nat.zero_le _, fun tp htp x dx hx hdx _ => ?_⟩
      have s1 := same_new (o := HO.tup []) htp
      refine kind_made (sup := some "Object") (fs := []) hx hdx (.inr (.inl (.inl upd_same))) fun H2 s2 ka => ⟨rfl, ?_⟩
      have s12 := sm_trans s1 s2
      have g2 := s12 _ _ gD
      refine ⟨_, g2, by rw [List.length_map, hr.1, List.length_map, List.length_take]; omega, sm_upd (sm_trans sm s12) hD, rs ++ [x], by rw [List.map_append]; rfl, ?_⟩
      rw [List.take_add_one, hy, Option.toList_some, List.map_append]
      exact ((hr.same s12).snoc ka).putl g2
    · obtain ⟨sm, rs, gD, hr⟩ := p
      rw [List.length_map, List.take_length] at hr
      exact k D H' rs (sm_trans s0 sm) (no_of s0 hD) gD hr
/-- the kinds of the law, made -/
theorem lc_given {K : PySem.W.Frag} {mg : Str → Option Value} {A : Ad} (T : Txt K mg A) {tl : TE} {c : Nat} {σ : L2.St} {H : Hp} {Q : VK} {p : Addr} {ks : List Lk} (htl : ∀ R : V → Hp → Prop, R (.ref p) H → tl σ H R) (hK : LksAt K H p ks) (hl : ks.length ≤ 5) (hc : c < σ.length) (k : ∀ D H' rs, Same H H' → H D = none → H' D = some (.lst (rs.map V.ref)) → KsR K A.C_Kind H' rs (ks.map Lk.kd) → Q (.ref D) H') :
    tLc (iList K tl) (gName c) tYes (tMake A.C_Kind (sp_kindI K A.C_Kind) [] E0 (tCons (tOp (rIxT K) (tVar c) (tC (V.int 0))) (tCons (tOp (rIxT K) (tVar c) (tC (V.int 1))) (tCons (tOp (rIxT K) (tVar c) (tC (V.int 2))) tNil)))) [c] σ H Q := by
  have szl : (2000 : Nat) < sizeLine := by decide
  obtain ⟨qs, gp, lqs, hqs⟩ := id hK
  refine lc_lstA (a := p) (qs.map V.ref) htl (.inl (.inl gp)) (fun D i H' => Same H H' ∧ ∃ rs : List Addr, H' D = some (.lst (rs.map V.ref)) ∧ KsR K A.C_Kind H' rs ((ks.take i).map Lk.kd)) (fun D hD => ⟨same_new hD, [], upd_same, rfl, (fun (i : Nat) r q (hj : ([] : List Addr)[i]? = some r) => by simp at hj)⟩) (fun D i H' _ p => .inl (.inl (p.1 _ _ gp))) (fun D i x H' hD hi p => ?_) (fun D H' hD p => ?_)
  · obtain ⟨sm, rs, gD, hr⟩ := p
    rw [List.getElem?_map] at hi
    obtain ⟨r, hr2, rfl⟩ := Option.map_eq_some_iff.mp hi
    have hil := (List.getElem?_eq_some_iff.mp hr2).1
    have hk2 : ks[i]? = some ks[i] := List.getElem?_eq_getElem (by omega)
    obtain ⟨ow, ht, gow⟩ := (hqs i r ks[i] hr2 hk2).same sm
    generalize ks[i] = kd at ht gow hk2
    have hv : ((List.set σ c none).set c (some (V.ref r)))[c]? = some (some (V.ref r)) := List.getElem?_set_self (by rw [List.length_set]; exact hc)
    simp! only [hv, ht]
    refine ⟨_, ht, _, rfl, _, ht, _, rfl, _, ht, _, rfl, fun x dx hx hdx _ => ?_⟩
    refine kind_made (sup := some kd.ab) (fs := kd.fs) hx hdx (.inl (.inl (.inl gow))) fun H2 s2 ka => ⟨rfl, ?_⟩
    have g2 := s2 _ _ gD
    refine ⟨_, g2, by rw [List.length_map, hr.1, List.length_map, List.length_take]; omega, sm_upd (sm_trans sm s2) hD, rs ++ [x], by rw [List.map_append]; rfl, ?_⟩
    rw [List.take_add_one, hk2, Option.toList_some, List.map_append]
    exact ((hr.same s2).snoc ka).putl g2
  · obtain ⟨sm, rs, gD, hr⟩ := p
    rw [List.length_map, lqs, List.take_length] at hr
    exact k D H' rs sm hD gD hr
/-- one row of what is told of a plan -/
def RowAt (K : PySem.W.Frag) (H : Hp) (c : Addr) (w : Rw3) : Prop := ∃ o n g, H c = some (.lst [.str w.1, .ref o, .ref n, .ref g]) ∧ SqT K H o (w.2.1.map V.str) ∧ SqT K H n (w.2.2.map V.str) ∧ SqT K H g (w.2.2.map (orgV w.2.1))
theorem RowAt.same {K : PySem.W.Frag} {H H' : Hp} {c : Addr} {w : Rw3} (h : RowAt K H c w) (s : Same H H') : RowAt K H' c w :=
  let ⟨o, n, g, a, b, c, d⟩ := h; ⟨o, n, g, s _ _ a, b.same s, c.same s, d.same s⟩
theorem RowAt.putl {K : PySem.W.Frag} {H : Hp} {c d : Addr} {w : Rw3} {es : List Addr} {ys : List V} (h : RowAt K H c w) (g : H d = some (.lst (es.map V.ref))) : RowAt K (upd H d (.lst ys)) c w := by
  obtain ⟨o, n, q, h1, h2, h3, h4⟩ := h
  have tt : ∀ {t : Addr} {zs : List V}, SqT K H t zs → SqT K (upd H d (.lst ys)) t zs := fun {t zs} h => by
    rcases h with h | h
    · refine .inl ?_
      have ne2 : t ≠ d := fun z => by
        unfold Rd at h
        rw [z, g] at h
        rcases h with h | ⟨_, h⟩ <;> cases h
      unfold Rd at h ⊢
      rw [upd_ne ne2]
      exact h
    · exact .inr h
  have ne : c ≠ d := fun z => by
    rw [z, g] at h1
    have e := HO.lst.inj (Option.some.inj h1)
    cases es with
    | nil => cases e
    | cons a es => cases e
  exact ⟨o, n, q, by rw [upd_ne ne]; exact h1, tt h2, tt h3, tt h4⟩
def RowsAt (K : PySem.W.Frag) (H : Hp) (e : Addr) (ws : List Rw3) : Prop := ∃ cs : List Addr, H e = some (.lst (cs.map V.ref)) ∧ cs.length = ws.length ∧ ∀ (i : Nat) (c : Addr) (w : Rw3), cs[i]? = some c → ws[i]? = some w → RowAt K H c w
theorem RowsAt.same {K : PySem.W.Frag} {H H' : Hp} {e : Addr} {ws : List Rw3} (h : RowsAt K H e ws) (s : Same H H') : RowsAt K H' e ws :=
  let ⟨cs, a, b, c⟩ := h; ⟨cs, s _ _ a, b, fun i x w h1 h2 => (c i x w h1 h2).same s⟩
/-- what is told of a plan: a word and the rows -/
def ResAt (K : PySem.W.Frag) (H : Hp) (r : Addr) (w : Str) (ws : List Rw3) : Prop := ∃ e, H r = some (.lst [.str w, .ref e]) ∧ RowsAt K H e ws
theorem ResAt.same {K : PySem.W.Frag} {H H' : Hp} {r : Addr} {w : Str} {ws : List Rw3} (h : ResAt K H r w ws) (s : Same H H') : ResAt K H' r w ws :=
  let ⟨e, a, b⟩ := h; ⟨e, s _ _ a, b.same s⟩
def rowsIf (w : Option Str) (ws : List Rw3) : List Rw3 := match w with | none => ws | some _ => []
def sp_lplanned (K : PySem.W.Frag) (A : Ad) : Sp := fun vs H Q _ => ∃ (p o : Addr) (ks : List Lk) (n s : Str) (xs : List Str) (ln ln2 : Str → List Str), vs = [.ref p, .str n, .str s, .ref o] ∧ LksAt K H p ks ∧ H o = some (.lst (xs.map V.str)) ∧ PlanIn (full ks) n s xs ln ln2 ∧ (∀ x ∈ xs, PyData.canLay0 (.str x) = true) ∧ ks.length ≤ 5 ∧
  ∀ H' r, Same H H' → H r = none → ResAt K H' r ((planW (full ks) n s xs ln ln2).getD "") (rowsIf (planW (full ks) n s xs ln ln2) (planR (full ks) n s xs ln ln2)) → Q (.ref r) H'
theorem sp_lplanned_len {K A vs H Q E} (h : sp_lplanned K A vs H Q E) : vs.length = (["kinds", "name", "above", "own"] : List Str).length := by
  obtain ⟨_, _, _, _, _, _, _, _, rfl, _⟩ := h
  rfl
section
variable {P : Program} {w : World} {K : PySem.W.Frag} {mg : Str → Option Value} {base : Heap} {A : Ad}
theorem ok__law_planned (T : Txt K mg A) : FnOk P w K mg base CX0 7 A.f__law_planned A.d__law_planned ["kinds", "name", "above", "own"] (sp_lplanned K A) := by
  refine Fun.ok T.F__law_planned sc__law_planned (fun vs H Q E h => ?_) (fun cdv Ar outer s H vs Q E hr h => ?_)
  · exact sp_lplanned_len h
  · have hu := hu_of hr
    refine ⟨_, (pss_cons (ps_asg (pe_op op_cat (pe_lst (pa_cons (pe_make T.mk_Kind (ok_Kind___init__ T) (hr.mono (by decide)) (by rfl) T.m_Kind T.b_Kind___init__ .nil pass0 (pa_cons (pe_ix ix_tup (pe_glob (v := .ref A.t_KERNEL) (by rfl) T.c_KERNEL rfl) pe_int (fun _ _ => rfl)) (pa_cons pe_non (pa_cons (pe_tup pa_nil) pa_nil)))) pa_nil)) (pe_lc (own := [("one", 8)]) (g := gName 8) rfl sc__law_planned.nd (pi_tup (pe_slice sl_tup (pe_glob (v := .ref A.t_KERNEL) (by rfl) T.c_KERNEL rfl) (po_some pe_int) po_none)) (blkOk_by (own := [("one", 8)]) (N := ["kinds", "name", "above", "own", "given", "asked", "found", "e", "one"]) (sc := defScope s__law_planned) (by decide +kernel)) (fun _ _ _ _ _ => pg_name (i := 8) sc__law_planned.nd rfl (Or.inl rfl)) (fun _ _ _ _ _ => pts_nil) (fun _ _ _ _ _ => (pe_make T.mk_Kind (ok_Kind___init__ T) (hr.mono (by decide)) (by rfl) T.m_Kind T.b_Kind___init__ .nil pass0 (pa_cons (pv 8) (pa_cons pe_str (pa_cons (pe_tup pa_nil) pa_nil))))))) (pg_name (i := 4) sc__law_planned.nd rfl (Or.inl rfl)))
    (pss_cons (ps_asg (pe_op op_cat (pv 4) (pe_lc (own := [("one", 8)]) (g := gName 8) rfl sc__law_planned.nd (pi_list (pv 0)) (blkOk_by (own := [("one", 8)]) (N := ["kinds", "name", "above", "own", "given", "asked", "found", "e", "one"]) (sc := defScope s__law_planned) (by decide +kernel)) (fun _ _ _ _ _ => pg_name (i := 8) sc__law_planned.nd rfl (Or.inl rfl)) (fun _ _ _ _ _ => pts_nil) (fun _ _ _ _ _ => (pe_make T.mk_Kind (ok_Kind___init__ T) (hr.mono (by decide)) (by rfl) T.m_Kind T.b_Kind___init__ .nil pass0 (pa_cons (pe_ix (ix_tupK (K := K) rfl) (pv 8) pe_int (fun _ _ => rfl)) (pa_cons (pe_ix (ix_tupK (K := K) rfl) (pv 8) pe_int (fun _ _ => rfl)) (pa_cons (pe_ix (ix_tupK (K := K) rfl) (pv 8) pe_int (fun _ _ => rfl)) pa_nil))))))) (pg_name (i := 4) sc__law_planned.nd rfl (Or.inl rfl)))
    (pss_cons (ps_asg (pe_callTy call_listM (by rfl) T.z_list (by decide +kernel) (pa_cons (pv 3) pa_nil)) (pg_name (i := 5) sc__law_planned.nd rfl (Or.inl rfl)))
    (pss_one (L2N.ps_try_as (i := 7) rfl rfl sc__law_planned.nd rfl rfl ⟨rfl, by decide, Or.inl T.m_BadClass⟩ takesN (fun W pn xe tk _ => (pss_cons (ps_asg (pe_callS (ok_plan_change T) (hr.mono (by decide)) (by rfl) T.g_plan_change T.k_plan_change T.b_plan_change (fun σ => L2N.passAt tk σ) (pa_cons (pv 4) (pa_cons (pv 1) (pa_cons (pv 2) (pa_cons (pv 5) pa_nil))))) (pg_name (i := 6) sc__law_planned.nd rfl (Or.inl rfl)))
    (pss_cons (ps_if (pt_cmpR (op_neDK (K' := K) rfl hr.units) (pv 5) (pv 3) (nomark _)) (pss_one (ps_ret (pe_lst (pa_cons pe_str (pa_cons (pe_lst pa_nil) pa_nil))))) pss_nil)
    (pss_one (ps_ret (pe_lst (pa_cons pe_str (pa_cons (pe_lc (own := [("one", 8)]) (g := gName 8) rfl sc__law_planned.nd (pi_listK (K' := K) rfl (pv 6)) (blkOk_by (own := [("one", 8)]) (N := ["kinds", "name", "above", "own", "given", "asked", "found", "e", "one"]) (sc := defScope s__law_planned) (by decide +kernel)) (fun _ _ _ _ _ => pg_name (i := 8) sc__law_planned.nd rfl (Or.inl rfl)) (fun _ _ _ _ _ => pts_nil) (fun _ _ _ _ _ => (pe_lst (pa_cons (pe_fldK (K' := K) rfl (pv 8) rfl) (pa_cons (pe_fldK (K' := K) rfl (pv 8) rfl) (pa_cons (pe_fldK (K' := K) rfl (pv 8) rfl) (pa_cons (pe_fldK (K' := K) rfl (pv 8) rfl) pa_nil))))))) pa_nil))))))))
      (fun a oe cls d pn hz hf => (pss_one (ps_ret (pe_lst (pa_cons (pe_fxs hz hf (pv 7)) (pa_cons (pe_lst pa_nil) pa_nil))))))))))), ?_⟩
    obtain ⟨p, o, ks, n, s, xs, ln, ln2, rfl, hK, go, P, hlay, h5, k⟩ := h
    have szl : (2000 : Nat) < sizeLine := by decide
    simp! only []
    refine ⟨_, T.q_KERNEL H, .str "Object", rfl, Nat.zero_le _, fun tp htp x dx hx hdx _ => ?_⟩
    have s1 := same_new (o := HO.tup []) htp
    refine kind_made (sup := none) (fs := []) hx hdx (.inr (.inl (.inl upd_same))) fun H2 s2 ka => ⟨rfl, by decide, fun l1 hl1 => ?_⟩
    have s12 := sm_trans s1 s2
    have s3 := same_new (o := HO.lst [V.ref x]) hl1
    have g3 : upd H2 l1 (HO.lst [V.ref x]) l1 = some (.lst [V.ref x]) := upd_same
    have ka3 := ka.same s3
    generalize upd H2 l1 (HO.lst [V.ref x]) = H3 at s3 g3 ka3 ⊢
    refine lc_kern T (by show 8 < 9; decide) fun D1 H4 rs1 s4 hD1 g4 hr1 => ?_
    refine ⟨D1, rfl, _, s4 _ _ g3, _, g4, by rw [List.length_map, hr1.1]; exact (by decide : 1 + 14 ≤ sizeLine), fun l2 hl2 => ?_⟩
    have s5 := same_new (o := HO.lst ([V.ref x] ++ rs1.map V.ref)) hl2
    have g5 : upd H4 l2 (HO.lst ([V.ref x] ++ rs1.map V.ref)) l2 = some (.lst ([V.ref x] ++ rs1.map V.ref)) := upd_same
    have hr5 : KsR K A.C_Kind (upd H4 l2 (HO.lst ([V.ref x] ++ rs1.map V.ref))) ([x] ++ rs1) kernK := (KsR.snoc (rs := []) (ks := []) ⟨rfl, fun i r k a => by simp at a⟩ (ka3.same (sm_trans s4 s5))).app (hr1.same s5)
    have s05 := sm_trans s12 (sm_trans s3 (sm_trans s4 s5))
    generalize upd H4 l2 (HO.lst ([V.ref x] ++ rs1.map V.ref)) = H5 at g5 hr5 s05 ⊢
    refine lc_given T (p := p) (fun R h => ⟨_, rfl, h⟩) (hK.same s05) h5 (by show 8 < 9; decide) fun D2 H6 rs2 s6 hD2 g6 hr6 => ?_
    refine ⟨D2, rfl, _, s6 _ _ g5, _, g6, ?_, fun gq hgq => ?_⟩
    · rw [List.length_append, List.length_map, List.length_map, hr1.1, hr6.1, List.length_map, List.length_map]
      show 1 + 14 + ks.length ≤ sizeLine
      omega
    have s06 := sm_trans s05 s6
    have s7 := same_new (o := HO.lst ([V.ref x] ++ rs1.map V.ref ++ rs2.map V.ref)) hgq
    have g7 : upd H6 gq (HO.lst ([V.ref x] ++ rs1.map V.ref ++ rs2.map V.ref)) gq = some (.lst (([x] ++ rs1 ++ rs2).map V.ref)) := by
      rw [upd_same, List.map_append, List.map_append]
      rfl
    have hk7 : KsR K A.C_Kind (upd H6 gq (HO.lst ([V.ref x] ++ rs1.map V.ref ++ rs2.map V.ref))) ([x] ++ rs1 ++ rs2) (full ks) := (((hr5.same s6).app hr6).same s7)
    have s07 := sm_trans s06 s7
    generalize upd H6 gq (HO.lst ([V.ref x] ++ rs1.map V.ref ++ rs2.map V.ref)) = H7 at s07 g7 hk7 ⊢
    rw [s07 _ _ go]
    dsimp only
    intro l hl
    have s8 := same_new (o := HO.lst (xs.map V.str)) hl
    have g8 : upd H7 l (HO.lst (xs.map V.str)) l = some (.lst (xs.map V.str)) := upd_same
    have s08 := sm_trans s07 s8
    have K8 : KsAt K A.C_Kind (upd H7 l (HO.lst (xs.map V.str))) gq ([x] ++ rs1 ++ rs2) (full ks) := ⟨s8 _ _ g7, (hk7.same s8).1, (hk7.same s8).2⟩
    generalize upd H7 l (HO.lst (xs.map V.str)) = H8 at g8 s08 K8 ⊢
    have kk := k
    refine ⟨gq, l, _, full ks, n, s, xs, ln, ln2, H, rfl, K8, g8, P, s08, fun w hw => ?_, fun hw H9 r s9 hr hC => ?_⟩
    · rw [hw] at kk
      intro H' dd sH hdd
      simp! only []
      intro _ _
      refine ⟨Nat.zero_le _, fun e1 he1 => ⟨by decide, fun r1 hr1 => ?_⟩⟩
      have t1 : Same H (upd H' dd (HO.xd [(Str.ofString "why", V.str w)])) := sm_upd sH (no_of sH hdd)
      have t2 := same_new (o := HO.lst []) he1
      have t3 := same_new (o := HO.lst [V.str w, V.ref e1]) hr1
      exact kk _ r1 (sm_trans t1 (sm_trans t2 t3)) (no_of (sm_trans t1 t2) hr1) ⟨e1, upd_same, [], t3 _ _ upd_same, rfl, (fun (i : Nat) r q (hj : ([] : List Addr)[i]? = some r) => by simp at hj)⟩
    · rw [hw] at kk
      have s09 := sm_trans s08 s9
      have dp : ∀ {H9 : Hp} {q : Addr}, H9 q = some (.lst (xs.map V.str)) → Dp K H9 (.ref q) (.list (xs.map PyData.str)) := fun {H9 q} g => .lst (.inl (.inl g)) (dpa_strs xs)
      have lay : PyData.canLay0 (.list (xs.map PyData.str)) = true := lay_strs hlay
      have sh : SeqAt.shaped (.list (xs.map PyData.str)) = true := by
        unfold SeqAt.shaped
        rw [lay]
        show (true && decide (PyData.depthAll (xs.map PyData.str) + 1 ≤ 64)) = true
        rw [dep_strs]
        rfl
      refine ⟨_, _, dp (s9 _ _ g8), dp (s09 _ _ go), sh, sh, _, rfl, ?_⟩
      rw [SeqAt.eqv_refl _ lay]
      obtain ⟨cs, gr, lcs, hcs⟩ := hC
      refine ite2 (fun z => by cases z) (fun _ => ?_)
      have lws : (planR (full ks) n s xs ln ln2).length ≤ 1000 := by
        unfold planR planRows
        rw [List.length_map]
        refine Nat.le_trans (List.length_filter_le _ _) ?_
        rw [List.length_map]
        exact P.len
      generalize planR (full ks) n s xs ln ln2 = ws at kk lcs hcs lws
      refine lc_lstA (a := r) (cs.map V.ref) (fun R h => ⟨_, rfl, h⟩) (.inl (.inl gr)) (fun D i H' => Same H9 H' ∧ ∃ es : List Addr, H' D = some (.lst (es.map V.ref)) ∧ es.length = i ∧ ∀ (j : Nat) (c : Addr) (w : Rw3), es[j]? = some c → ws[j]? = some w → RowAt K H' c w) (fun D hD => ⟨same_new hD, [], upd_same, rfl, (fun (i : Nat) r q (hj : ([] : List Addr)[i]? = some r) => by simp at hj)⟩) (fun D i H' _ p => .inl (.inl (p.1 _ _ gr))) (fun D i x H' hD hi p => ?_) (fun D H' hD p => ?_)
      · obtain ⟨sm, es, gD, les, hes⟩ := p
        rw [List.getElem?_map] at hi
        obtain ⟨c, hc2, rfl⟩ := Option.map_eq_some_iff.mp hi
        have hil := (List.getElem?_eq_some_iff.mp hc2).1
        have hw2 : ws[i]? = some ws[i] := List.getElem?_eq_getElem (by omega)
        have ch := (hcs i c ws[i] hc2 hw2).same sm
        obtain ⟨dx, co, cn, cg, gc, hO, hN, hG⟩ := ch
        simp! only [gc, T.cl_Change, T.no_Change_name, T.no_Change_old, T.no_Change_new, T.no_Change_origins, chF]
        refine ⟨_, rfl, _, rfl, _, rfl, by decide, fun q hq => ?_⟩
        have t1 := same_new (o := HO.lst [V.str ws[i].fst, V.ref co, V.ref cn, V.ref cg]) hq
        have gD2 := t1 _ _ gD
        have row : RowAt K (upd H' q (HO.lst [V.str ws[i].fst, V.ref co, V.ref cn, V.ref cg])) q ws[i] := ⟨co, cn, cg, upd_same, hO.same t1, hN.same t1, hG.same t1⟩
        refine ⟨_, gD2, by rw [List.length_map]; omega, sm_upd (sm_trans sm t1) hD, es ++ [q], by rw [List.map_append]; rfl, by rw [List.length_append, les]; rfl, fun j c0 w h1 h2 => ?_⟩
        by_cases hj : j < es.length
        · rw [List.getElem?_append_left hj] at h1
          exact ((hes j c0 w h1 h2).same t1).putl gD2
        · rw [List.getElem?_append_right (by omega)] at h1
          have hj0 : j - es.length = 0 := by
            have := (List.getElem?_eq_some_iff.mp h1).1
            rw [List.length_singleton] at this
            omega
          rw [hj0] at h1
          cases h1
          have : j = i := by omega
          subst this
          rw [hw2] at h2
          cases h2
          exact row.putl gD2
      · obtain ⟨sm, es, gD, les, hes⟩ := p
        rw [List.length_map, lcs] at les
        refine ⟨by decide, fun r1 hr1 => ?_⟩
        have t3 := same_new (o := HO.lst [V.str (Str.ofString ""), V.ref D]) hr1
        have t09 := sm_trans s09 sm
        exact kk _ r1 (sm_trans t09 t3) (no_of t09 hr1) ⟨D, upd_same, es, t3 _ _ gD, les, fun j c w h1 h2 => (hes j c w h1 h2).same t3⟩
end

def sp_ldue (K : PySem.W.Frag) (A : Ad) : Sp := fun vs H Q _ => ∃ (p o : Addr) (ks : List Lk) (n s : Str) (xs : List Str) (m : Nat), vs = [.ref p, .str n, .str s, .ref o] ∧ LksAt K H p ks ∧ H o = some (.lst (xs.map V.str)) ∧ TR ks m ∧ 1 ≤ m ∧ m ≤ 9 ∧ xs.length ≤ 40 ∧ (∀ x ∈ xs, x.length ≤ 100000) ∧
  ∀ H' r, Same H H' → H r = none → ResAt K H' r ((lawW ks n s xs).getD "") (rowsIf (lawW ks n s xs) (lawR ks n s xs)) → Q (.ref r) H'
theorem sp_ldue_len {K A vs H Q E} (h : sp_ldue K A vs H Q E) : vs.length = (["kinds", "name", "above", "own"] : List Str).length := by
  obtain ⟨_, _, _, _, _, _, _, rfl, _⟩ := h
  rfl
theorem idx_spec {y : Str} : ∀ {l : List Str}, y ∈ l → l[l.idxOf y]? = some y ∧ ∀ m z, m < l.idxOf y → l[m]? = some z → z ≠ y
  | [], h => absurd h List.not_mem_nil
  | x :: r, h => by
    rw [List.idxOf_cons]
    by_cases e : x = y
    · subst e
      rw [beq_self_eq_true]
      exact ⟨rfl, fun m z hm => absurd hm (Nat.not_lt_zero m)⟩
    · rw [show (x == y) = false from by simpa using e]
      obtain ⟨a, b⟩ := idx_spec ((List.mem_cons.mp h).resolve_left fun z => e z.symm)
      refine ⟨by simpa using a, fun m z hm hz => ?_⟩
      cases m with
      | zero =>
        cases hz
        exact e
      | succ m => exact b m z (Nat.lt_of_succ_lt_succ hm) (by simpa using hz)
theorem lawW_ne (ks : List Lk) (n s : Str) (xs : List Str) : lawW ks n s xs ≠ some ("" : Str) := by
  have hb : ∀ (l seen : List Str), badF seen l ≠ some ("" : Str) := by
    intro l
    induction l with
    | nil => exact fun _ z => by cases z
    | cons x r ih =>
      intro seen
      rw [badF]
      split
      · split
        · exact fun z => absurd (Option.some.inj z) (by decide)
        · exact ih _
      · exact fun z => absurd (Option.some.inj z) (by decide)
  have hp : ∀ (ns : List Str) (b : Str → Bool) (f : Str → List Str), planBad ns b f ≠ some ("" : Str) := by
    intro ns b f
    induction ns with
    | nil => exact fun z => by cases z
    | cons x r ih =>
      unfold planBad at ih ⊢
      rw [List.findSome?_cons]
      by_cases hx : b x = true
      · rw [if_pos hx]
        cases h : bad1 (f x) with
        | none => exact ih
        | some w =>
          intro z
          have h2 : bad1 (f x) = some ("" : Str) := h.trans z
          unfold bad1 at h2
          split at h2
          · exact absurd (Option.some.inj h2) (by decide)
          · split at h2
            · exact absurd (Option.some.inj h2) (by decide)
            · cases h2
      · rw [if_neg hx]
        exact ih
  unfold lawW
  split
  · exact fun z => absurd (Option.some.inj z) (by decide)
  split
  · exact fun z => absurd (Option.some.inj z) (by decide)
  split
  · exact fun z => absurd (Option.some.inj z) (by decide)
  split
  · exact fun z => absurd (Option.some.inj z) (by decide)
  cases h : badF [] xs with
  | some w =>
    dsimp only
    rw [← h]
    exact hb _ _
  | none => exact hp _ _ _
section
variable {P : Program} {w : World} {K : PySem.W.Frag} {mg : Str → Option Value} {base : Heap} {A : Ad}
theorem ok__law_due (T : Txt K mg A) : FnOk P w K mg base CX0 3 A.f__law_due A.d__law_due ["kinds", "name", "above", "own"] (sp_ldue K A) := by
  refine Fun.ok T.F__law_due sc__law_due (fun vs H Q E h => ?_) (fun cdv Ar outer s H vs Q E hr h => ?_)
  · exact sp_ldue_len h
  · have hu := hu_of hr
    refine ⟨_, (pss_cons (ps_asg (pe_call (ok__law_why T) (hr.mono (by decide)) (by rfl) T.g__law_why T.k__law_why T.b__law_why .nil pass0 (pa_cons (pv 0) (pa_cons (pv 1) (pa_cons (pv 2) (pa_cons (pv 3) pa_nil))))) (pg_name (i := 4) sc__law_due.nd rfl (Or.inl rfl)))
    (pss_cons (ps_if (pt_cmpR op_ne (pv 4) pe_str (nomark _)) (pss_one (ps_ret (pe_lst (pa_cons (pv 4) (pa_cons (pe_lst pa_nil) pa_nil))))) pss_nil)
    (pss_cons (ps_asg (pe_call (ok__law_behind T) (hr.mono (by decide)) (by rfl) T.g__law_behind T.k__law_behind T.b__law_behind .nil pass0 (pa_cons (pv 0) (pa_cons (pv 1) (pa_cons (pv 2) (pa_cons (pv 3) pa_nil))))) (pg_name (i := 5) sc__law_due.nd rfl (Or.inl rfl)))
    (pss_cons (ps_asg (pe_lst pa_nil) (pg_name (i := 6) sc__law_due.nd rfl (Or.inl rfl)))
    (pss_cons (ps_for PassesOwn.never rfl (pi_list (pv 0)) (pg_name (i := 7) sc__law_due.nd rfl (Or.inl rfl))
      (pss_one (ps_if (pt_val (pe_call (ok__law_under T) (hr.mono (by decide)) (by rfl) T.g__law_under T.k__law_under T.b__law_under .nil pass0 (pa_cons (pv 0) (pa_cons (pe_ix ix_tup (pv 7) pe_int (fun _ _ => rfl)) (pa_cons (pv 1) pa_nil))))) (pss_cons (ps_asg (pe_call (ok__law_all T) (hr.mono (by decide)) (by rfl) T.g__law_all T.k__law_all T.b__law_all .nil pass0 (pa_cons (pv 0) (pa_cons (pe_ix ix_tup (pv 7) pe_int (fun _ _ => rfl)) pa_nil))) (pg_name (i := 8) sc__law_due.nd rfl (Or.inl rfl)))
    (pss_cons (ps_asg (pe_call (ok__law_all T) (hr.mono (by decide)) (by rfl) T.g__law_all T.k__law_all T.b__law_all .nil pass0 (pa_cons (pv 5) (pa_cons (pe_ix ix_tup (pv 7) pe_int (fun _ _ => rfl)) pa_nil))) (pg_name (i := 9) sc__law_due.nd rfl (Or.inl rfl)))
    (pss_cons (ps_asg (pe_lst pa_nil) (pg_name (i := 10) sc__law_due.nd rfl (Or.inl rfl)))
    (pss_cons (ps_for PassesOwn.never rfl (pi_list (pv 9)) (pg_name (i := 11) sc__law_due.nd rfl (Or.inl rfl))
      (pss_cons (ps_expr (pe_bmM PySem.F.slot_list_append PySem.F.type_list_append mt_append (pv 10) (pa_cons pe_non pa_nil)))
    (pss_one (ps_if (pt_cmpR op_inM (pv 11) (pv 8) (by rfl)) (pss_one (ps_asg (pe_bmM PySem.F.slot_list_index PySem.F.type_list_index mt_index (pv 8) (pa_cons (pv 11) pa_nil)) (pg_sub (pv 10) (pe_op op_sub (pe_callB call_lenM (by rfl) T.z_len PySem.boot_len (pa_cons (pv 10) pa_nil)) pe_int) set_lstM))) pss_nil))))
    (pss_one (ps_expr (pe_bmM PySem.F.slot_list_append PySem.F.type_list_append mt_append (pv 6) (pa_cons (pe_lst (pa_cons (pe_ix ix_tup (pv 7) pe_int (fun _ _ => rfl)) (pa_cons (pe_callTy call_tuple_of (by rfl) T.z_tuple (by decide +kernel) (pa_cons (pv 8) pa_nil)) (pa_cons (pe_callTy call_tuple_of (by rfl) T.z_tuple (by decide +kernel) (pa_cons (pv 9) pa_nil)) (pa_cons (pe_callTy call_tuple_of (by rfl) T.z_tuple (by decide +kernel) (pa_cons (pv 10) pa_nil)) pa_nil))))) pa_nil)))))))) pss_nil)))
    (pss_one (ps_ret (pe_lst (pa_cons pe_str (pa_cons (pv 6) pa_nil)))))))))), ?_⟩
    obtain ⟨p, o, ks, n, s, xs, m, rfl, hK, go, hT, hm, hm9, hl, hx, k⟩ := h
    have szl : (2000 : Nat) < sizeLine := by decide
    obtain ⟨rs, gp, lrs, hrs⟩ := id hK
    have h5 := hT.len
    simp! only []
    refine ⟨p, o, ks, n, s, xs, m, rfl, hK, go, hT, hm, hm9, hl, hx, fun H1 s1 => ?_⟩
    have hne := lawW_ne ks n s xs
    cases e : lawW ks n s xs with
    | some w =>
      rw [e] at k hne
      refine ⟨rfl, ite2 (fun _ => ⟨Nat.zero_le _, fun e1 he1 => ⟨by decide, fun r1 hr1 => ?_⟩⟩) (fun z => absurd (Classical.not_not.mp z) (fun y => hne (by injection y with y; exact congrArg some y)))⟩
      have t2 := same_new (o := HO.lst []) he1
      have t3 := same_new (o := HO.lst [V.str w, V.ref e1]) hr1
      exact k _ r1 (sm_trans s1 (sm_trans t2 t3)) (no_of (sm_trans s1 t2) hr1) ⟨e1, upd_same, [], t3 _ _ upd_same, rfl, (fun (i : Nat) r q (hj : ([] : List Addr)[i]? = some r) => by simp at hj)⟩
    | none =>
    rw [e] at k
    refine ⟨rfl, ite2 (fun z => absurd rfl z) (fun _ => ?_)⟩
    refine ⟨p, o, ks, n, s, xs, rfl, hK.same s1, by omega, s1 _ _ go, fun H2 bq s2 hbq hB => ⟨Nat.zero_le _, fun f hf => ?_⟩⟩
    have hBf : ∀ k ∈ behindL ks n s xs, k.fs.length ≤ 40 := by
      intro k hk
      unfold behindL at hk
      obtain ⟨q, hq, rfl⟩ := List.mem_map.mp hk
      by_cases e : q.nm = n
      · rw [if_pos e]
        exact hl
      · rw [if_neg e]
        exact hT.fl q hq
    have hBl : (behindL ks n s xs).length ≤ 100 := by
      unfold behindL
      rw [List.length_map]
      omega
    have s12 := sm_trans s1 s2
    refine for_lst (K := K) (H0 := upd H2 f (.lst [])) (a := p) (rs.map V.ref) (fun R h => ⟨_, rfl, h⟩) (fun i σ' H' => ∃ (c4 c7 c8 c9 c10 c11 : Option V) (es : List Addr), σ' = [some (.ref p), some (.str n), some (.str s), some (.ref o), c4, some (.ref bq), some (.ref f), c7, c8, c9, c10, c11] ∧ Same H2 H' ∧ H' f = some (.lst (es.map V.ref)) ∧
      es.length = (planRows ((ks.map (·.nm)).take i) (fun x => decide (n ∈ ups ks 21 x)) (allL ks) (allL (behindL ks n s xs))).length ∧ ∀ (j : Nat) (c : Addr) (w : Rw3), es[j]? = some c → (planRows ((ks.map (·.nm)).take i) (fun x => decide (n ∈ ups ks 21 x)) (allL ks) (allL (behindL ks n s xs)))[j]? = some w → RowAt K H' c w)
      ⟨_, _, _, _, _, _, [], rfl, same_new hf, upd_same, rfl, (fun (i : Nat) r q (hj : ([] : List Addr)[i]? = some r) => by simp at hj)⟩ ?_ ?_ ?_
    · rintro i σ' H' _ ⟨c4, c7, c8, c9, c10, c11, es, rfl, sm, _⟩
      exact .inl (.inl (sm _ _ (s12 _ _ gp)))
    · rintro i x σ' H' hx2 ⟨c4, c7, c8, c9, c10, c11, es, rfl, sm, gf, les, hes⟩
      rw [List.getElem?_map] at hx2
      obtain ⟨r, hr2, rfl⟩ := Option.map_eq_some_iff.mp hx2
      have hil := (List.getElem?_eq_some_iff.mp hr2).1
      have hk2 : ks[i]? = some ks[i] := List.getElem?_eq_getElem (by omega)
      have s0' := sm_trans s12 sm
      have hKr := (hrs i r ks[i] hr2 hk2).same s0'
      have htk : (ks.map (·.nm)).take (i + 1) = (ks.map (·.nm)).take i ++ [ks[i].nm] := by
        rw [List.take_add_one, List.getElem?_map, hk2]
        rfl
      rw [htk]
      have esl : es.length ≤ 5 := by
        rw [les]
        unfold planRows
        rw [List.length_map]
        refine Nat.le_trans (List.length_filter_le _ _) ?_
        rw [List.length_take, List.length_map]
        omega
      generalize ks[i] = kd at hKr hk2 ⊢
      generalize (ks.map (·.nm)).take i = nsi at les hes ⊢
      obtain ⟨ow, ht, _⟩ := id hKr
      simp! only [ht]
      refine ⟨_, ht, _, rfl, p, ks, kd.nm, n, rfl, hK.same s0', _, rfl, ite2 (fun hin => ?_) (fun hin => ?_)⟩
      · have rE : planRows (nsi ++ [kd.nm]) (fun x => decide (n ∈ ups ks 21 x)) (allL ks) (allL (behindL ks n s xs)) = planRows nsi (fun x => decide (n ∈ ups ks 21 x)) (allL ks) (allL (behindL ks n s xs)) ++ [(kd.nm, allL ks kd.nm, allL (behindL ks n s xs) kd.nm)] := by
          unfold planRows
          rw [List.filter_append, List.filter_cons_of_pos (by simpa using hin), List.filter_nil, List.map_append]
          rfl
        rw [rE]
        have fle1 : (allL ks kd.nm).length ≤ 800 := by
          have := flat_le (ownF_le hT.fl) (ups ks 20 kd.nm).reverse
          rw [List.length_reverse, ups_len] at this
          exact this
        have fle2 : (allL (behindL ks n s xs) kd.nm).length ≤ 800 := by
          have := flat_le (ownF_le hBf) (ups (behindL ks n s xs) 20 kd.nm).reverse
          rw [List.length_reverse, ups_len] at this
          exact this
        refine ⟨_, ht, _, rfl, p, ks, kd.nm, rfl, hK.same s0', by omega, hT.fl, fun H5 a1 s5 ha1 g5 => ?_⟩
        refine ⟨_, ht.same s5, _, rfl, bq, _, kd.nm, rfl, hB.same (sm_trans sm s5), hBl, hBf, fun H6 a2 s6 ha2 g6 => ⟨Nat.zero_le _, fun og hog => ?_⟩⟩
        have g5' := s6 _ _ g5
        have ne1 : a1 ≠ og := ne_of_none g5' hog
        have ne2 : a2 ≠ og := ne_of_none g6 hog
        generalize allL ks kd.nm = old at rE g5 g5' fle1 ⊢
        generalize allL (behindL ks n s xs) kd.nm = new at rE g6 fle2 ⊢
        refine for_lst (K := K) (H0 := upd H6 og (.lst [])) (a := a2) (new.map V.str) (fun R h => ⟨_, rfl, h⟩) (fun j σ' H7 => ∃ c11 : Option V, σ' = [some (.ref p), some (.str n), some (.str s), some (.ref o), c4, some (.ref bq), some (.ref f), some (.ref r), some (.ref a1), some (.ref a2), some (.ref og), c11] ∧ Same H6 H7 ∧ H7 og = some (.lst ((new.take j).map (orgV old)))) ⟨_, rfl, same_new hog, upd_same⟩ ?_ ?_ ?_
        · rintro j σ' H7 _ ⟨c11, rfl, sm7, _⟩
          exact .inl (.inl (sm7 _ _ g6))
        · rintro j x σ' H7 hxj ⟨c11, rfl, sm7, g7⟩
          rw [List.getElem?_map] at hxj
          obtain ⟨y, hy, rfl⟩ := Option.map_eq_some_iff.mp hxj
          have hjl := (List.getElem?_eq_some_iff.mp hy).1
          have g57 := sm7 _ _ g5'
          rw [List.take_add_one, hy, Option.toList_some, List.map_append]
          simp! only [g7, g57]
          refine ⟨by rw [List.length_map, List.length_take]; omega, ?_⟩
          rw [upd_ne ne1, g57]
          dsimp only
          refine ⟨rfl, by rw [List.all_map, List.all_eq_true]; exact fun _ _ => rfl, ?_⟩
          rw [inV_strs]
          refine ite2 (fun hm => ?_) (fun hm => ⟨sm_upd sm7 hog, ?_⟩)
          · have hm2 := of_decide_eq_true hm
            obtain ⟨i1, i2⟩ := idx_spec hm2
            refine ⟨a1, old.map V.str, .str y, old.idxOf y, .str y, rfl, rfl, .inl (.inl (by rw [upd_ne ne1]; exact g57)), rfl, by rw [List.all_map, List.all_eq_true]; exact fun _ _ => rfl, by rw [List.getElem?_map, i1]; rfl, by simp [eqV], fun mm z' hmm hz' => ?_, ?_⟩
            · rw [List.getElem?_map] at hz'
              obtain ⟨z, hz, rfl⟩ := Option.map_eq_some_iff.mp hz'
              have := i2 mm z hmm hz
              simpa [eqV] using this
            · dsimp only
              rw [upd_same]
              dsimp only
              have hlz : (List.map (orgV old) (List.take j new)).length = j := by rw [List.length_map, List.length_take]; omega
              generalize List.map (orgV old) (List.take j new) = zs at hlz ⊢
              refine ⟨zs ++ [V.int (old.idxOf y : Nat)], ?_, ?_, ?_⟩
              · rw [show (((zs ++ [V.non]).length : Nat) : Int) - 1 = (zs.length : Nat) by rw [List.length_append, List.length_singleton]; omega]
                unfold setI
                have : ixN (zs ++ [V.non]).length (zs.length : Nat) = some zs.length := by
                  unfold ixN
                  rw [if_pos (by omega), if_pos (by rw [List.length_append, List.length_singleton]; omega), Int.toNat_natCast]
                rw [this, Option.map_some, List.set_append_right _ _ (Nat.le_refl _), Nat.sub_self]
                rfl
              · rw [upd_upd]
                exact sm_upd sm7 hog
              · unfold orgV
                rw [if_pos hm2]
          · unfold orgV
            rw [if_neg fun z => hm (decide_eq_true z)]
        · rintro σ' H7 ⟨c11, rfl, sm7, g7⟩
          rw [List.length_map, List.take_length] at g7
          have g57 := sm7 _ _ g5'
          have g67 := sm7 _ _ g6
          have hr7 := ht.same (sm_trans s5 (sm_trans s6 sm7))
          have gf7 := sm7 _ _ (s6 _ _ (s5 _ _ gf))
          simp! only [g7, gf7]
          refine ⟨_, hr7, _, rfl, old.map V.str, .inl ⟨.inl (.inl g57), fun l1 hl1 => ?_⟩⟩
          have t1 := same_new (o := HO.tup (old.map V.str)) hl1
          have q1 : SqT K (upd H7 l1 (HO.tup (old.map V.str))) l1 (old.map V.str) := .inl (.inl upd_same)
          generalize upd H7 l1 (HO.tup (old.map V.str)) = G1 at t1 q1 ⊢
          refine ⟨new.map V.str, .inl ⟨.inl (.inl (t1 _ _ g67)), fun l2 hl2 => ?_⟩⟩
          have t2 := same_new (o := HO.tup (new.map V.str)) hl2
          have q2 : SqT K (upd G1 l2 (HO.tup (new.map V.str))) l2 (new.map V.str) := .inl (.inl upd_same)
          have q1' := q1.same t2
          have t12 := sm_trans t1 t2
          generalize upd G1 l2 (HO.tup (new.map V.str)) = G2 at t2 q2 q1' t12 ⊢
          refine ⟨new.map (orgV old), .inl ⟨.inl (.inl (t12 _ _ g7)), fun l3 hl3 => ⟨by decide, fun q hq => ?_⟩⟩⟩
          have t3 := same_new (o := HO.tup (new.map (orgV old))) hl3
          have q3 : SqT K (upd G2 l3 (HO.tup (new.map (orgV old)))) l3 (new.map (orgV old)) := .inl (.inl upd_same)
          have q2' := q2.same t3
          have q1'' := q1'.same t3
          have t13 := sm_trans t12 t3
          generalize upd G2 l3 (HO.tup (new.map (orgV old))) = G3 at t3 q3 q2' q1'' t13 hq ⊢
          have t4 := same_new (o := HO.lst [V.str kd.nm, V.ref l1, V.ref l2, V.ref l3]) hq
          have row : RowAt K (upd G3 q (HO.lst [V.str kd.nm, V.ref l1, V.ref l2, V.ref l3])) q (kd.nm, old, new) := ⟨l1, l2, l3, upd_same, q1''.same t4, q2'.same t4, q3.same t4⟩
          have t14 := sm_trans t13 t4
          have gfq := t14 _ _ gf7
          have sAll := sm_trans s5 (sm_trans s6 (sm_trans sm7 t14))
          refine ⟨_, gfq, by rw [List.length_map]; omega, sm_upd (sm_trans sm sAll) hf, es ++ [q], by rw [List.map_append]; rfl, by rw [List.length_append, List.length_append, les]; rfl, fun j c0 w h1 h2 => ?_⟩
          by_cases hj : j < es.length
          · rw [List.getElem?_append_left hj] at h1
            rw [List.getElem?_append_left (by rw [← les]; exact hj)] at h2
            exact ((hes j c0 w h1 h2).same sAll).putl gfq
          · rw [List.getElem?_append_right (by omega)] at h1
            rw [List.getElem?_append_right (by rw [← les]; omega), ← les] at h2
            have hj0 : j - es.length = 0 := by
              have := (List.getElem?_eq_some_iff.mp h1).1
              rw [List.length_singleton] at this
              omega
            rw [hj0] at h1 h2
            cases h1
            cases h2
            exact row.putl gfq
      · have rE : planRows (nsi ++ [kd.nm]) (fun x => decide (n ∈ ups ks 21 x)) (allL ks) (allL (behindL ks n s xs)) = planRows nsi (fun x => decide (n ∈ ups ks 21 x)) (allL ks) (allL (behindL ks n s xs)) := by
          unfold planRows
          rw [List.filter_append, List.filter_cons_of_neg (by simpa using hin), List.filter_nil, List.append_nil]
        rw [rE]
        exact ⟨sm, es, gf, les, hes⟩
    · rintro σ' H' ⟨c4, c7, c8, c9, c10, c11, es, rfl, sm, gf, les, hes⟩
      rw [List.length_map, lrs, ← List.length_map (f := fun q : Lk => q.nm), List.take_length] at les hes
      simp! only []
      refine ⟨by decide, fun r1 hr1 => ?_⟩
      have t3 := same_new (o := HO.lst [V.str (Str.ofString ""), V.ref f]) hr1
      have t0 := sm_trans s12 sm
      exact k _ r1 (sm_trans t0 t3) (no_of t0 hr1) ⟨f, upd_same, es, t3 _ _ gf, les, fun j c w h1 h2 => (hes j c w h1 h2).same t3⟩
end

/-! ### what the law shows as texts -/
def Sok (x : Str) : Prop := PyData.strOk x = true ∧ x.length ≤ 40
structure Gd (d : PyData) (dep wt : Nat) : Prop where
  lay : PyData.canLay0 d = true
  sh : PyData.showable d = true
  is : PyData.intsShort 13 d = true
  dp : PyData.depth d ≤ dep
  wt : PyData.weight d ≤ wt
structure GdA (ds : List PyData) (dep wt : Nat) : Prop where
  lay : PyData.canLayAll0 ds = true
  sh : PyData.showableAll ds = true
  is : PyData.intsShortAll 13 ds = true
  dp : PyData.depthAll ds ≤ dep
  wt : PyData.weightAll ds ≤ wt
theorem gd_str {x : Str} (h : Sok x) : Gd (.str x) 0 40 := ⟨h.1, rfl, rfl, Nat.le_refl _, h.2⟩
theorem gd_none : Gd .none 0 40 := ⟨rfl, rfl, rfl, Nat.le_refl _, Nat.zero_le _⟩
theorem gd_int {i : Nat} (h : i < 1024) : Gd (.int (i : Nat)) 0 40 := by
  have hl : ((i : Nat) : Int).natAbs.log2 ≤ 10 := by
    rw [Int.natAbs_natCast]
    by_cases h0 : i = 0
    · subst h0
      decide
    · have := (Nat.log2_lt h0).mpr (show i < 2 ^ 10 by omega)
      omega
  refine ⟨rfl, decide_eq_true (by omega), decide_eq_true (PyData.shown_int_le (by omega)), Nat.le_refl _, ?_⟩
  show (if ((i : Nat) : Int) == 0 then 0 else ((i : Nat) : Int).natAbs.log2 + 1) ≤ 40
  split <;> omega
theorem gda_nil {dep : Nat} : GdA [] dep 0 := ⟨rfl, rfl, rfl, Nat.zero_le _, Nat.le_refl _⟩
theorem gda_cons {d : PyData} {ds : List PyData} {dep w1 w2 : Nat} (h : Gd d dep w1) (h2 : GdA ds dep w2) : GdA (d :: ds) dep (w1 + 1 + w2) where
  lay := by
    show (PyData.canLay0 d && PyData.canLayAll0 ds) = true
    rw [h.lay, h2.lay]
    rfl
  sh := by
    show (PyData.showable d && PyData.showableAll ds) = true
    rw [h.sh, h2.sh]
    rfl
  is := by
    show (PyData.intsShort 13 d && PyData.intsShortAll 13 ds) = true
    rw [h.is, h2.is]
    rfl
  dp := Nat.max_le.mpr ⟨h.dp, h2.dp⟩
  wt := by
    show PyData.weight d + 1 + PyData.weightAll ds ≤ _
    have := h.wt
    have := h2.wt
    omega
theorem gda_all {dep wt : Nat} : ∀ {ds : List PyData}, (∀ d ∈ ds, Gd d dep wt) → GdA ds dep ((wt + 1) * ds.length)
  | [], _ => gda_nil
  | d :: ds, h => by
    have a := gda_cons (h d List.mem_cons_self) (gda_all fun x hx => h x (List.mem_cons_of_mem _ hx))
    rw [List.length_cons, Nat.mul_succ, Nat.add_comm ((wt + 1) * ds.length)]
    exact a
theorem gd_list {ds : List PyData} {dep wt : Nat} (h : GdA ds dep wt) : Gd (.list ds) (dep + 1) wt := ⟨h.lay, h.sh, h.is, Nat.succ_le_succ h.dp, h.wt⟩
theorem gd_tup {ds : List PyData} {dep wt : Nat} (h : GdA ds dep wt) : Gd (.tuple ds) (dep + 1) wt := ⟨h.lay, h.sh, h.is, Nat.succ_le_succ h.dp, h.wt⟩
theorem Gd.mono {d : PyData} {a b c e : Nat} (h : Gd d a b) (h1 : a ≤ c) (h2 : b ≤ e) : Gd d c e := ⟨h.lay, h.sh, h.is, Nat.le_trans h.dp h1, Nat.le_trans h.wt h2⟩
theorem Gd.layable {d : PyData} {a b : Nat} (h : Gd d a b) (ha : a ≤ 64) (hb : b ≤ 2 ^ 20) : PyData.layable0 d = true := by
  show (PyData.canLay0 d && decide (PyData.depth d ≤ 64) && decide (PyData.weight d ≤ 2 ^ 20)) = true
  rw [h.lay, decide_eq_true (Nat.le_trans h.dp ha), decide_eq_true (Nat.le_trans h.wt hb)]
  rfl
def tupS (xs : List Str) : PyData := .tuple (xs.map PyData.str)
def orgD (old : List Str) (x : Str) : PyData := if x ∈ old then .int (old.idxOf x : Nat) else .none
def rowD (w : Rw3) : PyData := .list [.str w.1, tupS w.2.1, tupS w.2.2, .tuple (w.2.2.map (orgD w.2.1))]
def resD (w : Str) (ws : List Rw3) : PyData := .list [.str w, .list (ws.map rowD)]
def sw3 : Bool → Rw3 → PyData
  | false, w => .list [.str w.1, tupS w.2.1, tupS w.2.2]
  | true, w => .list [.str w.1, tupS w.2.2, tupS w.2.1]
structure RwOk (w : Rw3) : Prop where
  nm : Sok w.1
  a : ∀ x ∈ w.2.1, Sok x
  b : ∀ x ∈ w.2.2, Sok x
  la : w.2.1.length ≤ 800
  lb : w.2.2.length ≤ 800
theorem gd_tupS {xs : List Str} (h : ∀ x ∈ xs, Sok x) (hl : xs.length ≤ 800) : Gd (tupS xs) 1 32800 := by
  refine (gd_tup (gda_all (dep := 0) (wt := 40) fun d hd => ?_)).mono (Nat.le_refl _) (by rw [List.length_map]; omega)
  obtain ⟨x, hx, rfl⟩ := List.mem_map.mp hd
  exact gd_str (h x hx)
theorem gd_row {w : Rw3} (h : RwOk w) : Gd (rowD w) 2 131204 := by
  have hg : Gd (.tuple (w.2.2.map (orgD w.2.1))) 1 32800 := by
    refine (gd_tup (gda_all (dep := 0) (wt := 40) fun d hd => ?_)).mono (Nat.le_refl _) (by rw [List.length_map]; have := h.lb; omega)
    obtain ⟨x, hx, rfl⟩ := List.mem_map.mp hd
    unfold orgD
    by_cases hm : x ∈ w.2.1
    · rw [if_pos hm]
      have := List.idxOf_lt_length_of_mem hm
      exact gd_int (by have := h.la; omega)
    · rw [if_neg hm]
      exact gd_none
  have := gd_list (gda_cons ((gd_str h.nm).mono (Nat.zero_le 1) (Nat.le_refl _)) (gda_cons (gd_tupS h.a h.la) (gda_cons (gd_tupS h.b h.lb) (gda_cons hg (gda_nil (dep := 1))))))
  exact this.mono (Nat.le_refl _) (by decide)
theorem gd_res {w : Str} {ws : List Rw3} (h : Sok w) (hw : ∀ x ∈ ws, RwOk x) (hl : ws.length ≤ 5) : Gd (resD w ws) 4 700000 := by
  have r : Gd (.list (ws.map rowD)) 3 656025 := by
    refine (gd_list (gda_all (dep := 2) (wt := 131204) fun d hd => ?_)).mono (Nat.le_refl _) (by rw [List.length_map]; omega)
    obtain ⟨x, hx, rfl⟩ := List.mem_map.mp hd
    exact gd_row (hw x hx)
  exact (gd_list (gda_cons ((gd_str h).mono (Nat.zero_le 3) (Nat.le_refl _)) (gda_cons r (gda_nil (dep := 3))))).mono (Nat.le_refl _) (by decide)
theorem gd_sw {b : Bool} {ws : List Rw3} (hw : ∀ x ∈ ws, RwOk x) (hl : ws.length ≤ 5) : Gd (.list (ws.map (sw3 b))) 3 656025 := by
  refine (gd_list (gda_all (dep := 2) (wt := 131204) fun d hd => ?_)).mono (Nat.le_refl _) (by rw [List.length_map]; omega)
  obtain ⟨x, hx, rfl⟩ := List.mem_map.mp hd
  have h := hw x hx
  cases b with
  | false => exact (gd_list (gda_cons ((gd_str h.nm).mono (Nat.zero_le 1) (Nat.le_refl _)) (gda_cons (gd_tupS h.a h.la) (gda_cons (gd_tupS h.b h.lb) (gda_nil (dep := 1)))))).mono (Nat.le_refl _) (by decide)
  | true => exact (gd_list (gda_cons ((gd_str h.nm).mono (Nat.zero_le 1) (Nat.le_refl _)) (gda_cons (gd_tupS h.b h.lb) (gda_cons (gd_tupS h.a h.la) (gda_nil (dep := 1)))))).mono (Nat.le_refl _) (by decide)
section
variable {K : PySem.W.Frag} {H : Hp}
theorem dpa_org (old : List Str) : ∀ xs : List Str, DpAll K H (xs.map (orgV old)) (xs.map (orgD old))
  | [] => .nil
  | x :: xs => by
    refine .cons ?_ (dpa_org old xs)
    unfold orgV orgD
    by_cases h : x ∈ old
    · rw [if_pos h, if_pos h]
      exact .int _
    · rw [if_neg h, if_neg h]
      exact .non
theorem dpa_idx {f : Rw3 → PyData} : ∀ {cs : List Addr} {ws : List Rw3}, cs.length = ws.length → (∀ (i : Nat) (c : Addr) (w : Rw3), cs[i]? = some c → ws[i]? = some w → Dp K H (.ref c) (f w)) → DpAll K H (cs.map V.ref) (ws.map f)
  | [], [], _, _ => .nil
  | [], _ :: _, h, _ => by cases h
  | _ :: _, [], h, _ => by cases h
  | c :: cs, w :: ws, h, k => .cons (k 0 c w rfl rfl) (dpa_idx (Nat.succ.inj h) fun i c w a b => k (i + 1) c w (by simpa using a) (by simpa using b))
theorem tupS_dp {t : Addr} {xs : List Str} (h : SqT K H t (xs.map V.str)) : Dp K H (.ref t) (tupS xs) := .tup h (dpa_strs xs)
theorem row_dp {c : Addr} {w : Rw3} (h : RowAt K H c w) : Dp K H (.ref c) (rowD w) := by
  obtain ⟨o, n, g, h1, h2, h3, h4⟩ := h
  exact .lst (.inl (.inl h1)) (.cons (.str _) (.cons (tupS_dp h2) (.cons (tupS_dp h3) (.cons (.tup h4 (dpa_org _ _)) .nil))))
theorem res_dp {r : Addr} {w : Str} {ws : List Rw3} (h : ResAt K H r w ws) : Dp K H (.ref r) (resD w ws) := by
  obtain ⟨e, h1, cs, h2, h3, h4⟩ := h
  exact .lst (.inl (.inl h1)) (.cons (.str _) (.cons (.lst (.inl (.inl h2)) (dpa_idx h3 fun i c w a b => row_dp (h4 i c w a b))) .nil))
end
theorem lc_sw {K : PySem.W.Frag} {mg : Str → Option Value} {A : Ad} (T : Txt K mg A) {tl : TE} {c : Nat} {σ : L2.St} {H : Hp} {Q : VK} {e : Addr} {ws : List Rw3} (b : Bool) (htl : ∀ R : V → Hp → Prop, R (.ref e) H → tl σ H R) (he : RowsAt K H e ws) (hl : ws.length ≤ 5) (hc : c < σ.length) (k : ∀ D H', Same H H' → H D = none → (∀ G, Same H' G → Dp K G (.ref D) (.list (ws.map (sw3 b)))) → Q (.ref D) H') :
    tLc (iList K tl) (gName c) tYes (tLst (tCons (tOp rIxM (tVar c) (tC (V.int 0))) (tCons (tOp rIxM (tVar c) (tC (V.int (if b = true then 2 else 1)))) (tCons (tOp rIxM (tVar c) (tC (V.int (if b = true then 1 else 2)))) tNil)))) [c] σ H Q := by
  have szl : (2000 : Nat) < sizeLine := by decide
  obtain ⟨cs, ge, lcs, hcs⟩ := he
  refine lc_lstA (a := e) (cs.map V.ref) htl (.inl (.inl ge)) (fun D i H' => Same H H' ∧ ∃ es : List Addr, H' D = some (.lst (es.map V.ref)) ∧ es.length = i ∧ ∀ (j : Nat) (x : Addr) (w : Rw3), es[j]? = some x → ws[j]? = some w → x ≠ D ∧ ∃ u v : Addr, H' x = some (.lst [.str w.1, .ref u, .ref v]) ∧ SqT K H u ((if b = true then w.2.2 else w.2.1).map V.str) ∧ SqT K H v ((if b = true then w.2.1 else w.2.2).map V.str))
    (fun D hD => ⟨same_new hD, [], upd_same, rfl, (fun (i : Nat) r q (hj : ([] : List Addr)[i]? = some r) => by simp at hj)⟩) (fun D i H' _ p => .inl (.inl (p.1 _ _ ge))) (fun D i x H' hD hi p => ?_) (fun D H' hD p => ?_)
  · obtain ⟨sm, es, gD, les, hes⟩ := p
    rw [List.getElem?_map] at hi
    obtain ⟨r, hr2, rfl⟩ := Option.map_eq_some_iff.mp hi
    have hil := (List.getElem?_eq_some_iff.mp hr2).1
    have hw2 : ws[i]? = some ws[i] := List.getElem?_eq_getElem (by omega)
    obtain ⟨o, n, g, gr, hO, hN, hG⟩ := hcs i r ws[i] hr2 hw2
    have gr2 := sm _ _ gr
    have hv : ((List.set σ c none).set c (some (V.ref r)))[c]? = some (some (V.ref r)) := List.getElem?_set_self (by rw [List.length_set]; exact hc)
    generalize ws[i] = w at gr gr2 hO hN hG hw2
    have fin : ∀ (u v : Addr) (G : Hp) (q : Addr), SqT K H u ((if b = true then w.2.2 else w.2.1).map V.str) → SqT K H v ((if b = true then w.2.1 else w.2.2).map V.str) → H' q = none → G = upd H' q (.lst [.str w.1, .ref u, .ref v]) →
        ∃ acc, G D = some (.lst acc) ∧ acc.length < sizeLine ∧ Same H (upd G D (.lst (acc ++ [.ref q]))) ∧ ∃ es : List Addr, acc ++ [.ref q] = es.map V.ref ∧ es.length = i + 1 ∧ ∀ (j : Nat) (x : Addr) (w : Rw3), es[j]? = some x → ws[j]? = some w → x ≠ D ∧ ∃ u v : Addr, upd G D (.lst (acc ++ [.ref q])) x = some (.lst [.str w.1, .ref u, .ref v]) ∧ SqT K H u ((if b = true then w.2.2 else w.2.1).map V.str) ∧ SqT K H v ((if b = true then w.2.1 else w.2.2).map V.str) := by
      rintro u v G q hu hv2 hq rfl
      have t1 := same_new (o := HO.lst [.str w.1, .ref u, .ref v]) hq
      have qD : q ≠ D := Ne.symm (ne_of_none gD hq)
      refine ⟨_, t1 _ _ gD, by rw [List.length_map]; omega, sm_upd (sm_trans sm t1) hD, es ++ [q], by rw [List.map_append]; rfl, by rw [List.length_append, les]; rfl, fun j x w2 h1 h2 => ?_⟩
      by_cases hj : j < es.length
      · rw [List.getElem?_append_left hj] at h1
        obtain ⟨a1, u2, v2, a2, a3, a4⟩ := hes j x w2 h1 h2
        exact ⟨a1, u2, v2, by rw [upd_ne a1]; exact t1 _ _ a2, a3, a4⟩
      · rw [List.getElem?_append_right (by omega)] at h1
        have hj0 : j - es.length = 0 := by
          have := (List.getElem?_eq_some_iff.mp h1).1
          rw [List.length_singleton] at this
          omega
        rw [hj0] at h1
        cases h1
        have : j = i := by omega
        subst this
        rw [hw2] at h2
        cases h2
        exact ⟨qD, u, v, by rw [upd_ne qD, upd_same], hu, hv2⟩
    cases b with
    | false =>
      simp! only [hv, gr2]
      exact ⟨by decide, fun q hq => fin o n _ q hO hN hq rfl⟩
    | true =>
      simp! only [hv, gr2]
      exact ⟨by decide, fun q hq => fin n o _ q hN hO hq rfl⟩
  · obtain ⟨sm, es, gD, les, hes⟩ := p
    rw [List.length_map, lcs] at les
    refine k D H' sm hD fun G sG => .lst (.inl (.inl (sG _ _ gD))) (dpa_idx les fun i x w a c => ?_)
    obtain ⟨_, u, v, h1, h2, h3⟩ := hes i x w a c
    have sm2 := sm_trans sm sG
    cases b with
    | false => exact .lst (.inl (.inl (sG _ _ h1))) (.cons (.str _) (.cons (tupS_dp (h2.same sm2)) (.cons (tupS_dp (h3.same sm2)) .nil)))
    | true => exact .lst (.inl (.inl (sG _ _ h1))) (.cons (.str _) (.cons (tupS_dp (h2.same sm2)) (.cons (tupS_dp (h3.same sm2)) .nil)))

/-- a str times an int that is more than one, exactly -/
def rRepX : R2 := fun x y H Q => ∃ (i : Str) (n : Int), x = .str i ∧ y = .int n ∧ 1 < n ∧ n ≤ 100000 ∧ 0 < i.length ∧ i.length ≤ 10 ∧ Q (.str ⟨(List.replicate n.toNat i.cps).foldl (· ++ ·) #[]⟩) H
theorem op_repX {X : Cx} : OpR X (binaryOp .Mult) rRepX := by
  intro pins s σ H x y v u Q I rx ry h
  obtain ⟨i, n, rfl, rfl, h1, h2, h3, h4, q⟩ := h
  obtain ⟨t, rfl⟩ := rx
  obtain ⟨t', rfl⟩ := ry
  have hl : i.length * n.toNat ≤ 1000000 := by
    have := Nat.mul_le_mul h4 (show n.toNat ≤ 100000 by omega)
    omega
  have c0 : ¬ n < 1 := by omega
  have c1 : (n == 1 || i.length == 0) = false := by
    have a1 : (n == 1) = false := by simp; omega
    have a2 : (i.length == 0) = false := by simp; omega
    rw [a1, a2] <;> rfl
  have hs : (⟨(List.replicate n.toNat i.cps).foldl (· ++ ·) #[]⟩ : Str).length = i.length * n.toNat := by
    show Array.size _ = _
    rw [size_foldl_rep]
    simp [Str.length]
  have hsl : i.length * n.toNat ≤ sizeLine := Nat.le_trans hl (by decide)
  have ns : PySem.Builtin.Str.tooLong (i.length * n.toNat) = false := decide_eq_false (by omega)
  refine PySem.P.mul_str ?_ (fun _ _ => ?_) (fun _ _ => ns) ?_
  · have a1 : ¬ n < -(2 ^ 63 : Int) := by omega
    have a2 : ¬ n ≥ 2 ^ 63 := by omega
    rw [decide_eq_false a1, decide_eq_false a2] <;> rfl
  · have a1 : (100 : Int) ≤ (2 ^ 63 - 1) / n := by
      refine Int.le_ediv_of_mul_le (by omega) ?_
      omega
    omega
  · rw [if_neg c0, if_neg (by rw [c1]; decide)]
    exact ⟨by rw [hs]; exact hsl, ⟨.str _, H, I.tok _, ⟨_, rfl⟩, q⟩⟩
/-! ### the law itself: what is drawn and what is shown -/
theorem mem_allL {ks : List Lk} {x y : Str} (h : y ∈ allL ks x) : ∃ k ∈ ks, y ∈ k.fs := by
  unfold allL at h
  obtain ⟨n, _, hn⟩ := List.mem_flatMap.mp h
  unfold ownF at hn
  cases e : lkOf ks n with
  | none =>
    rw [e] at hn
    exact absurd hn List.not_mem_nil
  | some k =>
    rw [e] at hn
    exact ⟨k, (lkOf_some e).1, hn⟩
theorem allL_le {ks : List Lk} (h : ∀ k ∈ ks, k.fs.length ≤ 40) (x : Str) : (allL ks x).length ≤ 800 := by
  have := flat_le (ownF_le h) (ups ks 20 x).reverse
  rw [List.length_reverse, ups_len] at this
  exact this
/-- kinds whose texts can be shown -/
def KOk (ks : List Lk) : Prop := (∀ x ∈ ks.map (·.nm), Sok x) ∧ ∀ k ∈ ks, k.fs.length ≤ 40 ∧ ∀ x ∈ k.fs, Sok x
theorem KOk.behind {ks : List Lk} (h : KOk ks) {n s : Str} {xs : List Str} (hl : xs.length ≤ 40) (hx : ∀ x ∈ xs, Sok x) : KOk (behindL ks n s xs) := by
  refine ⟨by rw [behind_nm]; exact h.1, fun k hk => ?_⟩
  unfold behindL at hk
  obtain ⟨q, hq, rfl⟩ := List.mem_map.mp hk
  by_cases e : q.nm = n
  · rw [if_pos e]
    exact ⟨hl, hx⟩
  · rw [if_neg e]
    exact h.2 q hq
theorem KOk.all {ks : List Lk} (h : KOk ks) (x : Str) : (∀ y ∈ allL ks x, Sok y) ∧ (allL ks x).length ≤ 800 :=
  ⟨fun y hy => let ⟨k, hk, hm⟩ := mem_allL hy; (h.2 k hk).2 y hm, allL_le (fun k hk => (h.2 k hk).1) x⟩
theorem lawR_ok {ks : List Lk} (h : KOk ks) {n s : Str} {xs : List Str} (hl : xs.length ≤ 40) (hx : ∀ x ∈ xs, Sok x) : ∀ w ∈ lawR ks n s xs, RwOk w := by
  intro w hw
  unfold lawR planRows at hw
  obtain ⟨x, hm, rfl⟩ := List.mem_map.mp hw
  have a := h.all x
  have b := (h.behind (n := n) (s := s) hl hx).all x
  exact ⟨h.1 x (List.mem_filter.mp hm).1, a.1, b.1, a.2, b.2⟩
theorem lawR_len (ks : List Lk) (n s : Str) (xs : List Str) : (lawR ks n s xs).length ≤ ks.length := by
  unfold lawR planRows
  rw [List.length_map]
  refine Nat.le_trans (List.length_filter_le _ _) ?_
  rw [List.length_map]
  exact Nat.le_refl _
def words7 : List Str := ["kernel", "name", "super", "ring", "field", "twice", "many"]
theorem lawW_in {ks : List Lk} {n s : Str} {xs : List Str} {w : Str} (h : lawW ks n s xs = some w) : w ∈ words7 := by
  have hb : ∀ (l seen : List Str) (w : Str), badF seen l = some w → w ∈ words7 := by
    intro l
    induction l with
    | nil => exact fun _ _ z => by cases z
    | cons x r ih =>
      intro seen w
      rw [badF]
      split
      · split
        · intro z
          cases z
          decide
        · exact ih _ w
      · intro z
        cases z
        decide
  have hp : ∀ (ns : List Str) (b : Str → Bool) (f : Str → List Str) (w : Str), planBad ns b f = some w → w ∈ words7 := by
    intro ns b f w
    induction ns with
    | nil => exact fun z => by cases z
    | cons x r ih =>
      unfold planBad at ih ⊢
      rw [List.findSome?_cons]
      by_cases hx : b x = true
      · rw [if_pos hx]
        cases h : bad1 (f x) with
        | none => exact ih
        | some w2 =>
          intro z
          have h2 : bad1 (f x) = some w := h.trans z
          unfold bad1 at h2
          split at h2
          · cases h2
            decide
          · split at h2
            · cases h2
              decide
            · cases h2
      · rw [if_neg hx]
        exact ih
  unfold lawW at h
  split at h
  · cases h
    decide
  split at h
  · cases h
    decide
  split at h
  · cases h
    decide
  split at h
  · cases h
    decide
  cases e : badF [] xs with
  | some w2 =>
    rw [e] at h
    cases h
    exact hb _ _ _ e
  | none =>
    rw [e] at h
    exact hp _ _ _ _ h
theorem word_ok {ks : List Lk} {n s : Str} {xs : List Str} : Sok ((lawW ks n s xs).getD "") := by
  have key : ∀ w ∈ ("" : Str) :: words7, PyData.strOk w = true ∧ w.length ≤ 40 := by decide +kernel
  cases e : lawW ks n s xs with
  | none => exact key _ List.mem_cons_self
  | some w => exact key _ (List.mem_cons_of_mem _ (lawW_in e))
/-- the program's plan is told as the law's -/
theorem res_same {ks : List Lk} {m : Nat} (h : TR ks m) (hm : 1 ≤ m) (hm2 : m ≤ 9) {n s : Str} {xs : List Str} (hl : xs.length ≤ 40) :
    (planW (full ks) n s xs (lnF ks) (lnF (behindL ks n s xs))).getD "" = (lawW ks n s xs).getD "" ∧ rowsIf (planW (full ks) n s xs (lnF ks) (lnF (behindL ks n s xs))) (planR (full ks) n s xs (lnF ks) (lnF (behindL ks n s xs))) = rowsIf (lawW ks n s xs) (lawR ks n s xs) := by
  rw [planW_law h hm hm2 hl]
  refine ⟨rfl, ?_⟩
  cases e : lawW ks n s xs with
  | some w => rfl
  | none => exact planR_law h hm hm2 hl (lawW_fit h hm hm2 hl e)
theorem gd_law {ks : List Lk} (h : KOk ks) (h5 : ks.length ≤ 5) {n s : Str} {xs : List Str} (hl : xs.length ≤ 40) (hx : ∀ x ∈ xs, Sok x) : Gd (resD ((lawW ks n s xs).getD "") (rowsIf (lawW ks n s xs) (lawR ks n s xs))) 4 700000 := by
  refine gd_res word_ok ?_ ?_
  · cases lawW ks n s xs with
    | none => exact lawR_ok h hl hx
    | some w => exact fun x hx => absurd hx List.not_mem_nil
  · cases lawW ks n s xs with
    | none => exact Nat.le_trans (lawR_len _ _ _ _) h5
    | some w => exact Nat.zero_le _
theorem names5_ok : ∀ x ∈ names5, PyData.strOk x = true ∧ x.length ≤ 40 := by decide +kernel
theorem fields8_sok : ∀ x ∈ fields8, PyData.strOk x = true ∧ x.length ≤ 40 := by decide +kernel
theorem DK.ok {ks : List Lk} (h : DK ks) : KOk ks := by
  obtain ⟨_, _, hf⟩ := h.tree
  refine ⟨fun x hx => ?_, fun k hk => ⟨by have := (hf k hk).1; omega, fun x hx => fields8_sok x ((hf k hk).2.2 x hx)⟩⟩
  rw [h.names.1] at hx
  exact names5_ok x (List.mem_of_mem_take hx)
def fields10 : List Str := ["x", "y", "z", "w", "long1", "v", "u", "t", "new", "n2"]
def rep33 : Str := "aaaaaaaaaaaaaaaaaaaaaaaaaaaaaaaaa"
def wrong8 : List Str := ["X", "self", "", "a b", "9a", rep33, "a_", "nil"]
theorem rep33_is : (⟨(List.replicate (Int.toNat 33) (Str.ofString "a").cps).foldl (· ++ ·) #[]⟩ : Str) = rep33 := by decide +kernel
theorem fields10_ok : ∀ x ∈ fields10, PyData.strOk x = true ∧ x.length ≤ 40 := by decide +kernel
theorem wrong8_ok : ∀ x ∈ wrong8, PyData.strOk x = true ∧ x.length ≤ 40 := by decide +kernel
theorem f_ok : ∀ j : Nat, j < 40 → PyData.strOk (("f" : Str) ++ Str.ofString (toString ((j : Nat) : Int))) = true ∧ (("f" : Str) ++ Str.ofString (toString ((j : Nat) : Int))).length ≤ 40 := by decide +kernel
/-- the names that no class may be changed under -/
def weird3 : List Str := ["Array", "Nope", "Object"]
theorem weird_no {ks : List Lk} (h : DK ks) {n s : Str} {xs : List Str} (hn : n ∈ weird3) : lawW ks n s xs ≠ none := by
  have key : ∀ n ∈ weird3, n ∈ kern ∨ n ∉ names5 := by decide +kernel
  intro z
  unfold lawW at z
  rcases key n hn with a | a
  · rw [if_pos a] at z
    cases z
  · by_cases h1 : n ∈ kern
    · rw [if_pos h1] at z
      cases z
    · rw [if_neg h1, if_pos (fun y => a (by rw [h.names.1] at y; exact List.mem_of_mem_take y))] at z
      cases z
/-- a comprehension over a range that is told by a call, whose tests and elements may make things -/
theorem lc_rngX {ta : TA} {tt : TT} {te : TE} {c : Nat} {σ : L2.St} {H : Hp} {Q : VK} (P : Nat → Hp → Prop) (htl : ∀ R : List V → Hp → Prop, (∀ (j : Nat) H1, P j H1 → R [.int (j : Nat)] H1) → ta σ H R) (h1 : ∀ j H1, P j H1 → j < 100000) (Pv : Addr → Nat → Nat → Hp → Prop) (h0 : ∀ j H1 D, P j H1 → H1 D = none → Pv D j 0 (upd H1 D (.lst [])))
    (hs : ∀ D (j i : Nat) H', i < j → Pv D j i H' → tt ((σ.set c none).set c (some (.int (i : Int)))) H' fun b H3 => if b = true then te ((σ.set c none).set c (some (.int (i : Int)))) H3 fun y H4 => ∃ acc, H4 D = some (.lst acc) ∧ acc.length < sizeLine ∧ Pv D j (i + 1) (upd H4 D (.lst (acc ++ [y]))) else Pv D j (i + 1) H3)
    (hd : ∀ D j H', Pv D j j H' → Q (.ref D) H') : tLc (iRng1 ta) (gName c) tt te [c] σ H Q := by
  refine htl _ fun j H1 p => ⟨(j : Nat), rfl, by omega, by have := h1 j H1 p; omega, fun D hD => ?_⟩
  rw [Int.toNat_natCast]
  refine lc_range (Pv D j) (h0 j H1 D p hD) ?_ (fun H' p => hd D j H' p)
  rintro i H' hi p
  rw [Int.zero_add]
  refine ⟨?_, hs D j i H' hi p⟩
  show List.set (List.set (List.set σ c none) c _) c none = List.set σ c none
  rw [List.set_set, List.set_set]
theorem strs_lay {xs : List Str} (h : ∀ x ∈ xs, Sok x) : PyData.canLay0 (.list (xs.map PyData.str)) = true := lay_strs fun x hx => (h x hx).1
theorem strs_shaped {xs : List Str} (h : ∀ x ∈ xs, Sok x) : SeqAt.shaped (.list (xs.map PyData.str)) = true := by
  unfold SeqAt.shaped
  rw [strs_lay h]
  show (true && decide (PyData.depthAll (xs.map PyData.str) + 1 ≤ 64)) = true
  rw [dep_strs]
  rfl
theorem Gd.shaped {d : PyData} {a b : Nat} (h : Gd d a b) (ha : a ≤ 64) : SeqAt.shaped d = true := by
  unfold SeqAt.shaped
  rw [h.lay, decide_eq_true (Nat.le_trans h.dp ha)]
  rfl
theorem nodup_len : ∀ {l l2 : List Str}, l.Nodup → (∀ x ∈ l, x ∈ l2) → l.length ≤ l2.length
  | [], _, _, _ => Nat.zero_le _
  | x :: l, l2, nd, h => by
    rw [List.nodup_cons] at nd
    have hx := h x List.mem_cons_self
    have := nodup_len (l2 := l2.erase x) nd.2 fun y hy => (List.mem_erase_of_ne (show y ≠ x from fun e => nd.1 (by rw [← e]; exact hy))).mpr (h y (List.mem_cons_of_mem _ hy))
    rw [List.length_erase_of_mem hx] at this
    have := List.length_pos_of_mem hx
    rw [List.length_cons]
    omega
theorem Line.nodup {ks : List Kd} {o : Option Str} {l : List Str} (h : Line ks o l) : l.Nodup := by
  induction h with
  | nil => exact List.nodup_nil
  | cons hk hl ih => exact List.nodup_cons.mpr ⟨Line.head hk hl, ih⟩
theorem TR.short {ks : List Lk} {m : Nat} (h : TR ks m) : TR ks (ks.length + 1) := by
  refine ⟨h.nd, h.nk, h.len, h.fl, h.ab, fun x hx => ?_⟩
  obtain ⟨l, a, _⟩ := h.ln x hx
  refine ⟨l, a, ?_⟩
  have := nodup_len (l2 := "Object" :: ks.map (·.nm)) a.nodup fun y hy => by
    rcases (h.up a (.inl hx)).1 y hy with z | z
    · exact List.mem_cons_of_mem _ z
    · rw [z]
      exact List.mem_cons_self
  rw [List.length_cons, List.length_map] at this
  exact this

theorem Ex.no {p D : Addr} {H1 H2 : Hp} (e : Ex [p] H1 H2) (h : H2 D = none) (hp : D ≠ p) : H1 D = none := by
  cases q : H1 D with
  | none => rfl
  | some o =>
    have := e D o (fun z => hp (List.mem_singleton.mp z)) q
    rw [h] at this
    cases this
theorem Ex.al {s : List Addr} {H1 H2 : Hp} {D : Addr} {o : HO} (e : Ex s H1 H2) (h : H2 D = none) : Ex s H1 (L2.upd H2 D o) := e.trans (Ex.same (same_new h))
/-- a new thing written again -/
theorem Ex.up {p D : Addr} {H1 H2 : Hp} {o : HO} (e : Ex [p] H1 H2) (h : H1 D = none) : Ex [p] H1 (L2.upd H2 D o) := fun x y n g => by
  have ne : x ≠ D := fun z => by
    rw [z, h] at g
    cases g
  rw [upd_ne ne]
  exact e x y n g
abbrev J0 (K : PySem.W.Frag) (HB : Hp) (a p kq fq wq o : Addr) (i : Nat) (k0 : Lk) (L : Nat) (σ' : L2.St) (G : Hp) : Prop := ∃ (c3 c4 c5 c14 c15 c16 c17 c18 : Option V) (n s : Str) (nq : Addr) (xs : List Str), σ' = [some (.ref a), some (.ref p), some (.ref kq), c3, c4, c5, some (.ref fq), some (.ref wq), some (.int (i : Nat)), some (.str n), some (.str k0.ab), some (.ref o), some (.str s), some (.ref nq), c14, c15, c16, c17, c18] ∧
  Ex [p] HB G ∧ Dr K G p a ∧ G nq = some (.lst (xs.map V.str)) ∧ nq ≠ p ∧ HB nq = none ∧ xs.length ≤ L ∧ (∀ x ∈ xs, Sok x) ∧ (n = k0.nm ∨ n ∈ weird3)
abbrev J1 (K : PySem.W.Frag) (HB : Hp) (a p kq fq wq o : Addr) (i : Nat) (k0 : Lk) (σ' : L2.St) (G : Hp) : Prop := ∃ (c3 c4 c5 c15 c16 c17 c18 : Option V) (n s : Str) (nq : Addr) (xs : List Str) (pk : Nat), σ' = [some (.ref a), some (.ref p), some (.ref kq), c3, c4, c5, some (.ref fq), some (.ref wq), some (.int (i : Nat)), some (.str n), some (.str k0.ab), some (.ref o), some (.str s), some (.ref nq), some (.int (pk : Nat)), c15, c16, c17, c18] ∧
  Ex [p] HB G ∧ Dr K G p a ∧ G nq = some (.lst (xs.map V.str)) ∧ nq ≠ p ∧ HB nq = none ∧ xs.length ≤ 40 ∧ (∀ x ∈ xs, Sok x) ∧ (n = k0.nm ∨ n ∈ weird3)
def sp_law (K : PySem.W.Frag) : Sp := fun vs H Q _ => ∃ (a : Addr) (ns : List Int), vs = [.ref a] ∧ SqL K H a (ns.map V.int) ∧ ns.length ≤ 63 ∧ ∀ H', Q (.bl true) H'
section
variable {P : Program} {w : World} {K : PySem.W.Frag} {mg : Str → Option Value} {base : Heap} {A : Ad}
theorem ok_law (T : Txt K mg A) : FnG P w K mg base 8 A.f_law A.d_law "script" (sp_law K) := by
  refine fnG_of T.F_law sc_law (fun cdv Ar outer s H v0 Q hG hr h => ?_)
  · have hu := hu_of hr
    refine ⟨_, (pss_cons (ps_asg (pe_lst (pa_cons pe_int (pa_cons pe_int pa_nil))) (pg_name (i := 1) sc_law.nd rfl (Or.inr rfl)))
    (pss_cons (ps_asg (pe_call (ok__law_kinds T) (hr.mono (by decide)) (by rfl) T.g__law_kinds T.k__law_kinds T.b__law_kinds .nil pass0 (pa_cons (pv 1) (pa_cons (pv 0) pa_nil))) (pg_name (i := 2) sc_law.nd rfl (Or.inl rfl)))
    (pss_cons (ps_asg (pe_op op_cat (pe_lst (pa_cons (pe_make T.mk_Kind (ok_Kind___init__ T) (hr.mono (by decide)) (by rfl) T.m_Kind T.b_Kind___init__ .nil pass0 (pa_cons (pe_ix ix_tup (pe_glob (v := .ref A.t_KERNEL) (by rfl) T.c_KERNEL rfl) pe_int (fun _ _ => rfl)) (pa_cons pe_non (pa_cons (pe_tup pa_nil) pa_nil)))) pa_nil)) (pe_lc (own := [("one", 3)]) (g := gName 3) rfl sc_law.nd (pi_tup (pe_slice sl_tup (pe_glob (v := .ref A.t_KERNEL) (by rfl) T.c_KERNEL rfl) (po_some pe_int) po_none)) (blkOk_by (own := [("one", 3)]) (N := ["script", "state", "kinds", "one", "given", "other", "fields", "wrong", "k", "name", "above", "own", "asked", "new", "pick", "due", "behind", "back", "j"]) (sc := defScope s_law) (by decide +kernel)) (fun _ _ _ _ _ => pg_name (i := 3) sc_law.nd rfl (Or.inl rfl)) (fun _ _ _ _ _ => pts_nil) (fun _ _ _ _ _ => (pe_make T.mk_Kind (ok_Kind___init__ T) (hr.mono (by decide)) (by rfl) T.m_Kind T.b_Kind___init__ .nil pass0 (pa_cons (pv 3) (pa_cons pe_str (pa_cons (pe_tup pa_nil) pa_nil))))))) (pg_name (i := 4) sc_law.nd rfl (Or.inl rfl)))
    (pss_cons (ps_asg (pe_op op_cat (pv 4) (pe_lc (own := [("one", 3)]) (g := gName 3) rfl sc_law.nd (pi_list (pv 2)) (blkOk_by (own := [("one", 3)]) (N := ["script", "state", "kinds", "one", "given", "other", "fields", "wrong", "k", "name", "above", "own", "asked", "new", "pick", "due", "behind", "back", "j"]) (sc := defScope s_law) (by decide +kernel)) (fun _ _ _ _ _ => pg_name (i := 3) sc_law.nd rfl (Or.inl rfl)) (fun _ _ _ _ _ => pts_nil) (fun _ _ _ _ _ => (pe_make T.mk_Kind (ok_Kind___init__ T) (hr.mono (by decide)) (by rfl) T.m_Kind T.b_Kind___init__ .nil pass0 (pa_cons (pe_ix (ix_tupK (K := K) rfl) (pv 3) pe_int (fun _ _ => rfl)) (pa_cons (pe_ix (ix_tupK (K := K) rfl) (pv 3) pe_int (fun _ _ => rfl)) (pa_cons (pe_ix (ix_tupK (K := K) rfl) (pv 3) pe_int (fun _ _ => rfl)) pa_nil))))))) (pg_name (i := 4) sc_law.nd rfl (Or.inl rfl)))
    (pss_cons (ps_for PassesOwn.never rfl (pi_list (pv 2)) (pg_name (i := 3) sc_law.nd rfl (Or.inl rfl))
      (pss_cons (ps_if (pt_cmpR (op_neD hr.units) (pe_call (ok_all_fields T) (hr.mono (by decide)) (by rfl) T.g_all_fields T.k_all_fields T.b_all_fields .nil pass0 (pa_cons (pv 4) (pa_cons (pe_ix ix_tup (pv 3) pe_int (fun _ _ => rfl)) pa_nil))) (pe_call (ok__law_all T) (hr.mono (by decide)) (by rfl) T.g__law_all T.k__law_all T.b__law_all .nil pass0 (pa_cons (pv 2) (pa_cons (pe_ix ix_tup (pv 3) pe_int (fun _ _ => rfl)) pa_nil))) (nomark _)) (pss_one (ps_ret pe_bl)) pss_nil)
    (pss_one (ps_for PassesOwn.never rfl (pi_list (pv 2)) (pg_name (i := 5) sc_law.nd rfl (Or.inl rfl))
      (pss_one (ps_if (pt_cmpR op_ne (pe_call (ok_is_under T) (hr.mono (by decide)) (by rfl) T.g_is_under T.k_is_under T.b_is_under .nil pass0 (pa_cons (pv 4) (pa_cons (pe_ix ix_tup (pv 3) pe_int (fun _ _ => rfl)) (pa_cons (pe_ix ix_tup (pv 5) pe_int (fun _ _ => rfl)) pa_nil)))) (pe_call (ok__law_under T) (hr.mono (by decide)) (by rfl) T.g__law_under T.k__law_under T.b__law_under .nil pass0 (pa_cons (pv 2) (pa_cons (pe_ix ix_tup (pv 3) pe_int (fun _ _ => rfl)) (pa_cons (pe_ix ix_tup (pv 5) pe_int (fun _ _ => rfl)) pa_nil)))) (nomark _)) (pss_one (ps_ret pe_bl)) pss_nil))))))
    (pss_cons (ps_asg (pe_lst (pa_cons pe_str (pa_cons pe_str (pa_cons pe_str (pa_cons pe_str (pa_cons pe_str (pa_cons pe_str (pa_cons pe_str (pa_cons pe_str (pa_cons pe_str (pa_cons pe_str pa_nil))))))))))) (pg_name (i := 6) sc_law.nd rfl (Or.inr rfl)))
    (pss_cons (ps_asg (pe_lst (pa_cons pe_str (pa_cons pe_str (pa_cons pe_str (pa_cons pe_str (pa_cons pe_str (pa_cons (pe_op op_repX pe_str pe_int) (pa_cons pe_str (pa_cons pe_str pa_nil))))))))) (pg_name (i := 7) sc_law.nd rfl (Or.inl rfl)))
    (pss_cons (ps_for PassesOwn.never rfl (pi_range1 (by rfl) T.z_range (pa_cons pe_int pa_nil)) (pg_name (i := 8) sc_law.nd rfl (Or.inl rfl))
      (pss_cons (ps_asg (pe_ix ix_lstM (pv 2) (pe_call (ok__law_draw T) (hr.mono (by decide)) (by rfl) T.g__law_draw T.k__law_draw T.b__law_draw .nil pass0 (pa_cons (pv 1) (pa_cons (pv 0) (pa_cons (pe_callB call_lenM (by rfl) T.z_len PySem.boot_len (pa_cons (pv 2) pa_nil)) pa_nil)))) (fun _ _ => rfl)) (pg_tup (n := 3) (by rfl) (pgs_cons (pg_name (i := 9) sc_law.nd rfl (Or.inl rfl)) (pgs_cons (pg_name (i := 10) sc_law.nd rfl (Or.inl rfl)) (pgs_cons (pg_name (i := 11) sc_law.nd rfl (Or.inl rfl)) pgs_nil)))))
    (pss_cons (ps_asg (pe_ix ix_list (pe_lst (pa_cons pe_str (pa_cons (pv 10) (pa_cons (pe_ix ix_tup (pe_ix ix_lstM (pv 2) (pe_call (ok__law_draw T) (hr.mono (by decide)) (by rfl) T.g__law_draw T.k__law_draw T.b__law_draw .nil pass0 (pa_cons (pv 1) (pa_cons (pv 0) (pa_cons (pe_callB call_lenM (by rfl) T.z_len PySem.boot_len (pa_cons (pv 2) pa_nil)) pa_nil)))) (fun _ _ => rfl)) pe_int (fun _ _ => rfl)) pa_nil)))) (pe_call (ok__law_draw T) (hr.mono (by decide)) (by rfl) T.g__law_draw T.k__law_draw T.b__law_draw .nil pass0 (pa_cons (pv 1) (pa_cons (pv 0) (pa_cons pe_int pa_nil)))) (fun _ _ => rfl)) (pg_name (i := 12) sc_law.nd rfl (Or.inl rfl)))
    (pss_cons (ps_asg (pe_lc (own := [("j", 18)]) (g := gName 18) rfl sc_law.nd (pi_range1 (by rfl) T.z_range (pa_cons (pe_call (ok__law_draw T) (hr.mono (by decide)) (by rfl) T.g__law_draw T.k__law_draw T.b__law_draw .nil pass0 (pa_cons (pv 1) (pa_cons (pv 0) (pa_cons pe_int pa_nil)))) pa_nil)) (blkOk_by (own := [("j", 18)]) (N := ["script", "state", "kinds", "one", "given", "other", "fields", "wrong", "k", "name", "above", "own", "asked", "new", "pick", "due", "behind", "back", "j"]) (sc := defScope s_law) (by decide +kernel)) (fun _ _ _ _ _ => pg_name (i := 18) sc_law.nd rfl (Or.inl rfl)) (fun _ _ _ _ _ => pts_nil) (fun _ _ _ _ _ => (pe_ix ix_lstM (pv 6) (pe_call (ok__law_draw T) (hr.mono (by decide)) (by rfl) T.g__law_draw T.k__law_draw T.b__law_draw .nil pass0 (pa_cons (pv 1) (pa_cons (pv 0) (pa_cons pe_int pa_nil)))) (fun _ _ => rfl)))) (pg_name (i := 13) sc_law.nd rfl (Or.inr rfl)))
    (Evl.pss_cut (ps_if (pt_cmpR op_eq (pe_call (ok__law_draw T) (hr.mono (by decide)) (by rfl) T.g__law_draw T.k__law_draw T.b__law_draw .nil pass0 (pa_cons (pv 1) (pa_cons (pv 0) (pa_cons pe_int pa_nil)))) pe_int (nomark _)) (pss_one (ps_asg (pe_lc (own := [("j", 18)]) (g := gName 18) rfl sc_law.nd (pi_range1 (by rfl) T.z_range (pa_cons (pe_callB call_lenM (by rfl) T.z_len PySem.boot_len (pa_cons (pv 13) pa_nil)) pa_nil)) (blkOk_by (own := [("j", 18)]) (N := ["script", "state", "kinds", "one", "given", "other", "fields", "wrong", "k", "name", "above", "own", "asked", "new", "pick", "due", "behind", "back", "j"]) (sc := defScope s_law) (by decide +kernel)) (fun _ _ _ _ _ => pg_name (i := 18) sc_law.nd rfl (Or.inl rfl)) (fun _ _ _ _ _ => (pts_one (pt_cmpR op_notInM (pe_ix ix_lstM (pv 13) (pv 18) (fun _ _ => rfl)) (pe_slice sl_listM (pv 13) po_none (po_some (pv 18))) (by rfl)))) (fun _ _ _ _ _ => (pe_ix ix_lstM (pv 13) (pv 18) (fun _ _ => rfl)))) (pg_name (i := 13) sc_law.nd rfl (Or.inr rfl)))) pss_nil)
    (pss_cons (ps_asg (pe_call (ok__law_draw T) (hr.mono (by decide)) (by rfl) T.g__law_draw T.k__law_draw T.b__law_draw .nil pass0 (pa_cons (pv 1) (pa_cons (pv 0) (pa_cons pe_int pa_nil)))) (pg_name (i := 14) sc_law.nd rfl (Or.inl rfl)))
    (Evl.pss_cut (ps_if (pt_cmpR op_eq (pv 14) pe_int (nomark _)) (pss_one (ps_expr (pe_bmM PySem.F.slot_list_append PySem.F.type_list_append mt_append (pv 13) (pa_cons (pe_ix ix_lstM (pv 7) (pe_call (ok__law_draw T) (hr.mono (by decide)) (by rfl) T.g__law_draw T.k__law_draw T.b__law_draw .nil pass0 (pa_cons (pv 1) (pa_cons (pv 0) (pa_cons pe_int pa_nil)))) (fun _ _ => rfl)) pa_nil)))) pss_nil)
    (Evl.pss_cut (ps_if (pt_cmpR op_eq (pv 14) pe_int (nomark _)) (pss_one (ps_asg (pe_ix ix_list (pe_lst (pa_cons pe_str (pa_cons pe_str (pa_cons (pv 9) pa_nil)))) (pe_call (ok__law_draw T) (hr.mono (by decide)) (by rfl) T.g__law_draw T.k__law_draw T.b__law_draw .nil pass0 (pa_cons (pv 1) (pa_cons (pv 0) (pa_cons pe_int pa_nil)))) (fun _ _ => rfl)) (pg_name (i := 12) sc_law.nd rfl (Or.inl rfl)))) pss_nil)
    (Evl.pss_cut (ps_if (pt_cmpR op_eq (pv 14) pe_int (nomark _)) (pss_one (ps_asg (pe_lc (own := [("j", 18)]) (g := gName 18) rfl sc_law.nd (pi_range1 (by rfl) T.z_range (pa_cons (pe_op op_add pe_int (pe_call (ok__law_draw T) (hr.mono (by decide)) (by rfl) T.g__law_draw T.k__law_draw T.b__law_draw .nil pass0 (pa_cons (pv 1) (pa_cons (pv 0) (pa_cons pe_int pa_nil))))) pa_nil)) (blkOk_by (own := [("j", 18)]) (N := ["script", "state", "kinds", "one", "given", "other", "fields", "wrong", "k", "name", "above", "own", "asked", "new", "pick", "due", "behind", "back", "j"]) (sc := defScope s_law) (by decide +kernel)) (fun _ _ _ _ _ => pg_name (i := 18) sc_law.nd rfl (Or.inl rfl)) (fun _ _ _ _ _ => pts_nil) (fun _ _ _ _ _ => (pe_op op_add_str pe_str (pe_callTy call_str_int (by rfl) T.z_str (by decide +kernel) (pa_cons (pv 18) pa_nil))))) (pg_name (i := 13) sc_law.nd rfl (Or.inr rfl)))) pss_nil)
    (Evl.pss_cut (ps_if (pt_cmpR op_eq (pv 14) pe_int (nomark _)) (pss_one (ps_asg (pe_ix ix_list (pe_lst (pa_cons pe_str (pa_cons pe_str (pa_cons pe_str pa_nil)))) (pe_call (ok__law_draw T) (hr.mono (by decide)) (by rfl) T.g__law_draw T.k__law_draw T.b__law_draw .nil pass0 (pa_cons (pv 1) (pa_cons (pv 0) (pa_cons pe_int pa_nil)))) (fun _ _ => rfl)) (pg_name (i := 9) sc_law.nd rfl (Or.inl rfl)))) pss_nil)
    (pss_cons (ps_asg (pe_call (ok__law_due T) (hr.mono (by decide)) (by rfl) T.g__law_due T.k__law_due T.b__law_due .nil pass0 (pa_cons (pv 2) (pa_cons (pv 9) (pa_cons (pv 12) (pa_cons (pv 13) pa_nil))))) (pg_name (i := 15) sc_law.nd rfl (Or.inl rfl)))
    (pss_cons (ps_if (pt_cmpR op_ne (pe_callB (call_reprD hG (un80 hr)) (by rfl) T.z_repr (by decide +kernel) (pa_cons (pe_call (ok__law_planned T) (hr.mono (by decide)) (by rfl) T.g__law_planned T.k__law_planned T.b__law_planned .nil pass0 (pa_cons (pv 2) (pa_cons (pv 9) (pa_cons (pv 12) (pa_cons (pv 13) pa_nil))))) pa_nil)) (pe_callB (call_reprD hG (un80 hr)) (by rfl) T.z_repr (by decide +kernel) (pa_cons (pv 15) pa_nil)) (nomark _)) (pss_one (ps_ret pe_bl)) pss_nil)
    (pss_one (ps_if (pt_cmpR op_eq (pe_ix ix_lstM (pv 15) pe_int (fun _ _ => rfl)) pe_str (nomark _)) (pss_cons (ps_asg (pe_call (ok__law_behind T) (hr.mono (by decide)) (by rfl) T.g__law_behind T.k__law_behind T.b__law_behind .nil pass0 (pa_cons (pv 2) (pa_cons (pv 9) (pa_cons (pv 12) (pa_cons (pv 13) pa_nil))))) (pg_name (i := 16) sc_law.nd rfl (Or.inl rfl)))
    (pss_cons (ps_asg (pe_call (ok__law_planned T) (hr.mono (by decide)) (by rfl) T.g__law_planned T.k__law_planned T.b__law_planned .nil pass0 (pa_cons (pv 16) (pa_cons (pv 9) (pa_cons (pv 10) (pa_cons (pv 11) pa_nil))))) (pg_name (i := 17) sc_law.nd rfl (Or.inl rfl)))
    (pss_one (ps_if (PW.pt (pw_or (pt_cmpR op_ne (pe_ix ix_lstM (pv 17) pe_int (fun _ _ => rfl)) pe_str (nomark _)) (pw_or1 (pt_cmpR (op_neD hr.units) (pe_lc (own := [("one", 3)]) (g := gName 3) rfl sc_law.nd (pi_list (pe_ix ix_lstM (pv 17) pe_int (fun _ _ => rfl))) (blkOk_by (own := [("one", 3)]) (N := ["script", "state", "kinds", "one", "given", "other", "fields", "wrong", "k", "name", "above", "own", "asked", "new", "pick", "due", "behind", "back", "j"]) (sc := defScope s_law) (by decide +kernel)) (fun _ _ _ _ _ => pg_name (i := 3) sc_law.nd rfl (Or.inl rfl)) (fun _ _ _ _ _ => pts_nil) (fun _ _ _ _ _ => (pe_lst (pa_cons (pe_ix ix_lstM (pv 3) pe_int (fun _ _ => rfl)) (pa_cons (pe_ix ix_lstM (pv 3) pe_int (fun _ _ => rfl)) (pa_cons (pe_ix ix_lstM (pv 3) pe_int (fun _ _ => rfl)) pa_nil)))))) (pe_lc (own := [("one", 3)]) (g := gName 3) rfl sc_law.nd (pi_list (pe_ix ix_lstM (pv 15) pe_int (fun _ _ => rfl))) (blkOk_by (own := [("one", 3)]) (N := ["script", "state", "kinds", "one", "given", "other", "fields", "wrong", "k", "name", "above", "own", "asked", "new", "pick", "due", "behind", "back", "j"]) (sc := defScope s_law) (by decide +kernel)) (fun _ _ _ _ _ => pg_name (i := 3) sc_law.nd rfl (Or.inl rfl)) (fun _ _ _ _ _ => pts_nil) (fun _ _ _ _ _ => (pe_lst (pa_cons (pe_ix ix_lstM (pv 3) pe_int (fun _ _ => rfl)) (pa_cons (pe_ix ix_lstM (pv 3) pe_int (fun _ _ => rfl)) (pa_cons (pe_ix ix_lstM (pv 3) pe_int (fun _ _ => rfl)) pa_nil)))))) (nomark _))))) (pss_one (ps_ret pe_bl)) pss_nil)))) pss_nil))))))))))))))
    (pss_one (ps_ret (pe_and (pe_cmpR (op_eqD hr.units) (pe_fld (pe_make T.mk_Change (ok_Change___init__ T) (hr.mono (by decide)) (by rfl) T.m_Change T.b_Change___init__ .nil pass0 (pa_cons pe_str (pa_cons (pe_lst (pa_cons pe_str pa_nil)) (pa_cons (pe_lst (pa_cons pe_str (pa_cons pe_str pa_nil))) pa_nil)))) rfl) (pe_tup (pa_cons pe_non (pa_cons pe_int pa_nil))) (nomark _)) (pe_one (pe_cmpR (op_eqD hr.units) (pe_fld (pe_make T.mk_Kind (ok_Kind___init__ T) (hr.mono (by decide)) (by rfl) T.m_Kind T.b_Kind___init__ .nil pass0 (pa_cons pe_str (pa_cons pe_non (pa_cons (pe_lst (pa_cons pe_str pa_nil)) pa_nil)))) rfl) (pe_tup (pa_cons pe_str pa_nil)) (nomark _)))))))))))))), ?_⟩
    obtain ⟨a, ns, e, hS, hl, k⟩ := h
    have e1 : v0 = .ref a := by injection e
    subst e1
    have szl : (2000 : Nat) < sizeLine := by decide
    simp! only []
    refine ⟨by decide, fun p hp => ?_⟩
    have s0 := same_new (o := HO.lst [V.int 0, V.int 0]) hp
    have dr0 : Dr K (upd H p (HO.lst [V.int 0, V.int 0])) p a := by
      refine ⟨ns, 0, 0, upd_same, Int.le_refl _, hS.same s0, ?_⟩
      rcases hS with h | h
      · refine .inl fun z => ?_
        unfold Rd at h
        rw [z, hp] at h
        rcases h with h | ⟨_, h⟩ <;> cases h
      · exact .inr fun G => .inr h
    refine ⟨p, a, rfl, dr0, fun H1 kq ks ex1 hkq dr1 dk l1 hX1 => ?_⟩
    obtain ⟨hT, hND, hKf⟩ := dk.tree
    have h5 := dk.names.2
    have hOk := dk.ok
    have hK1 : LksAt K H1 kq ks := hX1.at
    refine ⟨_, T.q_KERNEL H1, .str "Object", rfl, Nat.zero_le _, fun tp htp x dx hx hdx _ => ?_⟩
    have s1 := same_new (o := HO.tup []) htp
    refine kind_made (sup := none) (fs := []) hx hdx (.inr (.inl (.inl upd_same))) fun H2 s2 ka => ⟨rfl, by decide, fun q1 hq1 => ?_⟩
    have s12 := sm_trans s1 s2
    have s3 := same_new (o := HO.lst [V.ref x]) hq1
    have g3 : upd H2 q1 (HO.lst [V.ref x]) q1 = some (.lst [V.ref x]) := upd_same
    have ka3 := ka.same s3
    generalize upd H2 q1 (HO.lst [V.ref x]) = H3 at s3 g3 ka3 ⊢
    refine lc_kern T (by show 3 < 19; decide) fun D1 H4 rs1 s4 hD1 g4 hr1 => ?_
    refine ⟨D1, rfl, _, s4 _ _ g3, _, g4, by rw [List.length_map, hr1.1]; exact (by decide : 1 + 14 ≤ sizeLine), fun q2 hq2 => ?_⟩
    have s5 := same_new (o := HO.lst ([V.ref x] ++ rs1.map V.ref)) hq2
    have g5 : upd H4 q2 (HO.lst ([V.ref x] ++ rs1.map V.ref)) q2 = some (.lst ([V.ref x] ++ rs1.map V.ref)) := upd_same
    have hr5 : KsR K A.C_Kind (upd H4 q2 (HO.lst ([V.ref x] ++ rs1.map V.ref))) ([x] ++ rs1) kernK := (KsR.snoc (rs := []) (ks := []) ⟨rfl, fun i r k a => by simp at a⟩ (ka3.same (sm_trans s4 s5))).app (hr1.same s5)
    have s05 := sm_trans s12 (sm_trans s3 (sm_trans s4 s5))
    generalize upd H4 q2 (HO.lst ([V.ref x] ++ rs1.map V.ref)) = H5 at g5 hr5 s05 ⊢
    refine lc_given T (p := kq) (fun R h => ⟨_, rfl, h⟩) (hK1.same s05) h5 (by show 3 < 19; decide) fun D2 H6 rs2 s6 hD2 g6 hr6 => ?_
    refine ⟨D2, rfl, _, s6 _ _ g5, _, g6, ?_, fun gq hgq => ?_⟩
    · rw [List.length_append, List.length_map, List.length_map, hr1.1, hr6.1, List.length_map, List.length_map]
      show 1 + 14 + ks.length ≤ sizeLine
      omega
    have s06 := sm_trans s05 s6
    have s7 := same_new (o := HO.lst ([V.ref x] ++ rs1.map V.ref ++ rs2.map V.ref)) hgq
    have g7 : upd H6 gq (HO.lst ([V.ref x] ++ rs1.map V.ref ++ rs2.map V.ref)) gq = some (.lst (([x] ++ rs1 ++ rs2).map V.ref)) := by
      rw [upd_same, List.map_append, List.map_append]
      rfl
    have hk7 : KsR K A.C_Kind (upd H6 gq (HO.lst ([V.ref x] ++ rs1.map V.ref ++ rs2.map V.ref))) ([x] ++ rs1 ++ rs2) (full ks) := (((hr5.same s6).app hr6).same s7)
    have s07 := sm_trans s06 s7
    generalize upd H6 gq (HO.lst ([V.ref x] ++ rs1.map V.ref ++ rs2.map V.ref)) = H7 at s07 g7 hk7 ⊢
    have K7 : KsAt K A.C_Kind H7 gq ([x] ++ rs1 ++ rs2) (full ks) := ⟨g7, hk7.1, hk7.2⟩
    have P0 : PlanIn (full ks) "" "" [] (lnF ks) (lnF (behindL ks "" "" [])) := plan_in hT (by omega) (by omega) hND (Nat.zero_le _) fun x hx => absurd hx List.not_mem_nil
    obtain ⟨rs, gk1, lrs, hrs⟩ := id hX1
    have hK7 : LksAt K H7 kq ks := hK1.same s07
    refine for_lst (K := K) (H0 := H7) (a := kq) (rs.map V.ref) (fun R h => ⟨_, rfl, h⟩) (fun i σ' H' => ∃ c3 c5 : Option V, σ' = [some (.ref a), some (.ref p), some (.ref kq), c3, some (.ref gq), c5, none, none, none, none, none, none, none, none, none, none, none, none, none] ∧ Same H7 H') ⟨_, _, rfl, sm_refl⟩ ?_ ?_ ?_
    · rintro i σ' H' _ ⟨c3, c5, rfl, sm⟩
      exact .inl (.inl (sm _ _ (s07 _ _ gk1)))
    · rintro i y σ' H' hy ⟨c3, c5, rfl, sm⟩
      rw [List.getElem?_map] at hy
      obtain ⟨r, hr2, rfl⟩ := Option.map_eq_some_iff.mp hy
      have hil := (List.getElem?_eq_some_iff.mp hr2).1
      have hk2 : ks[i]? = some ks[i] := List.getElem?_eq_getElem (by omega)
      have hkm : ks[i] ∈ ks := List.getElem_mem (by omega)
      have lk : LkAt1 K H' r ks[i] := (show LkAt1 K H1 r ks[i] from let ⟨o, x, _, y, _⟩ := hrs i r ks[i] hr2 hk2; ⟨o, .inl (.inl x), y⟩).same (sm_trans s07 sm)
      obtain ⟨ow, ht, _⟩ := lk
      generalize ks[i] = kd at ht hk2 hkm
      have hxn : kd.nm ∈ ks.map (·.nm) := List.mem_map_of_mem hkm
      have L := hT.line (by omega) (.inl hxn)
      have Lp := P0.line kd.nm (full_in.mpr (.inr hxn))
      have eA : flds (full ks) (lnF ks kd.nm) = allL ks kd.nm := (hT.all L.1 (.inl hxn) (by have := L.2; omega)).symm
      simp! only [ht]
      have Kg : ∀ {G : Hp}, Same H' G → KsAt K A.C_Kind G gq ([x] ++ rs1 ++ rs2) (full ks) := fun {G} t => ⟨t _ _ (sm _ _ g7), (hk7.same (sm_trans sm t)).1, (hk7.same (sm_trans sm t)).2⟩
      refine ⟨_, ht, _, rfl, gq, _, full ks, kd.nm, lnF ks kd.nm, rfl, Kg sm_refl, P0.len, P0.nd, L.1, Lp.2.1, Lp.2.2.1, fun G1 u1 t1 hu1 gu1 => ?_⟩
      refine ⟨_, ht.same t1, _, rfl, kq, ks, kd.nm, rfl, hK7.same (sm_trans sm t1), by omega, hT.fl, fun G2 u2 t2 hu2 gu2 => ?_⟩
      rw [eA] at gu1
      have oks := (hOk.all kd.nm).1
      refine ⟨_, _, .lst (.inl (.inl (t2 _ _ gu1))) (dpa_strs _), .lst (.inl (.inl gu2)) (dpa_strs _), strs_shaped oks, strs_shaped oks, _, rfl, ?_⟩
      rw [SeqAt.eqv_refl _ (strs_lay oks)]
      refine ite2 (fun z => by cases z) (fun _ => ?_)
      have t12 := sm_trans t1 t2
      refine for_lst (K := K) (H0 := G2) (a := kq) (rs.map V.ref) (fun R h => ⟨_, rfl, h⟩) (fun j σ' G => ∃ c5 : Option V, σ' = [some (.ref a), some (.ref p), some (.ref kq), some (.ref r), some (.ref gq), c5, none, none, none, none, none, none, none, none, none, none, none, none, none] ∧ Same H' G) ⟨_, rfl, t12⟩ ?_ ?_ ?_
      · rintro j σ' G _ ⟨c5, rfl, smg⟩
        exact .inl (.inl (smg _ _ (sm _ _ (s07 _ _ gk1))))
      · rintro j y σ' G hy ⟨c5, rfl, smg⟩
        rw [List.getElem?_map] at hy
        obtain ⟨r2, hr22, rfl⟩ := Option.map_eq_some_iff.mp hy
        have hjl := (List.getElem?_eq_some_iff.mp hr22).1
        have hk22 : ks[j]? = some ks[j] := List.getElem?_eq_getElem (by omega)
        have hkm2 : ks[j] ∈ ks := List.getElem_mem (by omega)
        have lk2 : LkAt1 K G r2 ks[j] := (show LkAt1 K H1 r2 ks[j] from let ⟨o, x, _, y, _⟩ := hrs j r2 ks[j] hr22 hk22; ⟨o, .inl (.inl x), y⟩).same (sm_trans s07 (sm_trans sm smg))
        obtain ⟨ow2, ht2, _⟩ := lk2
        generalize ks[j] = ko at ht2 hk22 hkm2
        have htg := ht.same smg
        have hon : ko.nm ∉ kern := hT.nk _ (List.mem_map_of_mem hkm2)
        have und : decide (ko.nm ∈ ups ks 21 kd.nm) = decide (ko.nm ∈ lnF ks kd.nm) := by
          rw [decide_eq_decide]
          exact hT.under L.1 (.inl hxn) (by have := L.2; omega) hon
        simp! only [htg, ht2]
        refine ⟨_, htg, _, rfl, _, ht2, _, rfl, gq, _, full ks, kd.nm, ko.nm, lnF ks kd.nm, rfl, Kg smg, P0.len, P0.nd, L.1, Lp.2.1, fun G3 t3 => ⟨_, htg.same t3, _, rfl, _, ht2.same t3, _, rfl, kq, ks, kd.nm, ko.nm, rfl, hK7.same (sm_trans sm (sm_trans smg t3)), rfl, ?_⟩⟩
        rw [und]
        exact ite2 (fun z => absurd rfl z) (fun _ => sm_trans smg t3)
      · rintro σ' G ⟨c5, rfl, smg⟩
        exact ⟨⟨_, _, rfl⟩, sm_trans sm smg⟩
    · rintro σ' H8 ⟨c3, c5, rfl, sm⟩
      simp! only []
      refine ⟨by decide, fun fq hfq => ⟨"a", 33, rfl, rfl, by decide, by decide, by decide, by decide, ?_⟩⟩
      rw [rep33_is]
      refine ⟨by decide, fun wq hwq => ?_⟩
      change (upd H8 fq (HO.lst (fields10.map V.str))) wq = none at hwq
      change tFor _ _ _ _ _ (upd (upd H8 fq (HO.lst (fields10.map V.str))) wq (HO.lst (wrong8.map V.str)))
      have s8 := same_new (o := HO.lst (fields10.map V.str)) hfq
      change Same H8 (upd H8 fq (HO.lst (fields10.map V.str))) at s8
      have s9 := same_new (o := HO.lst (wrong8.map V.str)) hwq
      have s19 : Same H1 (upd (upd H8 fq (HO.lst (fields10.map V.str))) wq (HO.lst (wrong8.map V.str))) := sm_trans s07 (sm_trans sm (sm_trans s8 s9))
      have gfB : upd (upd H8 fq (HO.lst (fields10.map V.str))) wq (HO.lst (wrong8.map V.str)) fq = some (.lst (fields10.map V.str)) := s9 _ _ upd_same
      have gwB : upd (upd H8 fq (HO.lst (fields10.map V.str))) wq (HO.lst (wrong8.map V.str)) wq = some (.lst (wrong8.map V.str)) := upd_same
      obtain ⟨op1, gp1⟩ := dr1.hp
      have t18 := sm_trans s07 sm
      have kqp : kq ≠ p := fun z => by
        obtain ⟨ns1, i1, d1, e1, _⟩ := dr1
        rw [← z, gk1] at e1
        have e2 := HO.lst.inj (Option.some.inj e1)
        cases rs with
        | nil => cases e2
        | cons r rs => cases e2
      have fqp : fq ≠ p := Ne.symm (ne_of_none (t18 _ _ gp1) hfq)
      have wqp : wq ≠ p := Ne.symm (ne_of_none (s8 _ _ (t18 _ _ gp1)) hwq)
      have drB := dr1.same s19
      have kxB : LksX (upd (upd H8 fq (HO.lst (fields10.map V.str))) wq (HO.lst (wrong8.map V.str))) [p, kq] kq ks := hX1.go (Ex.same s19) (fun _ e => s19 _ _ e)
      generalize upd (upd H8 fq (HO.lst (fields10.map V.str))) wq (HO.lst (wrong8.map V.str)) = HB at gfB gwB drB kxB s19 ⊢
      have LS : ∀ {G : Hp}, Ex [p] HB G → LksX G [p, kq] kq ks ∧ G fq = some (.lst (fields10.map V.str)) ∧ G wq = some (.lst (wrong8.map V.str)) := fun {G} e => by
        have np : ∀ {b : Addr}, b ≠ p → b ∉ [p] := fun {b} h z => h (List.mem_singleton.mp z)
        exact ⟨kxB.go (e.mono fun x hx => List.mem_cons.mpr (.inl (List.mem_singleton.mp hx))) (fun _ h => e _ _ (np kqp) h), e _ _ (np fqp) gfB, e _ _ (np wqp) gwB⟩
      obtain ⟨qs, gkB, lqs, hqs⟩ := id kxB
      have np : ∀ {b : Addr}, b ≠ p → b ∉ [p] := fun {b} h z => h (List.mem_singleton.mp z)
      have inp : p ∈ [p] := List.mem_singleton.mpr rfl
      refine for_rng (4 : Int) (fun R h => h) (by decide) (by decide) (fun i σ' H' => ∃ c3 c4 c5 c8 c9 c10 c11 c12 c13 c14 c15 c16 c17 c18 : Option V, σ' = [some (.ref a), some (.ref p), some (.ref kq), c3, c4, c5, some (.ref fq), some (.ref wq), c8, c9, c10, c11, c12, c13, c14, c15, c16, c17, c18] ∧ Ex [p] HB H' ∧ Dr K H' p a) ⟨_, _, _, _, _, _, _, _, _, _, _, _, _, _, rfl, Ex.refl, drB⟩ ?_ ?_
      · rintro i σ' H' _ ⟨c3, c4, c5, c8, c9, c10, c11, c12, c13, c14, c15, c16, c17, c18, rfl, exB, dr⟩
        have gk := exB _ _ (np kqp) gkB
        simp! only [gk, List.length_map, lqs]
        refine ⟨p, a, ks.length, rfl, dr, by omega, by omega, fun d1 G1 hd1 drG1 b1 => ⟨_, rfl, ?_⟩⟩
        have e1 : Ex [p] HB G1 := exB.but inp b1
        have hd1q : d1 < qs.length := by omega
        have hkm : ks[d1] ∈ ks := List.getElem_mem hd1
        obtain ⟨o, gt, rn, go, on⟩ := hqs d1 qs[d1] ks[d1] (List.getElem?_eq_getElem hd1q) (List.getElem?_eq_getElem hd1)
        have rp : qs[d1] ≠ p := fun z => rn (by rw [z]; exact List.mem_cons_self)
        have opn : o ≠ p := fun z => on (by rw [z]; exact List.mem_cons_self)
        rw [e1 _ _ (np kqp) gkB]
        dsimp only
        have hat1 : atI (qs.map V.ref) ((d1 : Nat) : Int) = some (.ref qs[d1]) := atI_nat (by rw [List.getElem?_map, List.getElem?_eq_getElem hd1q]; rfl)
        generalize qs[d1] = r1 at gt rp rn hat1
        generalize ks[d1] = k0 at gt go hkm
        refine ⟨_, hat1, r1, rfl, _, .inl (.inl (e1 _ _ (np rp) gt)), rfl, _, _, rfl, _, _, rfl, _, _, rfl, rfl, ?_⟩
        rw [List.length_map, lqs]
        refine ⟨p, a, ks.length, rfl, drG1, by omega, by omega, fun d2 G2 hd2 drG2 b2 => ⟨_, rfl, ?_⟩⟩
        have e2 : Ex [p] HB G2 := e1.but inp b2
        have hd2q : d2 < qs.length := by omega
        obtain ⟨o2, gt2, rn2, _, _⟩ := hqs d2 qs[d2] ks[d2] (List.getElem?_eq_getElem hd2q) (List.getElem?_eq_getElem hd2)
        have rp2 : qs[d2] ≠ p := fun z => rn2 (by rw [z]; exact List.mem_cons_self)
        rw [e2 _ _ (np kqp) gkB]
        dsimp only
        have hat2 : atI (qs.map V.ref) ((d2 : Nat) : Int) = some (.ref qs[d2]) := atI_nat (by rw [List.getElem?_map, List.getElem?_eq_getElem hd2q]; rfl)
        refine ⟨_, hat2, qs[d2], rfl, _, .inl (.inl (e2 _ _ (np rp2) gt2)), _, rfl, ?_⟩
        generalize ks[d2].nm = nm2
        refine ⟨by decide, fun lq hlq => ?_⟩
        have drL := drG2.same (same_new (o := HO.lst [V.str (Str.ofString "Object"), V.str k0.ab, V.str nm2]) hlq)
        have eL : Ex [p] HB (upd G2 lq (HO.lst [V.str (Str.ofString "Object"), V.str k0.ab, V.str nm2])) := e2.al hlq
        have lqp : lq ≠ p := by
          obtain ⟨_, gpp⟩ := drG2.hp
          exact Ne.symm (ne_of_none gpp hlq)
        have gL : upd G2 lq (HO.lst [V.str (Str.ofString "Object"), V.str k0.ab, V.str nm2]) lq = some (HO.lst ([("Object" : Str), k0.ab, nm2].map V.str)) := upd_same
        generalize upd G2 lq (HO.lst [V.str (Str.ofString "Object"), V.str k0.ab, V.str nm2]) = G3 at drL eL gL ⊢
        refine ⟨p, a, 3, rfl, drL, by decide, by decide, fun d3 G4 hd3 dr4 b4 => ?_⟩
        have e4 : Ex [p] HB G4 := eL.but inp b4
        refine ⟨_, _, rfl, .inl (.inl ((b4 _ lqp).trans gL)), .str (([("Object" : Str), k0.ab, nm2])[d3]'hd3), atI_nat (by rw [List.getElem?_map, List.getElem?_eq_getElem hd3]; rfl), ?_⟩
        generalize ([("Object" : Str), k0.ab, nm2])[d3]'hd3 = s1
        refine lc_rngX (fun j H1 => j ≤ 4 ∧ Ex [p] HB H1 ∧ Dr K H1 p a) (fun R h => ?_) (fun j H1 h => by have := h.1; omega) (fun D j t G => j ≤ 4 ∧ Ex [p] HB G ∧ Dr K G p a ∧ D ≠ p ∧ HB D = none ∧ ∃ xs : List Str, G D = some (.lst (xs.map V.str)) ∧ xs.length = t ∧ ∀ x ∈ xs, Sok x) ?_ ?_ ?_
        · simp! only []
          exact ⟨p, a, 5, rfl, dr4, by decide, by decide, fun d H5 hd dr5 b5 => h _ _ ⟨by omega, e4.but inp b5, dr5⟩⟩
        · rintro j H5 D ⟨j4, e5, dr5⟩ hD
          have dp : D ≠ p := by
            obtain ⟨_, gpp⟩ := dr5.hp
            exact Ne.symm (ne_of_none gpp hD)
          exact ⟨j4, e5.al hD, dr5.same (same_new hD), dp, e5.no hD dp, [], upd_same, rfl, fun x hx => absurd hx List.not_mem_nil⟩
        · rintro D j t G ht ⟨j4, e5, dr5, dp, hbD, xs, gD, lx, hx⟩
          have gf := e5 _ _ (np fqp) gfB
          have f10l : fields10.length = 10 := rfl
          simp! only [gf]
          simp only [tYes, if_true]
          refine ⟨p, a, 10, rfl, dr5, by decide, by decide, fun d G5 hd drG5 b5 => ⟨_, rfl, ?_⟩⟩
          have e6 := e5.but inp b5
          rw [e6 _ _ (np fqp) gfB]
          dsimp only
          refine ⟨.str fields10[d], atI_nat (by rw [List.getElem?_map, List.getElem?_eq_getElem (by omega)]; rfl), _, (b5 _ dp).trans gD, by rw [List.length_map]; omega, j4, e6.up hbD, drB.put hbD drG5 dp, dp, hbD, xs ++ [fields10[d]], by rw [List.map_append]; rfl, by rw [List.length_append, lx]; rfl, fun x hx2 => ?_⟩
          rcases List.mem_append.mp hx2 with z | z
          · exact hx x z
          · rw [List.mem_singleton] at z
            rw [z]
            exact fields10_ok _ (List.getElem_mem (by omega))
        · rintro D j G ⟨j4, e5, dr5, dp, hbD, xs, gD, lx, hx⟩
          refine ⟨J0 K HB a p kq fq wq o i k0 4, ?_, ?_⟩
          · simp! only [gD]
            refine ⟨p, a, 2, rfl, dr5, by decide, by decide, fun d G5 hd drG5 b5 => ⟨rfl, ite2 (fun _ => ?_) (fun _ => ?_)⟩⟩
            · have e6 := e5.but inp b5
              have gD5 := (b5 _ dp).trans gD
              refine lc_rngX (fun j H1 => j = xs.length ∧ H1 = G5) (fun R h => ?_) (fun j H1 h => by have := h.1; omega) (fun D2 j t G => G5 D2 = none ∧ Same G5 G ∧ j = xs.length ∧ ∃ ys : List Str, G D2 = some (.lst (ys.map V.str)) ∧ ys.length ≤ t ∧ ∀ x ∈ ys, Sok x) ?_ ?_ ?_
              · simp! only [gD5, List.length_map]
                exact h _ _ ⟨rfl, rfl⟩
              · rintro j2 H1 D2 ⟨rfl, rfl⟩ hD2
                exact ⟨hD2, same_new hD2, rfl, [], upd_same, Nat.le_refl _, fun x hx => absurd hx List.not_mem_nil⟩
              · rintro D2 j2 t G6 ht ⟨hD2, sm6, rfl, ys, gy, ly, hy⟩
                have gD6 := sm6 _ _ gD5
                have hat : atI (xs.map V.str) ((t : Nat) : Int) = some (.str xs[t]) := atI_nat (by rw [List.getElem?_map, List.getElem?_eq_getElem ht]; rfl)
                have hok := hx xs[t] (List.getElem_mem ht)
                generalize xs[t] = y at hat hok
                simp! only [gD6, hat]
                rw [cutV_to, ← List.map_take]
                intro l hl2
                have s7 := same_new (o := HO.lst ((xs.take t).map V.str)) hl2
                have s67 := sm_trans sm6 s7
                refine ⟨rfl, by rw [List.all_map, List.all_eq_true]; exact fun _ _ => rfl, ?_⟩
                rw [inV_strs]
                refine ite2 (fun _ => ?_) (fun _ => ⟨hD2, s67, ys, s7 _ _ gy, by omega, hy⟩)
                rw [s7 _ _ gD6]
                dsimp only
                refine ⟨_, hat, _, s7 _ _ gy, by rw [List.length_map]; omega, hD2, sm_upd s67 hD2, ys ++ [y], by rw [List.map_append]; rfl, by rw [List.length_append, List.length_singleton]; omega, fun x hx2 => ?_⟩
                rcases List.mem_append.mp hx2 with z | z
                · exact hy x z
                · rw [List.mem_singleton] at z
                  rw [z]
                  exact hok
              · rintro D2 j2 G6 ⟨hD2, sm6, rfl, ys, gy, ly, hy⟩
                have dp2 : D2 ≠ p := by
                  obtain ⟨_, gpp⟩ := drG5.hp
                  exact Ne.symm (ne_of_none gpp hD2)
                exact ⟨_, _, _, _, _, _, _, _, k0.nm, s1, D2, ys, rfl, e6.trans (Ex.same sm6), drG5.same sm6, gy, dp2, e6.no hD2 dp2, by omega, hy, .inl rfl⟩
            · exact ⟨_, _, _, _, _, _, _, _, k0.nm, s1, D, xs, rfl, e5.but inp b5, drG5, (b5 _ dp).trans gD, dp, hbD, by omega, hx, .inl rfl⟩
          · rintro σ' G5 ⟨c3, c4, c5, c14, c15, c16, c17, c18, n, s, nq, xs, rfl, e6, dr6, gn, nqp, hbn, lx, hx, hn⟩
            simp! only []
            refine ⟨p, a, 12, rfl, dr6, by decide, by decide, fun pk G6 hpk dr7 b7 => ?_⟩
            have e7 := e6.but inp b7
            have gn7 := (b7 _ nqp).trans gn
            refine ⟨J1 K HB a p kq fq wq o i k0, ?_, ?_⟩
            · have gw := e7 _ _ (np wqp) gwB
              have w8l : wrong8.length = 8 := rfl
              simp! only [gn7, gw]
              refine ite2 (fun _ => ?_) (fun _ => ⟨_, _, _, _, _, _, _, n, s, nq, xs, pk, rfl, e7, dr7, gn7, nqp, hbn, by omega, hx, hn⟩)
              refine ⟨p, a, 8, rfl, dr7, by decide, by decide, fun d G8 hd dr8 b8 => ⟨_, rfl, ?_⟩⟩
              rw [b8 wq wqp, gw]
              dsimp only
              refine ⟨.str wrong8[d], atI_nat (by rw [List.getElem?_map, List.getElem?_eq_getElem (by omega)]; rfl), _, (b8 _ nqp).trans gn7, by rw [List.length_map]; omega, ⟨_, _, _, _, _, _, _, n, s, nq, xs ++ [wrong8[d]], pk, rfl, (e7.but inp b8).up hbn, drB.put hbn dr8 nqp, by rw [upd_same, List.map_append]; rfl, nqp, hbn, by rw [List.length_append, List.length_singleton]; omega, fun x hx2 => ?_, hn⟩⟩
              rcases List.mem_append.mp hx2 with z | z
              · exact hx x z
              · rw [List.mem_singleton] at z
                rw [z]
                exact wrong8_ok _ (List.getElem_mem (by omega))
            rintro σ' G7 ⟨c3, c4, c5, c15, c16, c17, c18, n, s, nq, xs, pk, rfl, e8, dr8, gn8, nqp, hbn, lx, hx, hn⟩
            refine ⟨J1 K HB a p kq fq wq o i k0, ?_, ?_⟩
            · simp! only []
              refine ite2 (fun _ => ⟨by decide, fun lq hlq => ?_⟩) (fun _ => ⟨_, _, _, _, _, _, _, n, s, nq, xs, pk, rfl, e8, dr8, gn8, nqp, hbn, lx, hx, hn⟩)
              have t1 := same_new (o := HO.lst [V.str (Str.ofString "Integer"), V.str (Str.ofString "Nope"), V.str n]) hlq
              have lqp : lq ≠ p := by
                obtain ⟨_, gpp⟩ := dr8.hp
                exact Ne.symm (ne_of_none gpp hlq)
              have gL : upd G7 lq (HO.lst [V.str (Str.ofString "Integer"), V.str (Str.ofString "Nope"), V.str n]) lq = some (HO.lst ([("Integer" : Str), "Nope", n].map V.str)) := upd_same
              refine ⟨p, a, 3, rfl, dr8.same t1, by decide, by decide, fun d3 G8 hd3 dr9 b9 => ?_⟩
              exact ⟨_, _, rfl, .inl (.inl ((b9 _ lqp).trans gL)), .str (([("Integer" : Str), "Nope", n])[d3]'hd3), atI_nat (by rw [List.getElem?_map, List.getElem?_eq_getElem hd3]; rfl), _, _, _, _, _, _, _, n, _, nq, xs, pk, rfl, (e8.al hlq).but inp b9, dr9, (b9 _ nqp).trans (t1 _ _ gn8), nqp, hbn, lx, hx, hn⟩
            rintro σ' G8 ⟨c3, c4, c5, c15, c16, c17, c18, n, s, nq, xs, pk, rfl, e9, dr9, gn9, nqp, hbn, lx, hx, hn⟩
            refine ⟨J1 K HB a p kq fq wq o i k0, ?_, ?_⟩
            · simp! only []
              refine ite2 (fun _ => ?_) (fun _ => ⟨_, _, _, _, _, _, _, n, s, nq, xs, pk, rfl, e9, dr9, gn9, nqp, hbn, lx, hx, hn⟩)
              refine lc_rngX (fun j H1 => j ≤ 34 ∧ Ex [p] HB H1 ∧ Dr K H1 p a) (fun R h => ?_) (fun j H1 h => by have := h.1; omega) (fun D j t G => j ≤ 34 ∧ Ex [p] HB G ∧ Dr K G p a ∧ D ≠ p ∧ HB D = none ∧ ∃ xs : List Str, G D = some (.lst (xs.map V.str)) ∧ xs.length = t ∧ ∀ x ∈ xs, Sok x) ?_ ?_ ?_
              · simp! only []
                refine ⟨p, a, 9, rfl, dr9, by decide, by decide, fun d H5 hd dr5 b5 => ⟨_, rfl, ?_⟩⟩
                rw [show (26 : Int) + (d : Int) = ((d + 26 : Nat) : Int) by omega]
                exact h _ _ ⟨by omega, e9.but inp b5, dr5⟩
              · rintro j H5 D ⟨j4, e5, dr5⟩ hD
                have dp : D ≠ p := by
                  obtain ⟨_, gpp⟩ := dr5.hp
                  exact Ne.symm (ne_of_none gpp hD)
                exact ⟨j4, e5.al hD, dr5.same (same_new hD), dp, e5.no hD dp, [], upd_same, rfl, fun x hx => absurd hx List.not_mem_nil⟩
              · rintro D j t G ht ⟨j4, e5, dr5, dp, hbD, ys, gD, ly, hy⟩
                simp! only []
                simp only [tYes, if_true]
                have fo := f_ok t (by omega)
                have fl := fo.2
                rw [strLen_append] at fl
                have lg : ((t : Nat) : Int).natAbs.log2 ≤ t := by
                  rw [Int.natAbs_natCast]
                  exact Nat.log2_le_self t
                refine ⟨by omega, by omega, _, gD, by rw [List.length_map]; omega, j4, e5.up hbD, drB.put hbD dr5 dp, dp, hbD, ys ++ [("f" : Str) ++ Str.ofString (toString ((t : Nat) : Int))], by rw [List.map_append]; rfl, by rw [List.length_append, ly]; rfl, fun x hx2 => ?_⟩
                rcases List.mem_append.mp hx2 with z | z
                · exact hy x z
                · rw [List.mem_singleton] at z
                  rw [z]
                  exact fo
              · rintro D j G ⟨j4, e5, dr5, dp, hbD, ys, gD, ly, hy⟩
                exact ⟨_, _, _, _, _, _, _, n, s, D, ys, pk, rfl, e5, dr5, gD, dp, hbD, by omega, hy, hn⟩
            rintro σ' G9 ⟨c3, c4, c5, c15, c16, c17, c18, n, s, nq, xs, pk, rfl, e10, dr10, gn10, nqp, hbn, lx, hx, hn⟩
            refine ⟨J1 K HB a p kq fq wq o i k0, ?_, ?_⟩
            · simp! only []
              refine ite2 (fun _ => ⟨by decide, fun lq hlq => ?_⟩) (fun _ => ⟨_, _, _, _, _, _, _, n, s, nq, xs, pk, rfl, e10, dr10, gn10, nqp, hbn, lx, hx, hn⟩)
              have t1 := same_new (o := HO.lst [V.str (Str.ofString "Array"), V.str (Str.ofString "Nope"), V.str (Str.ofString "Object")]) hlq
              have lqp : lq ≠ p := by
                obtain ⟨_, gpp⟩ := dr10.hp
                exact Ne.symm (ne_of_none gpp hlq)
              have gL : upd G9 lq (HO.lst [V.str (Str.ofString "Array"), V.str (Str.ofString "Nope"), V.str (Str.ofString "Object")]) lq = some (HO.lst (weird3.map V.str)) := upd_same
              refine ⟨p, a, 3, rfl, dr10.same t1, by decide, by decide, fun d3 G8 hd3 dr9 b9 => ?_⟩
              have hd3' : d3 < weird3.length := hd3
              exact ⟨_, _, rfl, .inl (.inl ((b9 _ lqp).trans gL)), .str (weird3[d3]'hd3'), atI_nat (by rw [List.getElem?_map, List.getElem?_eq_getElem hd3']; rfl), _, _, _, _, _, _, _, weird3[d3]'hd3', s, nq, xs, pk, rfl, (e10.al hlq).but inp b9, dr9, (b9 _ nqp).trans (t1 _ _ gn10), nqp, hbn, lx, hx, .inr (List.getElem_mem hd3')⟩
            rintro σ' G10 ⟨c3, c4, c5, c15, c16, c17, c18, n, s, nq, xs, pk, rfl, e11, dr11, gn11, nqp, hbn, lx, hx, hn⟩
            simp! only []
            have hK10 : LksAt K G10 kq ks := (LS e11).1.at
            have hxl : ∀ x ∈ xs, x.length ≤ 100000 := fun x hx2 => Nat.le_trans (hx x hx2).2 (by decide)
            have GD := gd_law (n := n) (s := s) hOk h5 lx hx
            refine ⟨kq, nq, ks, n, s, xs, ks.length + 1, rfl, hK10, gn11, hT, by omega, by omega, lx, hxl, fun Gd rd sd hrd RD => ?_⟩
            refine ⟨kq, nq, ks, n, s, xs, lnF ks, lnF (behindL ks n s xs), rfl, hK10.same sd, sd _ _ gn11, plan_in hT (by omega) (by omega) hND lx hxl, fun x hx2 => (hx x hx2).1, h5, fun Gp rq sp hrq RP => ?_⟩
            have rs0 := res_same hT (by omega) (by omega) (n := n) (s := s) lx
            rw [rs0.1, rs0.2] at RP
            have RD2 := RD.same sp
            refine ⟨rq, rfl, _, res_dp RP, GD.layable (by decide) (by decide), GD.sh, GD.is, rd, rfl, _, res_dp RD2, GD.layable (by decide) (by decide), GD.sh, GD.is, ite2 (fun z => absurd rfl z) (fun _ => ⟨rd, rfl, ?_⟩)⟩
            have sdp := sm_trans sd sp
            have e12 : Ex [p] HB Gp := e11.trans (Ex.same sdp)
            have dr12 := dr11.same sdp
            obtain ⟨eD, gRD, rowsD⟩ := id RD2
            rw [gRD]
            dsimp only
            refine ⟨_, rfl, rfl, ite2 (fun hw => ?_) (fun _ => ⟨e12, dr12⟩)⟩
            have hnone : lawW ks n s xs = none := by
              cases e : lawW ks n s xs with
              | none => rfl
              | some w =>
                rw [e] at hw
                have hw2 : w = "" := by injection hw
                exact absurd (hw2 ▸ e) (lawW_ne ks n s xs)
            have hn0 : n = k0.nm := hn.resolve_right fun z => weird_no dk z hnone
            subst hn0
            obtain ⟨⟨mB, _, _, hTB0⟩, hNDB, wB, rB⟩ := dk.behind hkm lx hnone
            have hTB := hTB0.short
            have lB : (behindL ks k0.nm s xs).length = ks.length := by
              unfold behindL
              rw [List.length_map]
            refine ⟨kq, nq, ks, k0.nm, s, xs, rfl, hK10.same sdp, by omega, sdp _ _ gn11, fun Gb bq sb hbq hBl => ?_⟩
            have k0f := hOk.2 k0 hkm
            have go11 := e11 _ _ (np opn) go
            refine ⟨bq, o, behindL ks k0.nm s xs, k0.nm, k0.ab, k0.fs, lnF (behindL ks k0.nm s xs), lnF (behindL (behindL ks k0.nm s xs) k0.nm k0.ab k0.fs), rfl, hBl, sb _ _ (sdp _ _ go11), plan_in hTB (by omega) (by omega) hNDB k0f.1 (fun x hx2 => Nat.le_trans (k0f.2 x hx2).2 (by decide)), fun x hx2 => (k0f.2 x hx2).1, by omega, fun Gq rb sq hrb RB => ?_⟩
            have rs1 := res_same hTB (by omega) (by omega) (n := k0.nm) (s := k0.ab) k0f.1
            rw [rs1.1, rs1.2, wB] at RB
            rw [hnone] at rowsD
            obtain ⟨eB, gRB, rowsB⟩ := RB
            refine ⟨rb, rfl, ?_⟩
            rw [gRB]
            dsimp only
            refine ⟨_, rfl, rfl, ite2 (fun z => absurd rfl z) (fun _ => ?_)⟩
            have lR : (lawR ks k0.nm s xs).length ≤ 5 := Nat.le_trans (lawR_len _ _ _ _) h5
            have lRB : (lawR (behindL ks k0.nm s xs) k0.nm k0.ab k0.fs).length ≤ 5 := by
              rw [rB, List.length_map]
              exact lR
            have sbq := sm_trans sb sq
            refine lc_sw T true (e := eB) (fun R h => ?_) rowsB lRB (by show 3 < 19; decide) fun Da Ga sa hDa DpA => ?_
            · simp! only [gRB]
              exact h
            refine lc_sw T false (e := eD) (fun R h => ?_) (rowsD.same (sm_trans sbq sa)) lR (by show 3 < 19; decide) fun Db Gc sc hDb DpB => ?_
            · have gRD2 := sa _ _ (sbq _ _ gRD)
              simp! only [gRD2]
              exact h
            have okR := lawR_ok hOk (n := k0.nm) (s := s) lx hx
            have gsw := gd_sw (b := false) okR lR
            have eqD : (lawR (behindL ks k0.nm s xs) k0.nm k0.ab k0.fs).map (sw3 true) = (lawR ks k0.nm s xs).map (sw3 false) := by
              rw [rB, List.map_map]
              rfl
            have DA := DpA Gc sc
            rw [show (rowsIf none (lawR (behindL ks k0.nm s xs) k0.nm k0.ab k0.fs)).map (sw3 true) = (lawR ks k0.nm s xs).map (sw3 false) from eqD] at DA
            have sAll := sm_trans sbq (sm_trans sa sc)
            have DB : Dp K Gc (.ref Db) (.list ((lawR ks k0.nm s xs).map (sw3 false))) := DpB Gc sm_refl
            refine ⟨_, _, DA, DB, gsw.shaped (by decide), gsw.shaped (by decide), _, rfl, ?_⟩
            rw [SeqAt.eqv_refl _ gsw.lay]
            exact ite2 (fun z => by cases z) (fun _ => ⟨e12.trans (Ex.same sAll), dr12.same sAll⟩)
      · rintro σ' H' ⟨c3, c4, c5, c8, c9, c10, c11, c12, c13, c14, c15, c16, c17, c18, rfl, exB, dr⟩
        simp! only []
        refine ⟨by decide, fun l1 hl1 => ⟨by decide, fun l2 hl2 cx dx hcx hdx _ => ?_⟩⟩
        have t1 := same_new (o := HO.lst [V.str (Str.ofString "x")]) hl1
        have g1 : upd H' l1 (HO.lst [V.str (Str.ofString "x")]) l1 = some (.lst ([("x" : Str)].map V.str)) := upd_same
        have t2 := same_new (o := HO.lst [V.str (Str.ofString "y"), V.str (Str.ofString "x")]) hl2
        have g2 : upd (upd H' l1 (HO.lst [V.str (Str.ofString "x")])) l2 (HO.lst [V.str (Str.ofString "y"), V.str (Str.ofString "x")]) l2 = some (.lst ([("y" : Str), "x"].map V.str)) := upd_same
        have g1' := t2 _ _ g1
        generalize upd (upd H' l1 (HO.lst [V.str (Str.ofString "x")])) l2 (HO.lst [V.str (Str.ofString "y"), V.str (Str.ofString "x")]) = H2 at g1' g2 hcx hdx ⊢
        have t3 : Same H2 (upd (upd H2 dx (HO.own cx)) cx (HO.ins A.C_Change dx [])) := sm_upd (same_new hdx) hcx
        refine ⟨cx, dx, l1, l2, "A", ["x"], ["y", "x"], rfl, upd_same, .inl (.inl (t3 _ _ g1')), .inl (.inl (t3 _ _ g2)), by decide, by decide, by decide, fun H3 _ ch => ⟨rfl, ?_⟩⟩
        obtain ⟨dx3, co, cn, cg, gc, _, _, hG⟩ := ch
        have eG : ([("y" : Str), "x"].map (orgV ["x"])) = [V.non, V.int 0] := rfl
        rw [eG] at hG
        have eqT : ∀ d : PyData, d.canLay0 = true → PyData.eqv d d = true := SeqAt.eqv_refl
        refine ⟨_, _, _, gc, T.cl_Change, T.no_Change_origins, _, rfl, by decide, fun q hq => ?_⟩
        have t4 := same_new (o := HO.tup [V.non, V.int 0]) hq
        refine ⟨.tuple [.none, .int 0], .tuple [.none, .int 0], .tup (hG.same t4) (.cons .non (.cons (.int 0) .nil)), .tup (.inl (.inl upd_same)) (.cons .non (.cons (.int 0) .nil)), by decide +kernel, by decide +kernel, _, rfl, ?_⟩
        rw [eqT _ (by decide +kernel)]
        refine ite2 (fun _ => ?_) (fun z => absurd rfl z)
        generalize upd H3 q (HO.tup [V.non, V.int 0]) = H4
        refine ⟨by decide, fun l3 hl3 x2 dx2 hx2 hdx2 _ => ?_⟩
        refine kind_made (sup := none) (fs := ["x"]) hx2 hdx2 (.inl (.inl (.inl upd_same))) fun H5 _ ka => ⟨rfl, ?_⟩
        obtain ⟨dx5, tt, gk, hF⟩ := ka
        refine ⟨_, _, _, gk, T.cl_Kind, T.no_Kind_fields, _, kdF_f, by decide, fun q5 hq5 => ?_⟩
        have t5 := same_new (o := HO.tup [V.str (Str.ofString "x")]) hq5
        have hF' : SqT K H5 tt [V.str (Str.ofString "x")] := hF
        refine ⟨.tuple [.str (Str.ofString "x")], .tuple [.str (Str.ofString "x")], .tup (hF'.same t5) (.cons (.str _) .nil), .tup (.inl (.inl upd_same)) (.cons (.str _) .nil), by decide +kernel, by decide +kernel, ?_⟩
        rw [eqT _ (by decide +kernel)]
        exact k _
end

theorem all_mk {l : PySem.W.OpenLaw} {w : World} {K : PySem.W.Frag} {h : Heap} {mg : Str → Option Value} {fa : Addr} (X : K.In h) (G : h.Ns mainGlobals mg) (hfa : mg "law" = some (.ref fa))
    {f25 : Addr} {od25 an25 : Option Addr} {sl25 : Array (Option Value)} {oc25 kV25 dc25 pm25 cd25 ct25 : Value}
    {f24 : Addr} {od24 an24 : Option Addr} {sl24 : Array (Option Value)} {oc24 kV24 dc24 pm24 cd24 ct24 : Value}
    {f23 : Addr} {od23 an23 : Option Addr} {sl23 : Array (Option Value)} {oc23 kV23 dc23 pm23 cd23 ct23 : Value}
    {f22 : Addr} {od22 an22 : Option Addr} {sl22 : Array (Option Value)} {oc22 kV22 dc22 pm22 cd22 ct22 : Value}
    {f21 : Addr} {od21 an21 : Option Addr} {sl21 : Array (Option Value)} {oc21 kV21 dc21 pm21 cd21 ct21 : Value}
    {f20 : Addr} {od20 an20 : Option Addr} {sl20 : Array (Option Value)} {oc20 kV20 dc20 pm20 cd20 ct20 : Value}
    {f19 : Addr} {od19 an19 : Option Addr} {sl19 : Array (Option Value)} {oc19 kV19 dc19 pm19 cd19 ct19 : Value}
    {f18 : Addr} {od18 an18 : Option Addr} {sl18 : Array (Option Value)} {oc18 kV18 dc18 pm18 cd18 ct18 : Value}
    {f17 : Addr} {od17 an17 : Option Addr} {sl17 : Array (Option Value)} {oc17 kV17 dc17 pm17 cd17 ct17 : Value}
    {f16 : Addr} {od16 an16 : Option Addr} {sl16 : Array (Option Value)} {oc16 kV16 dc16 pm16 cd16 ct16 : Value}
    {f15 : Addr} {od15 an15 : Option Addr} {sl15 : Array (Option Value)} {oc15 kV15 dc15 pm15 cd15 ct15 : Value}
    {f14 : Addr} {od14 an14 : Option Addr} {sl14 : Array (Option Value)} {oc14 kV14 dc14 pm14 cd14 ct14 : Value}
    {f13 : Addr} {od13 an13 : Option Addr} {sl13 : Array (Option Value)} {oc13 kV13 dc13 pm13 cd13 ct13 : Value}
    {f12 : Addr} {od12 an12 : Option Addr} {sl12 : Array (Option Value)} {oc12 kV12 dc12 pm12 cd12 ct12 : Value}
    {f11 : Addr} {od11 an11 : Option Addr} {sl11 : Array (Option Value)} {oc11 kV11 dc11 pm11 cd11 ct11 : Value}
    {f10 : Addr} {od10 an10 : Option Addr} {sl10 : Array (Option Value)} {oc10 kV10 dc10 pm10 cd10 ct10 : Value}
    {f9 : Addr} {od9 an9 : Option Addr} {sl9 : Array (Option Value)} {oc9 kV9 dc9 pm9 cd9 ct9 : Value}
    {f8 : Addr} {od8 an8 : Option Addr} {sl8 : Array (Option Value)} {oc8 kV8 dc8 pm8 cd8 ct8 : Value}
    {f7 : Addr} {od7 an7 : Option Addr} {sl7 : Array (Option Value)} {oc7 kV7 dc7 pm7 cd7 ct7 : Value}
    {f6 : Addr} {od6 an6 : Option Addr} {sl6 : Array (Option Value)} {oc6 kV6 dc6 pm6 cd6 ct6 : Value}
    {f5 : Addr} {od5 an5 : Option Addr} {sl5 : Array (Option Value)} {oc5 kV5 dc5 pm5 cd5 ct5 : Value}
    {f4 : Addr} {od4 an4 : Option Addr} {sl4 : Array (Option Value)} {oc4 kV4 dc4 pm4 cd4 ct4 : Value}
    {f3 : Addr} {od3 an3 : Option Addr} {sl3 : Array (Option Value)} {oc3 kV3 dc3 pm3 cd3 ct3 : Value}
    {f2 : Addr} {od2 an2 : Option Addr} {sl2 : Array (Option Value)} {oc2 kV2 dc2 pm2 cd2 ct2 : Value}
    {f1 : Addr} {od1 an1 : Option Addr} {sl1 : Array (Option Value)} {oc1 kV1 dc1 pm1 cd1 ct1 : Value}
    {f0 : Addr} {od0 an0 : Option Addr} {sl0 : Array (Option Value)} {oc0 kV0 dc0 pm0 cd0 ct0 : Value}
    {C_SaggarError : Addr}
    {C_BadClass : Addr}
    {C_Kind : Addr}
    {C_Change : Addr}
    {nm_BadClass q_BadClass : Str} {N_BadClass : Addr} {bs_BadClass : List Value} {sn_BadClass : List Str} {sub_BadClass : List Value} {ab_BadClass : Bool} {col_BadClass : Option Bool} {dd_BadClass : Option Addr} {m0_BadClass m1_BadClass m2_BadClass m3_BadClass m5_BadClass : Option Value}
    {t_LONGEST_NAME : Tok}
    {t_LETTERS : Tok}
    {t_DIGITS : Tok}
    {t_MOST_FIELDS : Tok}
    {t_RESERVED : Addr} {dd_RESERVED : Option Addr} {ss_RESERVED : Array (Option Value)} {nn_RESERVED : Nat} {tkRESERVED_0 : Tok} {tkRESERVED_1 : Tok} {tkRESERVED_2 : Tok} {tkRESERVED_3 : Tok} {tkRESERVED_4 : Tok}
    {t_KERNEL : Addr} {dd_KERNEL : Option Addr} {ss_KERNEL : Array (Option Value)} {nn_KERNEL : Nat} {tkKERNEL_0 : Tok} {tkKERNEL_1 : Tok} {tkKERNEL_2 : Tok} {tkKERNEL_3 : Tok} {tkKERNEL_4 : Tok} {tkKERNEL_5 : Tok} {tkKERNEL_6 : Tok} {tkKERNEL_7 : Tok} {tkKERNEL_8 : Tok} {tkKERNEL_9 : Tok} {tkKERNEL_10 : Tok} {tkKERNEL_11 : Tok} {tkKERNEL_12 : Tok} {tkKERNEL_13 : Tok} {tkKERNEL_14 : Tok}
    (m_SaggarError : PySem.W.nsIn K mainGlobals "SaggarError" = some (some (.ref C_SaggarError)))
    (m_BadClass : PySem.W.nsIn K mainGlobals "BadClass" = some (some (.ref C_BadClass)))
    (m_Kind : PySem.W.nsIn K mainGlobals "Kind" = some (some (.ref C_Kind)))
    (m_Change : PySem.W.nsIn K mainGlobals "Change" = some (some (.ref C_Change)))
    (xl_BadClass : K.lookup C_BadClass = some (excClassObj nm_BadClass q_BadClass C_BadClass N_BadClass bs_BadClass [.ref C_SaggarError, .type "ValueError", .type "Exception", .type "BaseException", .type "object"] true sn_BadClass sub_BadClass ab_BadClass col_BadClass dd_BadClass m0_BadClass m1_BadClass m2_BadClass m3_BadClass m5_BadClass "ValueError.__new__"))
    (sa_BadClass : PySem.W.findIn K (.ref C_BadClass) "__setattr__" = some (some (.builtin "object.__setattr__"))) (ga_BadClass : PySem.W.findIn K (.ref C_BadClass) "__getattribute__" = some (some (.builtin "BaseException.__getattribute__"))) (gg_BadClass : PySem.W.findIn K (.ref C_BadClass) "__getattr__" = some none) (ic_BadClass : PySem.W.findIn K (.ref C_BadClass) "__init__" = some (some (.ref f0))) (ti_BadClass : PySem.W.typeIn K (.ref f0) = some (.type "function"))
    (kc_BadClass : PySem.W.keepIn K (.ref C_BadClass) = true) (ec_BadClass : PySem.W.subIn K (.ref C_BadClass) (.type "BaseException") = some true) (tc_BadClass : PySem.W.typeIn K (.ref C_BadClass) = some (.type "type")) (hc_BadClass : PySem.W.hasDictIn K C_BadClass = true)
    (ha_BadClass : PySem.W.findIn K (.ref C_BadClass) "__class__" = some (some (.builtin "object.__class__"))) (hn_BadClass : PySem.W.specialIn K (.builtin "object.__class__") "__get__" = some (some (.builtin "getset_descriptor.__get__"))) (ht_BadClass : PySem.W.takesIn K (.builtin "object.__class__") = some true) (hm_BadClass : PySem.W.mroIn K C_BadClass (.type "object") = some true)
    (no_BadClass_why : PySem.W.findIn K (.ref C_BadClass) "why" = some none)
    (ex_BadClass_BadClass : PySem.W.exmOne K (.ref C_BadClass) (.ref C_BadClass) = some true)
    (pg_Kind : PySem.W.plainGet K C_Kind Str.empty = true) (hd_Kind : PySem.W.hasDictIn K C_Kind = true) (po_Kind : PySem.W.plainOver K C_Kind = true) (sa_Kind : PySem.W.findIn K (.ref C_Kind) "__setattr__" = some (some (.builtin "object.__setattr__")))
    (mi_Kind : PySem.W.makesIn K C_Kind = true) (kc_Kind : PySem.W.keepIn K (.ref C_Kind) = true)
    (no_Kind_name : PySem.W.findIn K (.ref C_Kind) "name" = some none)
    (no_Kind_superclass : PySem.W.findIn K (.ref C_Kind) "superclass" = some none)
    (no_Kind_fields : PySem.W.findIn K (.ref C_Kind) "fields" = some none)
    (pg_Change : PySem.W.plainGet K C_Change Str.empty = true) (hd_Change : PySem.W.hasDictIn K C_Change = true) (po_Change : PySem.W.plainOver K C_Change = true) (sa_Change : PySem.W.findIn K (.ref C_Change) "__setattr__" = some (some (.builtin "object.__setattr__")))
    (mi_Change : PySem.W.makesIn K C_Change = true) (kc_Change : PySem.W.keepIn K (.ref C_Change) = true)
    (no_Change_name : PySem.W.findIn K (.ref C_Change) "name" = some none)
    (no_Change_old : PySem.W.findIn K (.ref C_Change) "old" = some none)
    (no_Change_new : PySem.W.findIn K (.ref C_Change) "new" = some none)
    (no_Change_origins : PySem.W.findIn K (.ref C_Change) "origins" = some none)
    (l0 : K.lookup f0 = some ⟨oc0, od0, .func (PySem.W.fnOf "__init__" "BadClass.__init__" (defArgs s_BadClass___init__) (defBody s_BadClass___init__) (defScope s_BadClass___init__) .none kV0 dc0 pm0 an0 cd0 ct0), sl0⟩) (c0 : PySem.W.codeIn K cd0 "BadClass.__init__" = true) (k0 : PySem.W.keepIn K (.ref f0) = true)
    (a1 : PySem.W.nsIn K mainGlobals "is_name" = some (some (.ref f1)))
    (l1 : K.lookup f1 = some ⟨oc1, od1, .func (PySem.W.fnOf "is_name" "is_name" (defArgs s_is_name) (defBody s_is_name) (defScope s_is_name) .none kV1 dc1 pm1 an1 cd1 ct1), sl1⟩) (c1 : PySem.W.codeIn K cd1 "is_name" = true) (k1 : PySem.W.keepIn K (.ref f1) = true)
    (a2 : PySem.W.nsIn K mainGlobals "letters_end" = some (some (.ref f2)))
    (l2 : K.lookup f2 = some ⟨oc2, od2, .func (PySem.W.fnOf "letters_end" "letters_end" (defArgs s_letters_end) (defBody s_letters_end) (defScope s_letters_end) .none kV2 dc2 pm2 an2 cd2 ct2), sl2⟩) (c2 : PySem.W.codeIn K cd2 "letters_end" = true) (k2 : PySem.W.keepIn K (.ref f2) = true)
    (a3 : PySem.W.nsIn K mainGlobals "name_end" = some (some (.ref f3)))
    (l3 : K.lookup f3 = some ⟨oc3, od3, .func (PySem.W.fnOf "name_end" "name_end" (defArgs s_name_end) (defBody s_name_end) (defScope s_name_end) .none kV3 dc3 pm3 an3 cd3 ct3), sl3⟩) (c3 : PySem.W.codeIn K cd3 "name_end" = true) (k3 : PySem.W.keepIn K (.ref f3) = true)
    (a4 : PySem.W.nsIn K mainGlobals "is_field_name" = some (some (.ref f4)))
    (l4 : K.lookup f4 = some ⟨oc4, od4, .func (PySem.W.fnOf "is_field_name" "is_field_name" (defArgs s_is_field_name) (defBody s_is_field_name) (defScope s_is_field_name) .none kV4 dc4 pm4 an4 cd4 ct4), sl4⟩) (c4 : PySem.W.codeIn K cd4 "is_field_name" = true) (k4 : PySem.W.keepIn K (.ref f4) = true)
    (a5 : PySem.W.findIn K (.ref C_Kind) "__init__" = some (some (.ref f5))) (i5 : PySem.W.isFn K (.ref f5) = true)
    (l5 : K.lookup f5 = some ⟨oc5, od5, .func (PySem.W.fnOf "__init__" "Kind.__init__" (defArgs s_Kind___init__) (defBody s_Kind___init__) (defScope s_Kind___init__) .none kV5 dc5 pm5 an5 cd5 ct5), sl5⟩) (c5 : PySem.W.codeIn K cd5 "Kind.__init__" = true) (k5 : PySem.W.keepIn K (.ref f5) = true)
    (a6 : PySem.W.findIn K (.ref C_Change) "__init__" = some (some (.ref f6))) (i6 : PySem.W.isFn K (.ref f6) = true)
    (l6 : K.lookup f6 = some ⟨oc6, od6, .func (PySem.W.fnOf "__init__" "Change.__init__" (defArgs s_Change___init__) (defBody s_Change___init__) (defScope s_Change___init__) .none kV6 dc6 pm6 an6 cd6 ct6), sl6⟩) (c6 : PySem.W.codeIn K cd6 "Change.__init__" = true) (k6 : PySem.W.keepIn K (.ref f6) = true)
    (a7 : PySem.W.nsIn K mainGlobals "plan_change" = some (some (.ref f7)))
    (l7 : K.lookup f7 = some ⟨oc7, od7, .func (PySem.W.fnOf "plan_change" "plan_change" (defArgs s_plan_change) (defBody s_plan_change) (defScope s_plan_change) .none kV7 dc7 pm7 an7 cd7 ct7), sl7⟩) (c7 : PySem.W.codeIn K cd7 "plan_change" = true) (k7 : PySem.W.keepIn K (.ref f7) = true)
    (a8 : PySem.W.nsIn K mainGlobals "all_fields" = some (some (.ref f8)))
    (l8 : K.lookup f8 = some ⟨oc8, od8, .func (PySem.W.fnOf "all_fields" "all_fields" (defArgs s_all_fields) (defBody s_all_fields) (defScope s_all_fields) .none kV8 dc8 pm8 an8 cd8 ct8), sl8⟩) (c8 : PySem.W.codeIn K cd8 "all_fields" = true) (k8 : PySem.W.keepIn K (.ref f8) = true)
    (a9 : PySem.W.nsIn K mainGlobals "is_under" = some (some (.ref f9)))
    (l9 : K.lookup f9 = some ⟨oc9, od9, .func (PySem.W.fnOf "is_under" "is_under" (defArgs s_is_under) (defBody s_is_under) (defScope s_is_under) .none kV9 dc9 pm9 an9 cd9 ct9), sl9⟩) (c9 : PySem.W.codeIn K cd9 "is_under" = true) (k9 : PySem.W.keepIn K (.ref f9) = true)
    (a10 : PySem.W.nsIn K mainGlobals "by_name" = some (some (.ref f10)))
    (l10 : K.lookup f10 = some ⟨oc10, od10, .func (PySem.W.fnOf "by_name" "by_name" (defArgs s_by_name) (defBody s_by_name) (defScope s_by_name) .none kV10 dc10 pm10 an10 cd10 ct10), sl10⟩) (c10 : PySem.W.codeIn K cd10 "by_name" = true) (k10 : PySem.W.keepIn K (.ref f10) = true)
    (a11 : PySem.W.nsIn K mainGlobals "line_of" = some (some (.ref f11)))
    (l11 : K.lookup f11 = some ⟨oc11, od11, .func (PySem.W.fnOf "line_of" "line_of" (defArgs s_line_of) (defBody s_line_of) (defScope s_line_of) .none kV11 dc11 pm11 an11 cd11 ct11), sl11⟩) (c11 : PySem.W.codeIn K cd11 "line_of" = true) (k11 : PySem.W.keepIn K (.ref f11) = true)
    (a12 : PySem.W.nsIn K mainGlobals "fields_in" = some (some (.ref f12)))
    (l12 : K.lookup f12 = some ⟨oc12, od12, .func (PySem.W.fnOf "fields_in" "fields_in" (defArgs s_fields_in) (defBody s_fields_in) (defScope s_fields_in) .none kV12 dc12 pm12 an12 cd12 ct12), sl12⟩) (c12 : PySem.W.codeIn K cd12 "fields_in" = true) (k12 : PySem.W.keepIn K (.ref f12) = true)
    (a13 : PySem.W.nsIn K mainGlobals "check_classes" = some (some (.ref f13)))
    (l13 : K.lookup f13 = some ⟨oc13, od13, .func (PySem.W.fnOf "check_classes" "check_classes" (defArgs s_check_classes) (defBody s_check_classes) (defScope s_check_classes) .none kV13 dc13 pm13 an13 cd13 ct13), sl13⟩) (c13 : PySem.W.codeIn K cd13 "check_classes" = true) (k13 : PySem.W.keepIn K (.ref f13) = true)
    (a14 : PySem.W.nsIn K mainGlobals "check_fields" = some (some (.ref f14)))
    (l14 : K.lookup f14 = some ⟨oc14, od14, .func (PySem.W.fnOf "check_fields" "check_fields" (defArgs s_check_fields) (defBody s_check_fields) (defScope s_check_fields) .none kV14 dc14 pm14 an14 cd14 ct14), sl14⟩) (c14 : PySem.W.codeIn K cd14 "check_fields" = true) (k14 : PySem.W.keepIn K (.ref f14) = true)
    (a15 : PySem.W.nsIn K mainGlobals "check_all_fields" = some (some (.ref f15)))
    (l15 : K.lookup f15 = some ⟨oc15, od15, .func (PySem.W.fnOf "check_all_fields" "check_all_fields" (defArgs s_check_all_fields) (defBody s_check_all_fields) (defScope s_check_all_fields) .none kV15 dc15 pm15 an15 cd15 ct15), sl15⟩) (c15 : PySem.W.codeIn K cd15 "check_all_fields" = true) (k15 : PySem.W.keepIn K (.ref f15) = true)
    (a16 : PySem.W.nsIn K mainGlobals "_law_draw" = some (some (.ref f16)))
    (l16 : K.lookup f16 = some ⟨oc16, od16, .func (PySem.W.fnOf "_law_draw" "_law_draw" (defArgs s__law_draw) (defBody s__law_draw) (defScope s__law_draw) .none kV16 dc16 pm16 an16 cd16 ct16), sl16⟩) (c16 : PySem.W.codeIn K cd16 "_law_draw" = true) (k16 : PySem.W.keepIn K (.ref f16) = true)
    (a17 : PySem.W.nsIn K mainGlobals "_law_kinds" = some (some (.ref f17)))
    (l17 : K.lookup f17 = some ⟨oc17, od17, .func (PySem.W.fnOf "_law_kinds" "_law_kinds" (defArgs s__law_kinds) (defBody s__law_kinds) (defScope s__law_kinds) .none kV17 dc17 pm17 an17 cd17 ct17), sl17⟩) (c17 : PySem.W.codeIn K cd17 "_law_kinds" = true) (k17 : PySem.W.keepIn K (.ref f17) = true)
    (a18 : PySem.W.nsIn K mainGlobals "_law_all" = some (some (.ref f18)))
    (l18 : K.lookup f18 = some ⟨oc18, od18, .func (PySem.W.fnOf "_law_all" "_law_all" (defArgs s__law_all) (defBody s__law_all) (defScope s__law_all) .none kV18 dc18 pm18 an18 cd18 ct18), sl18⟩) (c18 : PySem.W.codeIn K cd18 "_law_all" = true) (k18 : PySem.W.keepIn K (.ref f18) = true)
    (a19 : PySem.W.nsIn K mainGlobals "_law_under" = some (some (.ref f19)))
    (l19 : K.lookup f19 = some ⟨oc19, od19, .func (PySem.W.fnOf "_law_under" "_law_under" (defArgs s__law_under) (defBody s__law_under) (defScope s__law_under) .none kV19 dc19 pm19 an19 cd19 ct19), sl19⟩) (c19 : PySem.W.codeIn K cd19 "_law_under" = true) (k19 : PySem.W.keepIn K (.ref f19) = true)
    (a20 : PySem.W.nsIn K mainGlobals "_law_good" = some (some (.ref f20)))
    (l20 : K.lookup f20 = some ⟨oc20, od20, .func (PySem.W.fnOf "_law_good" "_law_good" (defArgs s__law_good) (defBody s__law_good) (defScope s__law_good) .none kV20 dc20 pm20 an20 cd20 ct20), sl20⟩) (c20 : PySem.W.codeIn K cd20 "_law_good" = true) (k20 : PySem.W.keepIn K (.ref f20) = true)
    (a21 : PySem.W.nsIn K mainGlobals "_law_why" = some (some (.ref f21)))
    (l21 : K.lookup f21 = some ⟨oc21, od21, .func (PySem.W.fnOf "_law_why" "_law_why" (defArgs s__law_why) (defBody s__law_why) (defScope s__law_why) .none kV21 dc21 pm21 an21 cd21 ct21), sl21⟩) (c21 : PySem.W.codeIn K cd21 "_law_why" = true) (k21 : PySem.W.keepIn K (.ref f21) = true)
    (a22 : PySem.W.nsIn K mainGlobals "_law_behind" = some (some (.ref f22)))
    (l22 : K.lookup f22 = some ⟨oc22, od22, .func (PySem.W.fnOf "_law_behind" "_law_behind" (defArgs s__law_behind) (defBody s__law_behind) (defScope s__law_behind) .none kV22 dc22 pm22 an22 cd22 ct22), sl22⟩) (c22 : PySem.W.codeIn K cd22 "_law_behind" = true) (k22 : PySem.W.keepIn K (.ref f22) = true)
    (a23 : PySem.W.nsIn K mainGlobals "_law_planned" = some (some (.ref f23)))
    (l23 : K.lookup f23 = some ⟨oc23, od23, .func (PySem.W.fnOf "_law_planned" "_law_planned" (defArgs s__law_planned) (defBody s__law_planned) (defScope s__law_planned) .none kV23 dc23 pm23 an23 cd23 ct23), sl23⟩) (c23 : PySem.W.codeIn K cd23 "_law_planned" = true) (k23 : PySem.W.keepIn K (.ref f23) = true)
    (a24 : PySem.W.nsIn K mainGlobals "_law_due" = some (some (.ref f24)))
    (l24 : K.lookup f24 = some ⟨oc24, od24, .func (PySem.W.fnOf "_law_due" "_law_due" (defArgs s__law_due) (defBody s__law_due) (defScope s__law_due) .none kV24 dc24 pm24 an24 cd24 ct24), sl24⟩) (c24 : PySem.W.codeIn K cd24 "_law_due" = true) (k24 : PySem.W.keepIn K (.ref f24) = true)
    (a25 : PySem.W.nsIn K mainGlobals "law" = some (some (.ref f25)))
    (l25 : K.lookup f25 = some ⟨oc25, od25, .func (PySem.W.fnOf "law" "law" (defArgs s_law) (defBody s_law) (defScope s_law) .none kV25 dc25 pm25 an25 cd25 ct25), sl25⟩) (c25 : PySem.W.codeIn K cd25 "law" = true) (k25 : PySem.W.keepIn K (.ref f25) = true)
    (q_LONGEST_NAME : PySem.W.nsIn K mainGlobals "LONGEST_NAME" = some (some (.int (32) t_LONGEST_NAME)))
    (q_LETTERS : PySem.W.nsIn K mainGlobals "LETTERS" = some (some (.str "abcdefghijklmnopqrstuvwxyzABCDEFGHIJKLMNOPQRSTUVWXYZ" t_LETTERS)))
    (q_DIGITS : PySem.W.nsIn K mainGlobals "DIGITS" = some (some (.str "0123456789" t_DIGITS)))
    (q_MOST_FIELDS : PySem.W.nsIn K mainGlobals "MOST_FIELDS" = some (some (.int (32) t_MOST_FIELDS)))
    (q_RESERVED : PySem.W.nsIn K mainGlobals "RESERVED" = some (some (.ref t_RESERVED))) (lq_RESERVED : K.lookup t_RESERVED = some ⟨.type "tuple", dd_RESERVED, .seq #[.str "nil" tkRESERVED_0, .str "true" tkRESERVED_1, .str "false" tkRESERVED_2, .str "self" tkRESERVED_3, .str "super" tkRESERVED_4] nn_RESERVED, ss_RESERVED⟩)
    (q_KERNEL : PySem.W.nsIn K mainGlobals "KERNEL" = some (some (.ref t_KERNEL))) (lq_KERNEL : K.lookup t_KERNEL = some ⟨.type "tuple", dd_KERNEL, .seq #[.str "Object" tkKERNEL_0, .str "Class" tkKERNEL_1, .str "Undefined" tkKERNEL_2, .str "True" tkKERNEL_3, .str "False" tkKERNEL_4, .str "Integer" tkKERNEL_5, .str "Symbol" tkKERNEL_6, .str "Array" tkKERNEL_7, .str "Association" tkKERNEL_8, .str "Method" tkKERNEL_9, .str "Code" tkKERNEL_10, .str "Block" tkKERNEL_11, .str "Context" tkKERNEL_12, .str "Process" tkKERNEL_13, .str "Semaphore" tkKERNEL_14] nn_KERNEL, ss_KERNEL⟩)
    (z_ValueError : PySem.W.nsIn K mainGlobals "ValueError" = some none)
    (z_dict : PySem.W.nsIn K mainGlobals "dict" = some none)
    (z_enumerate : PySem.W.nsIn K mainGlobals "enumerate" = some none)
    (z_int : PySem.W.nsIn K mainGlobals "int" = some none)
    (z_len : PySem.W.nsIn K mainGlobals "len" = some none)
    (z_list : PySem.W.nsIn K mainGlobals "list" = some none)
    (z_range : PySem.W.nsIn K mainGlobals "range" = some none)
    (z_repr : PySem.W.nsIn K mainGlobals "repr" = some none)
    (z_reversed : PySem.W.nsIn K mainGlobals "reversed" = some none)
    (z_set : PySem.W.nsIn K mainGlobals "set" = some none)
    (z_str : PySem.W.nsIn K mainGlobals "str" = some none)
    (z_tuple : PySem.W.nsIn K mainGlobals "tuple" = some none) :
    ∃ fd : FuncData, (∀ (s : Shared) (v : Value), BindsTo s fd ⟨[v], []⟩ [("script", v)]) ∧ ∀ base : Heap, K.In base → base.Ns mainGlobals mg → FnG l.prog w K mg base 8 fa fd "script" (sp_law K) := by
  have e : fa = f25 := Value.ref.inj (Option.some.inj (hfa.symm.trans (PySem.W.mg_of X G a25)))
  rw [e]
  have T : Txt K mg { C_SaggarError := C_SaggarError, C_BadClass := C_BadClass, C_Kind := C_Kind, C_Change := C_Change, f_BadClass___init__ := f0, d_BadClass___init__ := _, f_is_name := f1, d_is_name := _, f_letters_end := f2, d_letters_end := _, f_name_end := f3, d_name_end := _, f_is_field_name := f4, d_is_field_name := _, f_Kind___init__ := f5, d_Kind___init__ := _, f_Change___init__ := f6, d_Change___init__ := _, f_plan_change := f7, d_plan_change := _, f_all_fields := f8, d_all_fields := _, f_is_under := f9, d_is_under := _, f_by_name := f10, d_by_name := _, f_line_of := f11, d_line_of := _, f_fields_in := f12, d_fields_in := _, f_check_classes := f13, d_check_classes := _, f_check_fields := f14, d_check_fields := _, f_check_all_fields := f15, d_check_all_fields := _, f__law_draw := f16, d__law_draw := _, f__law_kinds := f17, d__law_kinds := _, f__law_all := f18, d__law_all := _, f__law_under := f19, d__law_under := _, f__law_good := f20, d__law_good := _, f__law_why := f21, d__law_why := _, f__law_behind := f22, d__law_behind := _, f__law_planned := f23, d__law_planned := _, f__law_due := f24, d__law_due := _, f_law := f25, d_law := _, t_LONGEST_NAME := t_LONGEST_NAME, t_LETTERS := t_LETTERS, t_DIGITS := t_DIGITS, t_MOST_FIELDS := t_MOST_FIELDS, t_RESERVED := t_RESERVED, t_KERNEL := t_KERNEL } := {
      m_SaggarError := PySem.W.mg_of X G m_SaggarError,
      m_BadClass := PySem.W.mg_of X G m_BadClass,
      m_Kind := PySem.W.mg_of X G m_Kind,
      m_Change := PySem.W.mg_of X G m_Change,
      x_BadClass := ⟨⟨⟨_, _, _, _, _, _, _, _, _, _, _, _, _, _, _, xl_BadClass, by rfl⟩, sa_BadClass, ec_BadClass, tc_BadClass, kc_BadClass⟩, ⟨ga_BadClass, gg_BadClass, ec_BadClass, hc_BadClass⟩, ic_BadClass, ti_BadClass, ha_BadClass, hn_BadClass, ht_BadClass, hm_BadClass⟩,
      no_BadClass_why := no_BadClass_why,
      ex_BadClass_BadClass := ex_BadClass_BadClass,
      cl_Kind := ⟨pg_Kind, hd_Kind, po_Kind, sa_Kind⟩,
      mk_Kind := ⟨mi_Kind, a5, i5, kc_Kind⟩,
      no_Kind_name := no_Kind_name,
      no_Kind_superclass := no_Kind_superclass,
      no_Kind_fields := no_Kind_fields,
      cl_Change := ⟨pg_Change, hd_Change, po_Change, sa_Change⟩,
      mk_Change := ⟨mi_Change, a6, i6, kc_Change⟩,
      no_Change_name := no_Change_name,
      no_Change_old := no_Change_old,
      no_Change_new := no_Change_new,
      no_Change_origins := no_Change_origins,
      k_BadClass___init__ := k0,
      F_BadClass___init__ := fun_mk (st := s_BadClass___init__) l0 c0 k0,
      b_BadClass___init__ := (fun_mk (st := s_BadClass___init__) l0 c0 k0).binds (fun _ _ _ _ _ _ us hl => match us, hl with | [_, _], _ => rfl),
      g_is_name := PySem.W.mg_of X G a1,
      k_is_name := k1,
      F_is_name := fun_mk (st := s_is_name) l1 c1 k1,
      b_is_name := (fun_mk (st := s_is_name) l1 c1 k1).binds (fun _ _ _ _ _ _ us hl => match us, hl with | [_], _ => rfl),
      g_letters_end := PySem.W.mg_of X G a2,
      k_letters_end := k2,
      F_letters_end := fun_mk (st := s_letters_end) l2 c2 k2,
      b_letters_end := (fun_mk (st := s_letters_end) l2 c2 k2).binds (fun _ _ _ _ _ _ us hl => match us, hl with | [_, _], _ => rfl),
      g_name_end := PySem.W.mg_of X G a3,
      k_name_end := k3,
      F_name_end := fun_mk (st := s_name_end) l3 c3 k3,
      b_name_end := (fun_mk (st := s_name_end) l3 c3 k3).binds (fun _ _ _ _ _ _ us hl => match us, hl with | [_, _], _ => rfl),
      g_is_field_name := PySem.W.mg_of X G a4,
      k_is_field_name := k4,
      F_is_field_name := fun_mk (st := s_is_field_name) l4 c4 k4,
      b_is_field_name := (fun_mk (st := s_is_field_name) l4 c4 k4).binds (fun _ _ _ _ _ _ us hl => match us, hl with | [_], _ => rfl),
      k_Kind___init__ := k5,
      F_Kind___init__ := fun_mk (st := s_Kind___init__) l5 c5 k5,
      b_Kind___init__ := (fun_mk (st := s_Kind___init__) l5 c5 k5).binds (fun _ _ _ _ _ _ us hl => match us, hl with | [_, _, _, _], _ => rfl),
      k_Change___init__ := k6,
      F_Change___init__ := fun_mk (st := s_Change___init__) l6 c6 k6,
      b_Change___init__ := (fun_mk (st := s_Change___init__) l6 c6 k6).binds (fun _ _ _ _ _ _ us hl => match us, hl with | [_, _, _, _], _ => rfl),
      g_plan_change := PySem.W.mg_of X G a7,
      k_plan_change := k7,
      F_plan_change := fun_mk (st := s_plan_change) l7 c7 k7,
      b_plan_change := (fun_mk (st := s_plan_change) l7 c7 k7).binds (fun _ _ _ _ _ _ us hl => match us, hl with | [_, _, _, _], _ => rfl),
      g_all_fields := PySem.W.mg_of X G a8,
      k_all_fields := k8,
      F_all_fields := fun_mk (st := s_all_fields) l8 c8 k8,
      b_all_fields := (fun_mk (st := s_all_fields) l8 c8 k8).binds (fun _ _ _ _ _ _ us hl => match us, hl with | [_, _], _ => rfl),
      g_is_under := PySem.W.mg_of X G a9,
      k_is_under := k9,
      F_is_under := fun_mk (st := s_is_under) l9 c9 k9,
      b_is_under := (fun_mk (st := s_is_under) l9 c9 k9).binds (fun _ _ _ _ _ _ us hl => match us, hl with | [_, _, _], _ => rfl),
      g_by_name := PySem.W.mg_of X G a10,
      k_by_name := k10,
      F_by_name := fun_mk (st := s_by_name) l10 c10 k10,
      b_by_name := (fun_mk (st := s_by_name) l10 c10 k10).binds (fun _ _ _ _ _ _ us hl => match us, hl with | [_], _ => rfl),
      g_line_of := PySem.W.mg_of X G a11,
      k_line_of := k11,
      F_line_of := fun_mk (st := s_line_of) l11 c11 k11,
      b_line_of := (fun_mk (st := s_line_of) l11 c11 k11).binds (fun _ _ _ _ _ _ us hl => match us, hl with | [_, _], _ => rfl),
      g_fields_in := PySem.W.mg_of X G a12,
      k_fields_in := k12,
      F_fields_in := fun_mk (st := s_fields_in) l12 c12 k12,
      b_fields_in := (fun_mk (st := s_fields_in) l12 c12 k12).binds (fun _ _ _ _ _ _ us hl => match us, hl with | [_, _], _ => rfl),
      g_check_classes := PySem.W.mg_of X G a13,
      k_check_classes := k13,
      F_check_classes := fun_mk (st := s_check_classes) l13 c13 k13,
      b_check_classes := (fun_mk (st := s_check_classes) l13 c13 k13).binds (fun _ _ _ _ _ _ us hl => match us, hl with | [_, _, _], _ => rfl),
      g_check_fields := PySem.W.mg_of X G a14,
      k_check_fields := k14,
      F_check_fields := fun_mk (st := s_check_fields) l14 c14 k14,
      b_check_fields := (fun_mk (st := s_check_fields) l14 c14 k14).binds (fun _ _ _ _ _ _ us hl => match us, hl with | [_], _ => rfl),
      g_check_all_fields := PySem.W.mg_of X G a15,
      k_check_all_fields := k15,
      F_check_all_fields := fun_mk (st := s_check_all_fields) l15 c15 k15,
      b_check_all_fields := (fun_mk (st := s_check_all_fields) l15 c15 k15).binds (fun _ _ _ _ _ _ us hl => match us, hl with | [_], _ => rfl),
      g__law_draw := PySem.W.mg_of X G a16,
      k__law_draw := k16,
      F__law_draw := fun_mk (st := s__law_draw) l16 c16 k16,
      b__law_draw := (fun_mk (st := s__law_draw) l16 c16 k16).binds (fun _ _ _ _ _ _ us hl => match us, hl with | [_, _, _], _ => rfl),
      g__law_kinds := PySem.W.mg_of X G a17,
      k__law_kinds := k17,
      F__law_kinds := fun_mk (st := s__law_kinds) l17 c17 k17,
      b__law_kinds := (fun_mk (st := s__law_kinds) l17 c17 k17).binds (fun _ _ _ _ _ _ us hl => match us, hl with | [_, _], _ => rfl),
      g__law_all := PySem.W.mg_of X G a18,
      k__law_all := k18,
      F__law_all := fun_mk (st := s__law_all) l18 c18 k18,
      b__law_all := (fun_mk (st := s__law_all) l18 c18 k18).binds (fun _ _ _ _ _ _ us hl => match us, hl with | [_, _], _ => rfl),
      g__law_under := PySem.W.mg_of X G a19,
      k__law_under := k19,
      F__law_under := fun_mk (st := s__law_under) l19 c19 k19,
      b__law_under := (fun_mk (st := s__law_under) l19 c19 k19).binds (fun _ _ _ _ _ _ us hl => match us, hl with | [_, _, _], _ => rfl),
      g__law_good := PySem.W.mg_of X G a20,
      k__law_good := k20,
      F__law_good := fun_mk (st := s__law_good) l20 c20 k20,
      b__law_good := (fun_mk (st := s__law_good) l20 c20 k20).binds (fun _ _ _ _ _ _ us hl => match us, hl with | [_], _ => rfl),
      g__law_why := PySem.W.mg_of X G a21,
      k__law_why := k21,
      F__law_why := fun_mk (st := s__law_why) l21 c21 k21,
      b__law_why := (fun_mk (st := s__law_why) l21 c21 k21).binds (fun _ _ _ _ _ _ us hl => match us, hl with | [_, _, _, _], _ => rfl),
      g__law_behind := PySem.W.mg_of X G a22,
      k__law_behind := k22,
      F__law_behind := fun_mk (st := s__law_behind) l22 c22 k22,
      b__law_behind := (fun_mk (st := s__law_behind) l22 c22 k22).binds (fun _ _ _ _ _ _ us hl => match us, hl with | [_, _, _, _], _ => rfl),
      g__law_planned := PySem.W.mg_of X G a23,
      k__law_planned := k23,
      F__law_planned := fun_mk (st := s__law_planned) l23 c23 k23,
      b__law_planned := (fun_mk (st := s__law_planned) l23 c23 k23).binds (fun _ _ _ _ _ _ us hl => match us, hl with | [_, _, _, _], _ => rfl),
      g__law_due := PySem.W.mg_of X G a24,
      k__law_due := k24,
      F__law_due := fun_mk (st := s__law_due) l24 c24 k24,
      b__law_due := (fun_mk (st := s__law_due) l24 c24 k24).binds (fun _ _ _ _ _ _ us hl => match us, hl with | [_, _, _, _], _ => rfl),
      g_law := PySem.W.mg_of X G a25,
      k_law := k25,
      F_law := fun_mk (st := s_law) l25 c25 k25,
      b_law := (fun_mk (st := s_law) l25 c25 k25).binds (fun _ _ _ _ _ _ us hl => match us, hl with | [_], _ => rfl),
      c_LONGEST_NAME := PySem.W.mg_of X G q_LONGEST_NAME,
      c_LETTERS := PySem.W.mg_of X G q_LETTERS,
      c_DIGITS := PySem.W.mg_of X G q_DIGITS,
      c_MOST_FIELDS := PySem.W.mg_of X G q_MOST_FIELDS,
      c_RESERVED := PySem.W.mg_of X G q_RESERVED,
      q_RESERVED := fun H => .inr ⟨_, _, _, lq_RESERVED, rfl, rfl, (by show 5 ≤ sizeLine; decide), (.cons ⟨_, rfl⟩ (.cons ⟨_, rfl⟩ (.cons ⟨_, rfl⟩ (.cons ⟨_, rfl⟩ (.cons ⟨_, rfl⟩ .nil)))))⟩,
      c_KERNEL := PySem.W.mg_of X G q_KERNEL,
      q_KERNEL := fun H => .inr ⟨_, _, _, lq_KERNEL, rfl, rfl, (by show 15 ≤ sizeLine; decide), (.cons ⟨_, rfl⟩ (.cons ⟨_, rfl⟩ (.cons ⟨_, rfl⟩ (.cons ⟨_, rfl⟩ (.cons ⟨_, rfl⟩ (.cons ⟨_, rfl⟩ (.cons ⟨_, rfl⟩ (.cons ⟨_, rfl⟩ (.cons ⟨_, rfl⟩ (.cons ⟨_, rfl⟩ (.cons ⟨_, rfl⟩ (.cons ⟨_, rfl⟩ (.cons ⟨_, rfl⟩ (.cons ⟨_, rfl⟩ (.cons ⟨_, rfl⟩ .nil)))))))))))))))⟩,
      z_ValueError := PySem.W.mg_none_of X G z_ValueError,
      z_dict := PySem.W.mg_none_of X G z_dict,
      z_enumerate := PySem.W.mg_none_of X G z_enumerate,
      z_int := PySem.W.mg_none_of X G z_int,
      z_len := PySem.W.mg_none_of X G z_len,
      z_list := PySem.W.mg_none_of X G z_list,
      z_range := PySem.W.mg_none_of X G z_range,
      z_repr := PySem.W.mg_none_of X G z_repr,
      z_reversed := PySem.W.mg_none_of X G z_reversed,
      z_set := PySem.W.mg_none_of X G z_set,
      z_str := PySem.W.mg_none_of X G z_str,
      z_tuple := PySem.W.mg_none_of X G z_tuple }
  exact ⟨_, fun s v => .of_eq rfl, fun base _ _ => ok_law T⟩
theorem walk {l : PySem.W.OpenLaw} {q : Program} {loose : List Str} {XP : (Str → Option Value) → Heap → Prop} {YP : World → Heap → Prop} {d : DefRec} {K : Params → PySem.W.Frag} (hn : l.most = some 63) (hdf : d.params.defaults = [])
    (hY : ∀ (w : World) (h : Heap), YP w h → (K w.params).In h)
    (F : ∀ (w : World) (mg : Str → Option Value) (fa : Addr) (h : Heap), (K w.params).In h → h.Ns mainGlobals mg → mg d.name = some (.ref fa) →
      ∃ fd : FuncData, (∀ (s : Shared) (u : Value), BindsTo s fd ⟨[u], []⟩ [("script", u)]) ∧ ∀ base : Heap, (K w.params).In base → base.Ns mainGlobals mg → FnG l.prog w (K w.params) mg base 8 fa fd "script" (sp_law (K w.params))) :
    PySem.W.WalkO q loose XP YP l.row.toRowW d [] (fun f vs => PySem.call f vs) :=
  walk_ofG (n := 63) (k := 8) (x := "script") (sp := fun w => sp_law (K w.params)) hn (by decide) hdf ⟨rfl, by decide, by decide⟩ hY F (fun _ _ a ns hl hS => ⟨a, ns, rfl, hS, hl, fun _ => rfl⟩) 

end My
open PySem PySem.W PyProof.Rows
set_option maxRecDepth 100000 in
set_option maxHeartbeats 0 in
theorem PySem.Challenge.cw_saggar_k52_plans_of_changes_holds : PySem.Challenge.rw_saggar_k52_plans_of_changes.Holds := by
  w_on; o_law; k_head; (case hw => w_witness2)
  k_fill
  refine My.walk (l := PySem.Challenge.rw_saggar_k52_plans_of_changes) rfl rfl (fun w h Y => PySem.W.kIn_of Y) ?F
  case F =>
    intro w mg fa h KX G hmg
    refine' My.all_mk KX G hmg ?m_SaggarError ?m_BadClass ?m_Kind ?m_Change ?xl_BadClass ?sa_BadClass ?ga_BadClass ?gg_BadClass ?ic_BadClass ?ti_BadClass ?kc_BadClass ?ec_BadClass ?tc_BadClass ?hc_BadClass ?ha_BadClass ?hn_BadClass ?ht_BadClass ?hm_BadClass ?no_BadClass_why ?ex_BadClass_BadClass ?pg_Kind ?hd_Kind ?po_Kind ?sa_Kind ?mi_Kind ?kc_Kind ?no_Kind_name ?no_Kind_superclass ?no_Kind_fields ?pg_Change ?hd_Change ?po_Change ?sa_Change ?mi_Change ?kc_Change ?no_Change_name ?no_Change_old ?no_Change_new ?no_Change_origins ?l0 ?c0 ?k0 ?a1 ?l1 ?c1 ?k1 ?a2 ?l2 ?c2 ?k2 ?a3 ?l3 ?c3 ?k3 ?a4 ?l4 ?c4 ?k4 ?a5 ?i5 ?l5 ?c5 ?k5 ?a6 ?i6 ?l6 ?c6 ?k6 ?a7 ?l7 ?c7 ?k7 ?a8 ?l8 ?c8 ?k8 ?a9 ?l9 ?c9 ?k9 ?a10 ?l10 ?c10 ?k10 ?a11 ?l11 ?c11 ?k11 ?a12 ?l12 ?c12 ?k12 ?a13 ?l13 ?c13 ?k13 ?a14 ?l14 ?c14 ?k14 ?a15 ?l15 ?c15 ?k15 ?a16 ?l16 ?c16 ?k16 ?a17 ?l17 ?c17 ?k17 ?a18 ?l18 ?c18 ?k18 ?a19 ?l19 ?c19 ?k19 ?a20 ?l20 ?c20 ?k20 ?a21 ?l21 ?c21 ?k21 ?a22 ?l22 ?c22 ?k22 ?a23 ?l23 ?c23 ?k23 ?a24 ?l24 ?c24 ?k24 ?a25 ?l25 ?c25 ?k25 ?q_LONGEST_NAME ?q_LETTERS ?q_DIGITS ?q_MOST_FIELDS ?q_RESERVED ?lq_RESERVED ?q_KERNEL ?lq_KERNEL ?z_ValueError ?z_dict ?z_enumerate ?z_int ?z_len ?z_list ?z_range ?z_repr ?z_reversed ?z_set ?z_str ?z_tuple
    (case m_SaggarError => first | k_is | kit_is | kts_exm)
    (case m_BadClass => first | k_is | kit_is | kts_exm)
    (case m_Kind => first | k_is | kit_is | kts_exm)
    (case m_Change => first | k_is | kit_is | kts_exm)
    (case xl_BadClass => first | k_is | kit_is | kts_exm)
    (case sa_BadClass => first | k_is | kit_is | kts_exm)
    (case ga_BadClass => first | k_is | kit_is | kts_exm)
    (case gg_BadClass => first | k_is | kit_is | kts_exm)
    (case ic_BadClass => first | k_is | kit_is | kts_exm)
    (case ti_BadClass => first | k_is | kit_is | kts_exm)
    (case kc_BadClass => first | k_is | kit_is | kts_exm)
    (case ec_BadClass => first | k_is | kit_is | kts_exm)
    (case tc_BadClass => first | k_is | kit_is | kts_exm)
    (case hc_BadClass => first | k_is | kit_is | kts_exm)
    (case ha_BadClass => first | k_is | kit_is | kts_exm)
    (case hn_BadClass => first | k_is | kit_is | kts_exm)
    (case ht_BadClass => first | k_is | kit_is | kts_exm)
    (case hm_BadClass => first | k_is | kit_is | kts_exm)
    (case no_BadClass_why => first | k_is | kit_is | kts_exm)
    (case ex_BadClass_BadClass => first | k_is | kit_is | kts_exm)
    (case pg_Kind => first | k_is | kit_is | kts_exm)
    (case hd_Kind => first | k_is | kit_is | kts_exm)
    (case po_Kind => first | k_is | kit_is | kts_exm)
    (case sa_Kind => first | k_is | kit_is | kts_exm)
    (case mi_Kind => first | k_is | kit_is | kts_exm)
    (case kc_Kind => first | k_is | kit_is | kts_exm)
    (case no_Kind_name => first | k_is | kit_is | kts_exm)
    (case no_Kind_superclass => first | k_is | kit_is | kts_exm)
    (case no_Kind_fields => first | k_is | kit_is | kts_exm)
    (case pg_Change => first | k_is | kit_is | kts_exm)
    (case hd_Change => first | k_is | kit_is | kts_exm)
    (case po_Change => first | k_is | kit_is | kts_exm)
    (case sa_Change => first | k_is | kit_is | kts_exm)
    (case mi_Change => first | k_is | kit_is | kts_exm)
    (case kc_Change => first | k_is | kit_is | kts_exm)
    (case no_Change_name => first | k_is | kit_is | kts_exm)
    (case no_Change_old => first | k_is | kit_is | kts_exm)
    (case no_Change_new => first | k_is | kit_is | kts_exm)
    (case no_Change_origins => first | k_is | kit_is | kts_exm)
    (case l0 => first | k_is | kit_is | kts_exm)
    (case c0 => first | k_is | kit_is | kts_exm)
    (case k0 => first | k_is | kit_is | kts_exm)
    (case a1 => first | k_is | kit_is | kts_exm)
    (case l1 => first | k_is | kit_is | kts_exm)
    (case c1 => first | k_is | kit_is | kts_exm)
    (case k1 => first | k_is | kit_is | kts_exm)
    (case a2 => first | k_is | kit_is | kts_exm)
    (case l2 => first | k_is | kit_is | kts_exm)
    (case c2 => first | k_is | kit_is | kts_exm)
    (case k2 => first | k_is | kit_is | kts_exm)
    (case a3 => first | k_is | kit_is | kts_exm)
    (case l3 => first | k_is | kit_is | kts_exm)
    (case c3 => first | k_is | kit_is | kts_exm)
    (case k3 => first | k_is | kit_is | kts_exm)
    (case a4 => first | k_is | kit_is | kts_exm)
    (case l4 => first | k_is | kit_is | kts_exm)
    (case c4 => first | k_is | kit_is | kts_exm)
    (case k4 => first | k_is | kit_is | kts_exm)
    (case a5 => first | k_is | kit_is | kts_exm)
    (case i5 => first | k_is | kit_is | kts_exm)
    (case l5 => first | k_is | kit_is | kts_exm)
    (case c5 => first | k_is | kit_is | kts_exm)
    (case k5 => first | k_is | kit_is | kts_exm)
    (case a6 => first | k_is | kit_is | kts_exm)
    (case i6 => first | k_is | kit_is | kts_exm)
    (case l6 => first | k_is | kit_is | kts_exm)
    (case c6 => first | k_is | kit_is | kts_exm)
    (case k6 => first | k_is | kit_is | kts_exm)
    (case a7 => first | k_is | kit_is | kts_exm)
    (case l7 => first | k_is | kit_is | kts_exm)
    (case c7 => first | k_is | kit_is | kts_exm)
    (case k7 => first | k_is | kit_is | kts_exm)
    (case a8 => first | k_is | kit_is | kts_exm)
    (case l8 => first | k_is | kit_is | kts_exm)
    (case c8 => first | k_is | kit_is | kts_exm)
    (case k8 => first | k_is | kit_is | kts_exm)
    (case a9 => first | k_is | kit_is | kts_exm)
    (case l9 => first | k_is | kit_is | kts_exm)
    (case c9 => first | k_is | kit_is | kts_exm)
    (case k9 => first | k_is | kit_is | kts_exm)
    (case a10 => first | k_is | kit_is | kts_exm)
    (case l10 => first | k_is | kit_is | kts_exm)
    (case c10 => first | k_is | kit_is | kts_exm)
    (case k10 => first | k_is | kit_is | kts_exm)
    (case a11 => first | k_is | kit_is | kts_exm)
    (case l11 => first | k_is | kit_is | kts_exm)
    (case c11 => first | k_is | kit_is | kts_exm)
    (case k11 => first | k_is | kit_is | kts_exm)
    (case a12 => first | k_is | kit_is | kts_exm)
    (case l12 => first | k_is | kit_is | kts_exm)
    (case c12 => first | k_is | kit_is | kts_exm)
    (case k12 => first | k_is | kit_is | kts_exm)
    (case a13 => first | k_is | kit_is | kts_exm)
    (case l13 => first | k_is | kit_is | kts_exm)
    (case c13 => first | k_is | kit_is | kts_exm)
    (case k13 => first | k_is | kit_is | kts_exm)
    (case a14 => first | k_is | kit_is | kts_exm)
    (case l14 => first | k_is | kit_is | kts_exm)
    (case c14 => first | k_is | kit_is | kts_exm)
    (case k14 => first | k_is | kit_is | kts_exm)
    (case a15 => first | k_is | kit_is | kts_exm)
    (case l15 => first | k_is | kit_is | kts_exm)
    (case c15 => first | k_is | kit_is | kts_exm)
    (case k15 => first | k_is | kit_is | kts_exm)
    (case a16 => first | k_is | kit_is | kts_exm)
    (case l16 => first | k_is | kit_is | kts_exm)
    (case c16 => first | k_is | kit_is | kts_exm)
    (case k16 => first | k_is | kit_is | kts_exm)
    (case a17 => first | k_is | kit_is | kts_exm)
    (case l17 => first | k_is | kit_is | kts_exm)
    (case c17 => first | k_is | kit_is | kts_exm)
    (case k17 => first | k_is | kit_is | kts_exm)
    (case a18 => first | k_is | kit_is | kts_exm)
    (case l18 => first | k_is | kit_is | kts_exm)
    (case c18 => first | k_is | kit_is | kts_exm)
    (case k18 => first | k_is | kit_is | kts_exm)
    (case a19 => first | k_is | kit_is | kts_exm)
    (case l19 => first | k_is | kit_is | kts_exm)
    (case c19 => first | k_is | kit_is | kts_exm)
    (case k19 => first | k_is | kit_is | kts_exm)
    (case a20 => first | k_is | kit_is | kts_exm)
    (case l20 => first | k_is | kit_is | kts_exm)
    (case c20 => first | k_is | kit_is | kts_exm)
    (case k20 => first | k_is | kit_is | kts_exm)
    (case a21 => first | k_is | kit_is | kts_exm)
    (case l21 => first | k_is | kit_is | kts_exm)
    (case c21 => first | k_is | kit_is | kts_exm)
    (case k21 => first | k_is | kit_is | kts_exm)
    (case a22 => first | k_is | kit_is | kts_exm)
    (case l22 => first | k_is | kit_is | kts_exm)
    (case c22 => first | k_is | kit_is | kts_exm)
    (case k22 => first | k_is | kit_is | kts_exm)
    (case a23 => first | k_is | kit_is | kts_exm)
    (case l23 => first | k_is | kit_is | kts_exm)
    (case c23 => first | k_is | kit_is | kts_exm)
    (case k23 => first | k_is | kit_is | kts_exm)
    (case a24 => first | k_is | kit_is | kts_exm)
    (case l24 => first | k_is | kit_is | kts_exm)
    (case c24 => first | k_is | kit_is | kts_exm)
    (case k24 => first | k_is | kit_is | kts_exm)
    (case a25 => first | k_is | kit_is | kts_exm)
    (case l25 => first | k_is | kit_is | kts_exm)
    (case c25 => first | k_is | kit_is | kts_exm)
    (case k25 => first | k_is | kit_is | kts_exm)
    (case q_LONGEST_NAME => first | k_is | kit_is | kts_exm)
    (case q_LETTERS => first | k_is | kit_is | kts_exm)
    (case q_DIGITS => first | k_is | kit_is | kts_exm)
    (case q_MOST_FIELDS => first | k_is | kit_is | kts_exm)
    (case q_RESERVED => first | k_is | kit_is | kts_exm)
    (case lq_RESERVED => first | k_is | kit_is | kts_exm)
    (case q_KERNEL => first | k_is | kit_is | kts_exm)
    (case lq_KERNEL => first | k_is | kit_is | kts_exm)
    (case z_ValueError => first | k_is | kit_is | kts_exm)
    (case z_dict => first | k_is | kit_is | kts_exm)
    (case z_enumerate => first | k_is | kit_is | kts_exm)
    (case z_int => first | k_is | kit_is | kts_exm)
    (case z_len => first | k_is | kit_is | kts_exm)
    (case z_list => first | k_is | kit_is | kts_exm)
    (case z_range => first | k_is | kit_is | kts_exm)
    (case z_repr => first | k_is | kit_is | kts_exm)
    (case z_reversed => first | k_is | kit_is | kts_exm)
    (case z_set => first | k_is | kit_is | kts_exm)
    (case z_str => first | k_is | kit_is | kts_exm)
    (case z_tuple => first | k_is | kit_is | kts_exm)
#print axioms PySem.Challenge.cw_saggar_k52_plans_of_changes_holds
