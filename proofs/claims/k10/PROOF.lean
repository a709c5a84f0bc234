import PyProof.Rows.All
import Wide.All
import OpenK.AllK
import Wide.FinOn
import HandS.ForMost
import HandS.IsInst
import HandS.TupLe
import HandS.Evl
import PySem.Challenge.RW_saggar_k10_names_and_selectors
set_option Elab.async false
set_option linter.all false
set_option maxRecDepth 100000
set_option maxHeartbeats 4000000

namespace My
open PySem PySem.Spec PyProof.Rows L2
/-! ### the text by places -/
def top (i : Nat) : Stmt := PySem.Challenge.pw_saggar_k10_names_and_selectors.main.body.getD i (.Pass ⟨0, 0, 0, 0⟩)
abbrev s_is_name : Stmt := top 5
abbrev s_arity : Stmt := top 6
abbrev s_is_binary : Stmt := top 7
abbrev s_letters_end : Stmt := top 8
abbrev s_name_end : Stmt := top 9
abbrev s__law_start : Stmt := top 11
abbrev s__law_pick : Stmt := top 12
abbrev s__law_letters : Stmt := top 13
abbrev s__law_string : Stmt := top 14
abbrev s__law_is_name : Stmt := top 15
abbrev s__law_name : Stmt := top 16
abbrev s__law_selector : Stmt := top 17
abbrev s_law : Stmt := top 18
theorem sc_is_name : FnScope ["text"] ["text"] (defScope s_is_name) := ⟨rfl, rfl, rfl, by decide +kernel, rfl, by decide +kernel, by decide +kernel⟩
theorem sc_arity : FnScope ["selector"] ["selector"] (defScope s_arity) := ⟨rfl, rfl, rfl, by decide +kernel, rfl, by decide +kernel, by decide +kernel⟩
theorem sc_is_binary : FnScope ["selector"] ["selector"] (defScope s_is_binary) := ⟨rfl, rfl, rfl, by decide +kernel, rfl, by decide +kernel, by decide +kernel⟩
theorem sc_letters_end : FnScope ["source", "at"] ["source", "at"] (defScope s_letters_end) := ⟨rfl, rfl, rfl, by decide +kernel, rfl, by decide +kernel, by decide +kernel⟩
theorem sc_name_end : FnScope ["source", "at", "end"] ["source", "at"] (defScope s_name_end) := ⟨rfl, rfl, rfl, by decide +kernel, rfl, by decide +kernel, by decide +kernel⟩
theorem sc__law_start : FnScope ["script"] ["script"] (defScope s__law_start) := ⟨rfl, rfl, rfl, by decide +kernel, rfl, by decide +kernel, by decide +kernel⟩
theorem sc__law_pick : FnScope ["state", "limit", "cell", "drawn"] ["state", "limit"] (defScope s__law_pick) := ⟨rfl, rfl, rfl, by decide +kernel, rfl, by decide +kernel, by decide +kernel⟩
theorem sc__law_letters : FnScope [] [] (defScope s__law_letters) := ⟨rfl, rfl, rfl, by decide +kernel, rfl, by decide +kernel, by decide +kernel⟩
theorem sc__law_string : FnScope ["state", "size", "chars", "string", "k"] ["state"] (defScope s__law_string) := ⟨rfl, rfl, rfl, by decide +kernel, rfl, by decide +kernel, by decide +kernel⟩
theorem sc__law_is_name : FnScope ["string", "k"] ["string"] (defScope s__law_is_name) := ⟨rfl, rfl, rfl, by decide +kernel, rfl, by decide +kernel, by decide +kernel⟩
theorem sc__law_name : FnScope ["state", "size", "name", "k"] ["state"] (defScope s__law_name) := ⟨rfl, rfl, rfl, by decide +kernel, rfl, by decide +kernel, by decide +kernel⟩
theorem sc__law_selector : FnScope ["state", "choice", "selector", "k", "count"] ["state"] (defScope s__law_selector) := ⟨rfl, rfl, rfl, by decide +kernel, rfl, by decide +kernel, by decide +kernel⟩
theorem sc_law : FnScope ["script", "state", "k", "string", "actual", "name", "selector", "count", "found"] ["script"] (defScope s_law) := ⟨rfl, rfl, rfl, by decide +kernel, rfl, by decide +kernel, by decide +kernel⟩
structure Ad where
  f_is_name : Addr
  d_is_name : FuncData
  f_arity : Addr
  d_arity : FuncData
  f_is_binary : Addr
  d_is_binary : FuncData
  f_letters_end : Addr
  d_letters_end : FuncData
  f_name_end : Addr
  d_name_end : FuncData
  f__law_start : Addr
  d__law_start : FuncData
  f__law_pick : Addr
  d__law_pick : FuncData
  f__law_letters : Addr
  d__law_letters : FuncData
  f__law_string : Addr
  d__law_string : FuncData
  f__law_is_name : Addr
  d__law_is_name : FuncData
  f__law_name : Addr
  d__law_name : FuncData
  f__law_selector : Addr
  d__law_selector : FuncData
  f_law : Addr
  d_law : FuncData
  t_LONGEST_NAME : Tok
  t_LETTERS : Tok
  t_DIGITS : Tok
  t_SIGNS : Tok
structure Txt (K : PySem.W.Frag) (mg : Str → Option Value) (A : Ad) : Prop where
  g_is_name : mg "is_name" = some (.ref A.f_is_name)
  k_is_name : PySem.W.keepIn K (.ref A.f_is_name) = true
  F_is_name : Fun K "is_name" "is_name" s_is_name A.f_is_name A.d_is_name
  b_is_name : Binds K A.d_is_name ["text"] []
  g_arity : mg "arity" = some (.ref A.f_arity)
  k_arity : PySem.W.keepIn K (.ref A.f_arity) = true
  F_arity : Fun K "arity" "arity" s_arity A.f_arity A.d_arity
  b_arity : Binds K A.d_arity ["selector"] []
  g_is_binary : mg "is_binary" = some (.ref A.f_is_binary)
  k_is_binary : PySem.W.keepIn K (.ref A.f_is_binary) = true
  F_is_binary : Fun K "is_binary" "is_binary" s_is_binary A.f_is_binary A.d_is_binary
  b_is_binary : Binds K A.d_is_binary ["selector"] []
  g_letters_end : mg "letters_end" = some (.ref A.f_letters_end)
  k_letters_end : PySem.W.keepIn K (.ref A.f_letters_end) = true
  F_letters_end : Fun K "letters_end" "letters_end" s_letters_end A.f_letters_end A.d_letters_end
  b_letters_end : Binds K A.d_letters_end ["source", "at"] []
  g_name_end : mg "name_end" = some (.ref A.f_name_end)
  k_name_end : PySem.W.keepIn K (.ref A.f_name_end) = true
  F_name_end : Fun K "name_end" "name_end" s_name_end A.f_name_end A.d_name_end
  b_name_end : Binds K A.d_name_end ["source", "at"] []
  g__law_start : mg "_law_start" = some (.ref A.f__law_start)
  k__law_start : PySem.W.keepIn K (.ref A.f__law_start) = true
  F__law_start : Fun K "_law_start" "_law_start" s__law_start A.f__law_start A.d__law_start
  b__law_start : Binds K A.d__law_start ["script"] []
  g__law_pick : mg "_law_pick" = some (.ref A.f__law_pick)
  k__law_pick : PySem.W.keepIn K (.ref A.f__law_pick) = true
  F__law_pick : Fun K "_law_pick" "_law_pick" s__law_pick A.f__law_pick A.d__law_pick
  b__law_pick : Binds K A.d__law_pick ["state", "limit"] []
  g__law_letters : mg "_law_letters" = some (.ref A.f__law_letters)
  k__law_letters : PySem.W.keepIn K (.ref A.f__law_letters) = true
  F__law_letters : Fun K "_law_letters" "_law_letters" s__law_letters A.f__law_letters A.d__law_letters
  b__law_letters : Binds K A.d__law_letters [] []
  g__law_string : mg "_law_string" = some (.ref A.f__law_string)
  k__law_string : PySem.W.keepIn K (.ref A.f__law_string) = true
  F__law_string : Fun K "_law_string" "_law_string" s__law_string A.f__law_string A.d__law_string
  b__law_string : Binds K A.d__law_string ["state"] []
  g__law_is_name : mg "_law_is_name" = some (.ref A.f__law_is_name)
  k__law_is_name : PySem.W.keepIn K (.ref A.f__law_is_name) = true
  F__law_is_name : Fun K "_law_is_name" "_law_is_name" s__law_is_name A.f__law_is_name A.d__law_is_name
  b__law_is_name : Binds K A.d__law_is_name ["string"] []
  g__law_name : mg "_law_name" = some (.ref A.f__law_name)
  k__law_name : PySem.W.keepIn K (.ref A.f__law_name) = true
  F__law_name : Fun K "_law_name" "_law_name" s__law_name A.f__law_name A.d__law_name
  b__law_name : Binds K A.d__law_name ["state"] []
  g__law_selector : mg "_law_selector" = some (.ref A.f__law_selector)
  k__law_selector : PySem.W.keepIn K (.ref A.f__law_selector) = true
  F__law_selector : Fun K "_law_selector" "_law_selector" s__law_selector A.f__law_selector A.d__law_selector
  b__law_selector : Binds K A.d__law_selector ["state"] []
  g_law : mg "law" = some (.ref A.f_law)
  k_law : PySem.W.keepIn K (.ref A.f_law) = true
  F_law : Fun K "law" "law" s_law A.f_law A.d_law
  b_law : Binds K A.d_law ["script"] []
  c_LONGEST_NAME : mg "LONGEST_NAME" = some (.int (32) A.t_LONGEST_NAME)
  c_LETTERS : mg "LETTERS" = some (.str "abcdefghijklmnopqrstuvwxyzABCDEFGHIJKLMNOPQRSTUVWXYZ" A.t_LETTERS)
  c_DIGITS : mg "DIGITS" = some (.str "0123456789" A.t_DIGITS)
  c_SIGNS : mg "SIGNS" = some (.str "+-*/<>=~&,@" A.t_SIGNS)
  z_abs : mg "abs" = none
  z_bool : mg "bool" = none
  z_int : mg "int" = none
  z_isinstance : mg "isinstance" = none
  z_len : mg "len" = none
  z_range : mg "range" = none

/-! ### words for all laws -/
abbrev cl (x : Str) : List Nat := x.cps.toList
theorem str1 {a c : Nat} : ((⟨#[a]⟩ : Str) = ⟨#[c]⟩) = (a = c) := by
  apply propext
  constructor
  · intro h
    have h2 := congrArg (fun x : Str => x.cps.toList) h
    simpa using h2
  · intro h
    rw [h]
theorem len_cl (x : Str) : x.length = (cl x).length := by
  show x.cps.size = x.cps.toList.length
  simp
theorem cl_append (x y : Str) : cl (x ++ y) = cl x ++ cl y := by
  show (x.cps ++ y.cps).toList = _
  simp
theorem at_cl (x : Str) (n : Nat) : x.cps[n]? = (cl x)[n]? := by
  show x.cps[n]? = x.cps.toList[n]?
  simp
theorem cl_nil {x : Str} : x = "" ↔ cl x = [] := by
  constructor
  · intro h
    rw [h]
    rfl
  · intro h
    have e : x.cps = #[] := by
      have := congrArg List.toArray h
      simpa using this
    have : x = ⟨x.cps⟩ := rfl
    rw [this, e]
    rfl
theorem sc_ii {i j : Int} : scal (.int i) (.int j) = true := rfl
theorem sc_ss {x y : Str} : scal (.str x) (.str y) = true := rfl
theorem sc_bb {a b : Bool} : scal (.bl a) (.bl b) = true := rfl
theorem cx_K {CX : CXT} {P : Program} {w : World} {K : PySem.W.Frag} {mg : Str → Option Value} {base : Heap} {N : List Str} {qual : Str} {scope : Scope} {f : Addr} {cd : Value} {A : Around} {outer : List Env} {s : Shared} {H : Hp} {E : XK} : (cxOf CX P w K mg base N qual scope f cd A outer s H E).K = K := rfl
/-! ### rules told over a tracked list as it stands: H p is looked up -/
def lstAt (H : Hp) (p : Addr) (R : List V → Prop) : Prop := match H p with
  | some (.lst xs) => R xs
  | _ => False
theorem lstAt_of {H : Hp} {p : Addr} {xs : List V} {R : List V → Prop} (h : H p = some (.lst xs)) : lstAt H p R = R xs := by
  unfold lstAt
  rw [h]
theorem lstAt_get {H : Hp} {p : Addr} {R : List V → Prop} (h : lstAt H p R) : ∃ xs, H p = some (.lst xs) ∧ R xs := by
  unfold lstAt at h
  split at h
  · rename_i xs e
    exact ⟨xs, e, h⟩
  · exact h.elim
def setI (xs : List V) (i : Int) (v : V) : Option (List V) := (ixN xs.length i).map fun j => xs.set j v
def rIxM : R2 := fun x y H Q => ∃ p i, x = .ref p ∧ y = .int i ∧ lstAt H p fun xs => ∃ v, atI xs i = some v ∧ Q v H
def rSetM : V → V → V → Hp → (Hp → Prop) → Prop := fun o i v H Q => ∃ p k, o = .ref p ∧ i = .int k ∧ lstAt H p fun xs => ∃ ys, setI xs k v = some ys ∧ Q (upd H p (.lst ys))
def rLenM : List V → Hp → VK → Prop := fun vs H Q => ∃ p, vs = [.ref p] ∧ lstAt H p fun xs => Q (.int xs.length) H
theorem atI_0 {α : Type} {a : α} {l : List α} : atI (a :: l) 0 = some a := by simp [atI, ixN]
theorem atI_1 {α : Type} {a b : α} {l : List α} : atI (a :: b :: l) 1 = some b := by
  have : ixN (a :: b :: l).length 1 = some 1 := by
    unfold ixN
    rw [if_pos (by omega), if_pos (by simp only [List.length_cons]; omega)]
    rfl
  unfold atI
  rw [this]
  rfl
theorem atI_2 {α : Type} {a b c : α} {l : List α} : atI (a :: b :: c :: l) 2 = some c := by
  have : ixN (a :: b :: c :: l).length 2 = some 2 := by
    unfold ixN
    rw [if_pos (by omega), if_pos (by simp only [List.length_cons]; omega)]
    rfl
  unfold atI
  rw [this]
  rfl
theorem atI_3 {α : Type} {a b c d : α} {l : List α} : atI (a :: b :: c :: d :: l) 3 = some d := by
  have : ixN (a :: b :: c :: d :: l).length 3 = some 3 := by
    unfold ixN
    rw [if_pos (by omega), if_pos (by simp only [List.length_cons]; omega)]
    rfl
  unfold atI
  rw [this]
  rfl
theorem setI_0 {a v : V} {l : List V} : setI (a :: l) 0 v = some (v :: l) := by simp [setI, ixN]
theorem setI_1 {a b v : V} {l : List V} : setI (a :: b :: l) 1 v = some (a :: v :: l) := by
  have : ixN (a :: b :: l).length 1 = some 1 := by
    unfold ixN
    rw [if_pos (by omega), if_pos (by simp only [List.length_cons]; omega)]
    rfl
  unfold setI
  rw [this]
  rfl
theorem setI_2 {a b c v : V} {l : List V} : setI (a :: b :: c :: l) 2 v = some (a :: b :: v :: l) := by
  have : ixN (a :: b :: c :: l).length 2 = some 2 := by
    unfold ixN
    rw [if_pos (by omega), if_pos (by simp only [List.length_cons]; omega)]
    rfl
  unfold setI
  rw [this]
  rfl
theorem setI_3 {a b c d v : V} {l : List V} : setI (a :: b :: c :: d :: l) 3 v = some (a :: b :: c :: v :: l) := by
  have : ixN (a :: b :: c :: d :: l).length 3 = some 3 := by
    unfold ixN
    rw [if_pos (by omega), if_pos (by simp only [List.length_cons]; omega)]
    rfl
  unfold setI
  rw [this]
  rfl
/-- isinstance of a plain value and a built-in type -/
def isTy : V → String → Option Bool
  | .bl _, T => L2.kitB "bool" T
  | .int _, T => L2.kitB "int" T
  | .str _, T => L2.kitB "str" T
  | .non, T => L2.kitB "NoneType" T
  | _, _ => none
def rIsS : List V → Hp → VK → Prop := fun xs H Q => ∃ x T, xs = [x, .ty T] ∧ ∃ b, isTy x T = some b ∧ Q (.bl b) H
theorem isTy_bb {b : Bool} : isTy (.bl b) "bool" = some true := by
  show L2.kitB "bool" "bool" = some true
  decide +kernel
theorem isTy_bi {b : Bool} : isTy (.bl b) "int" = some true := by
  show L2.kitB "bool" "int" = some true
  decide +kernel
theorem isTy_ib {i : Int} : isTy (.int i) "bool" = some false := by
  show L2.kitB "int" "bool" = some false
  decide +kernel
theorem isTy_ii {i : Int} : isTy (.int i) "int" = some true := by
  show L2.kitB "int" "int" = some true
  decide +kernel
theorem isTy_ss {x : Str} : isTy (.str x) "str" = some true := by
  show L2.kitB "str" "str" = some true
  decide +kernel
theorem isTy_nb : isTy .non "bool" = some false := by
  show L2.kitB "NoneType" "bool" = some false
  decide +kernel
theorem isTy_ni : isTy .non "int" = some false := by
  show L2.kitB "NoneType" "int" = some false
  decide +kernel
section
variable {X : Cx}
theorem call_isS : CallR X (.builtin "isinstance") rIsS := by
  intro pins s σ H xs us Q I r h
  obtain ⟨x, T, rfl, b, e, q⟩ := h
  have ty : ∃ t, TyX X.K H x (.type t) ∧ L2.kitB t T = some b := by
    cases x with
    | bl k => exact ⟨_, .base (.bl k), e⟩
    | int k => exact ⟨_, .base (.int k), e⟩
    | str k => exact ⟨_, .base (.str k), e⟩
    | non => exact ⟨_, .base .non, e⟩
    | byt k => cases e
    | flt k => cases e
    | ref k => cases e
    | ty k => cases e
  obtain ⟨t, ht, hk⟩ := ty
  exact call_isi pins s σ H _ us Q I r ⟨x, .ty T, .type t, .type T, b, rfl, .ty T, ht, kit_ty hk, q⟩
theorem ix_lstM : IxR X rIxM := by
  intro value slice pins s σ H x y v u Q I rx ry h hs
  obtain ⟨p, i, e1, e2, h⟩ := h
  obtain ⟨xs, hp, z, hz, q⟩ := lstAt_get h
  exact ix_list value slice pins s σ H x y v u Q I rx ry ⟨p, xs, i, z, e1, e2, .inl (.inl hp), hz, q⟩ hs
theorem set_lstM : PSet X rSetM := by
  intro pins s σ H o i v ov iv u Q I ro ri rv h
  obtain ⟨p, k, e1, e2, h⟩ := h
  obtain ⟨xs, hp, ys, hy, q⟩ := lstAt_get h
  unfold setI at hy
  cases hj : ixN xs.length k with
  | none =>
    rw [hj] at hy
    cases hy
  | some j =>
    rw [hj] at hy
    have hy2 : xs.set j v = ys := Option.some.inj hy
    subst hy2
    exact set_list pins s σ H o i v ov iv u Q I ro ri rv ⟨p, xs, k, j, e1, e2, hp, hj, q⟩
theorem call_lenM : CallR X (.builtin "len") rLenM := by
  intro pins s σ H xs us Q I r h
  obtain ⟨p, e, h⟩ := h
  obtain ⟨ys, hp, q⟩ := lstAt_get h
  exact call_len_seq pins s σ H xs us Q I r ⟨p, ys, e, .inl (.inl (.inl hp)), q⟩
/-- int(n) of an int -/
theorem call_intI : CallR X (.type "int") (fun xs H Q => ∃ i, xs = [.int i] ∧ Q (.int i) H) := fun pins s σ H xs us Q I r h => call_int1 pins s σ H xs us Q I r (Or.inl h)
end
theorem same_new {H : Hp} {p : Addr} {o : HO} (h : H p = none) : Same H (upd H p o) := fun b x e => by
  rw [upd_ne (ne_of_none e h)]
  exact e

/-! ### the mathematics: names -/
def sL : Str := "abcdefghijklmnopqrstuvwxyzABCDEFGHIJKLMNOPQRSTUVWXYZ"
def sD : Str := "0123456789"
def sM : Str := "ABCDEFGHIJKLMNOPQRSTUVWXYZabcdefghijklmnopqrstuvwxyz"
def sS : Str := "+-*/<>=~&,@"
def isL (c : Nat) : Bool := decide (c ∈ cl sL)
def isD (c : Nat) : Bool := decide (c ∈ cl sD)
def isLD (c : Nat) : Bool := isL c || isD c
theorem isL_M (c : Nat) : isL c = decide (c ∈ cl sM) := by
  have h1 : ∀ x ∈ cl sL, x ∈ cl sM := by decide +kernel
  have h2 : ∀ x ∈ cl sM, x ∈ cl sL := by decide +kernel
  unfold isL
  rw [Bool.eq_iff_iff, decide_eq_true_eq, decide_eq_true_eq]
  exact ⟨h1 c, h2 c⟩
theorem isLD_iff (c : Nat) : isLD c = true ↔ (c ∈ cl sL ∨ c ∈ cl sD) := by
  unfold isLD isL isD
  rw [Bool.or_eq_true, decide_eq_true_eq, decide_eq_true_eq]
def run (l : List Nat) : Nat := (l.takeWhile isLD).length
theorem run_le : ∀ l : List Nat, run l ≤ l.length
  | [] => Nat.le_refl _
  | c :: r => by
    unfold run
    rw [List.takeWhile_cons]
    split
    · have := run_le r
      unfold run at this
      simp only [List.length_cons]
      omega
    · simp
theorem run_cons (c : Nat) (r : List Nat) : run (c :: r) = if isLD c = true then run r + 1 else 0 := by
  unfold run
  rw [List.takeWhile_cons]
  split <;> simp
theorem run_at : ∀ (l : List Nat) (j : Nat) (c : Nat), j ≤ run l → l[j]? = some c → (isLD c = true ↔ j < run l)
  | [], j, c, _, h => by simp at h
  | a :: r, 0, c, _, h => by
    have e : a = c := Option.some.inj h
    subst e
    rw [run_cons]
    split <;> simp_all
  | a :: r, j + 1, c, hj, h => by
    rw [run_cons] at hj ⊢
    split at hj
    · have ih := run_at r j c (by omega) h
      rename_i ha
      rw [if_pos ha, ih]
      omega
    · omega
theorem run_all : ∀ l : List Nat, run l = l.length ↔ ∀ c ∈ l, isLD c = true
  | [] => by simp [run]
  | a :: r => by
    have ih := run_all r
    have h1 := run_le r
    rw [run_cons]
    split
    · rename_i ha
      simp only [List.length_cons, List.mem_cons, forall_eq_or_imp, ha, true_and, ← ih]
      omega
    · rename_i ha
      simp only [List.length_cons, List.mem_cons, forall_eq_or_imp]
      constructor
      · intro h
        omega
      · intro h
        exact absurd h.1 ha
/-- name_end from a place on: how many characters -/
def nameLen : List Nat → Nat
  | [] => 0
  | c :: r => if isL c = true then (if 32 < run (c :: r) then 0 else run (c :: r)) else 0
def nameB (l : List Nat) : Bool := !decide (l = []) && decide (nameLen l = l.length)
/-- a name, as the document says it -/
def nameOk : List Nat → Bool
  | [] => false
  | c :: r => isL c && (r.all isLD) && decide ((c :: r).length ≤ 32)
theorem nameB_ok : ∀ l : List Nat, nameB l = nameOk l
  | [] => rfl
  | c :: r => by
    have h := run_all (c :: r)
    have h1 : 0 < (c :: r).length := Nat.succ_pos _
    rw [Bool.eq_iff_iff]
    unfold nameB nameOk nameLen
    simp only [reduceCtorEq, decide_false, Bool.not_false, Bool.true_and, decide_eq_true_eq, Bool.and_eq_true, List.all_eq_true]
    constructor
    · intro e
      split at e
      · rename_i hc
        split at e
        · omega
        · rename_i h32
          have ha := h.mp e
          refine ⟨⟨hc, fun x hx => ha x (List.mem_cons_of_mem _ hx)⟩, by omega⟩
      · omega
    · rintro ⟨⟨hc, hr⟩, hl⟩
      have e : run (c :: r) = (c :: r).length := h.mpr fun x hx => by
        rcases List.mem_cons.mp hx with rfl | hx
        · simp [isLD, hc]
        · exact hr x hx
      rw [if_pos hc, if_neg (by omega), e]
def charOk (j c : Nat) : Prop := isL c = true ∨ (j ≠ 0 ∧ isD c = true)
theorem nameOk_iff : ∀ l : List Nat, nameOk l = true ↔ (l ≠ [] ∧ l.length ≤ 32 ∧ ∀ j c, l[j]? = some c → charOk j c)
  | [] => by simp [nameOk]
  | a :: r => by
    unfold nameOk charOk
    simp only [Bool.and_eq_true, List.all_eq_true, decide_eq_true_eq]
    constructor
    · rintro ⟨⟨ha, hr⟩, hl⟩
      refine ⟨by simp, hl, fun j c hj => ?_⟩
      cases j with
      | zero =>
        have e : a = c := Option.some.inj hj
        rw [← e]
        exact Or.inl ha
      | succ j =>
        have hm : c ∈ r := List.mem_of_getElem? (i := j) hj
        have := hr c hm
        unfold isLD at this
        rcases Bool.or_eq_true_iff.mp this with h | h
        · exact Or.inl h
        · exact Or.inr ⟨by omega, h⟩
    · rintro ⟨_, hl, h⟩
      refine ⟨⟨?_, fun c hc => ?_⟩, hl⟩
      · rcases h 0 a rfl with h0 | h0
        · exact h0
        · exact absurd rfl h0.1
      · obtain ⟨j, hj⟩ := List.getElem?_of_mem hc
        unfold isLD
        rcases h (j + 1) c hj with h0 | h0
        · rw [h0]
          rfl
        · rw [h0.2, Bool.or_true]

def sp_letters_end : Sp := fun vs H Q _ => ∃ (x : Str) (n : Nat), vs = [.str x, .int n] ∧ n ≤ (cl x).length ∧ x.length ≤ 100000 ∧ Q (.int ((n + run ((cl x).drop n) : Nat) : Int)) H
theorem sp_letters_end_len {vs H Q E} (h : sp_letters_end vs H Q E) : vs.length = (["source", "at"] : List Str).length := by
  obtain ⟨_, _, rfl, _⟩ := h
  rfl
section
variable {P : Program} {w : World} {K : PySem.W.Frag} {mg : Str → Option Value} {base : Heap} {A : Ad}
theorem ok_letters_end (T : Txt K mg A) : FnOk P w K mg base CX0 1 A.f_letters_end A.d_letters_end ["source", "at"] (sp_letters_end) := by
  refine (T.F_letters_end).ok sc_letters_end (fun vs H Q E h => ?_) (fun cdv Ar outer s H vs Q E hr h => ?_)
  · exact sp_letters_end_len h
  · have hu := hu_of hr
    refine ⟨_, (pss_cons (ps_while PassesOwn.never (PW.pt (pw_and (pt_cmpR op_lt (pv 1) (pe_callB call_len_str (by rfl) T.z_len PySem.boot_len (pa_cons (pv 0) pa_nil)) (nomark _)) (pw_and1 (PW.pt (pw_or (pt_cmpR op_in_sign (pe_item_str (pv 0) (pv 1) (fun _ _ => rfl)) (pe_glob (v := .str "abcdefghijklmnopqrstuvwxyzABCDEFGHIJKLMNOPQRSTUVWXYZ") (by rfl) T.c_LETTERS ⟨_, rfl⟩) (by rfl)) (pw_or1 (pt_cmpR op_in_sign (pe_item_str (pv 0) (pv 1) (fun _ _ => rfl)) (pe_glob (v := .str "0123456789") (by rfl) T.c_DIGITS ⟨_, rfl⟩) (by rfl)))))))) (pss_one (ps_asg (pe_op op_add (pv 1) pe_int) (pg_name (i := 1) sc_letters_end.nd rfl (Or.inl rfl)))))
    (pss_one (ps_ret (pv 1)))), ?_⟩
    obtain ⟨x, n, rfl, hn, hx, k⟩ := h
    refine ⟨fun m σ H' => H' = H ∧ ∃ j, σ = [some (.str x), some (.int ((n + j : Nat) : Int))] ∧ j + m = run ((cl x).drop n), ⟨run ((cl x).drop n), rfl, 0, rfl, by omega⟩, ?_⟩
    rintro m σ H' ⟨rfl, j, rfl, hj⟩
    simp (config := { maxSteps := 4000000 }) only [tSeq, tNext, tDrop, tRet, tRetN, tIfS, tAsg, tTest, tAnd, tOr, tNot, tAndV, tOrV, tNotV, tIf, tOp, tUn, tVar, tC, tCB, tCons, tNil, tCall, tPart, tNoPart, tM0, tM1, tTup, tLst, tB, tIsN, tNotN, rI0, rI, rU, rEq, rNe, rAdd, gName, gTup, gCons, gNil, gSub, rSetL, rIxL, rIxT, rIxS, L2.start,
      List.map_cons, List.map_nil, List.cons_append, List.nil_append, List.append_nil, List.length_cons, List.length_nil, List.replicate, List.getElem?_cons_zero, List.getElem?_cons_succ, List.set_cons_zero, List.set_cons_succ, Nat.reduceAdd, Nat.reduceSub, Nat.sub_self, Nat.zero_add,
      Option.some.injEq, V.int.injEq, V.str.injEq, V.bl.injEq, V.ref.injEq, V.ty.injEq, List.cons.injEq, and_true, true_and, exists_eq_left, exists_eq_left', exists_eq_right, exists_and_left, exists_and_right, exists_const, decide_eq_true_eq, decide_eq_false_iff_not, if_true, if_false, reduceIte, Bool.false_eq_true, Bool.not_eq_true', sc_ii, sc_ss, sc_bb, str1, cx_K, lstAt, rIxM, rSetM, rLenM, atI_0, atI_1, atI_2, atI_3, setI_0, setI_1, setI_2, setI_3, upd_same, upd_upd, ite_true, ite_false, exists_eq', eq_self, and_assoc, rIsS, isTy_bb, isTy_bi, isTy_ib, isTy_ii, isTy_ss, isTy_nb, isTy_ni, Bool.not_true, Bool.not_false, not_true_eq_false, not_false_eq_true]
    have hl := len_cl x
    have hle := run_le ((cl x).drop n)
    rw [List.length_drop] at hle
    refine ⟨Nat.le_trans hx (by decide), ite2 (fun h1 => ?_) (fun h1 => ?_)⟩
    · have hlt : n + j < (cl x).length := by omega
      have hc : x.cps[((n + j : Nat) : Int).toNat]? = some ((cl x)[n + j]) := by
        rw [Int.toNat_natCast, at_cl, List.getElem?_eq_getElem hlt]
      have hd : ((cl x).drop n)[j]? = some ((cl x)[n + j]) := by
        rw [List.getElem?_drop, List.getElem?_eq_getElem hlt]
      have key := run_at _ j _ (by omega) hd
      have fin : isLD ((cl x)[n + j]) = true → (∃ m', m' < m ∧ H' = H' ∧ ∃ j_1, ([some (.str x), some (.int (((n + j : Nat) : Int) + 1))] : L2.St) = [some (.str x), some (.int ((n + j_1 : Nat) : Int))] ∧ j_1 + m' = run ((cl x).drop n)) := fun hi => by
        have hj2 := key.mp hi
        exact ⟨m - 1, by omega, rfl, j + 1, by rw [show ((n + j : Nat) : Int) + 1 = ((n + (j + 1) : Nat) : Int) by omega], by omega⟩
      refine ⟨by omega, by omega, by omega, _, hc, ite2 (fun h2 => ?_) (fun h2 => ?_)⟩
      · exact ⟨_, fun _ _ h => h, fin ((isLD_iff _).mpr (Or.inl h2))⟩
      · refine ⟨by omega, by omega, by omega, _, hc, ite2 (fun h3 => ?_) (fun h3 => ?_)⟩
        · exact ⟨_, fun _ _ h => h, fin ((isLD_iff _).mpr (Or.inr h3))⟩
        · have hn2 : ¬ isLD ((cl x)[n + j]) = true := fun z => ((isLD_iff _).mp z).elim h2 h3
          have hn3 : ¬ j < run ((cl x).drop n) := fun h => hn2 (key.mpr h)
          have : j = run ((cl x).drop n) := by omega
          rw [this]
          exact k
    · have : j = run ((cl x).drop n) := by omega
      rw [this]
      exact k
end

def sp_name_end : Sp := fun vs H Q _ => ∃ (x : Str) (n : Nat), vs = [.str x, .int n] ∧ n ≤ (cl x).length ∧ x.length ≤ 100000 ∧ Q (.int ((n + nameLen ((cl x).drop n) : Nat) : Int)) H
theorem sp_name_end_len {vs H Q E} (h : sp_name_end vs H Q E) : vs.length = (["source", "at"] : List Str).length := by
  obtain ⟨_, _, rfl, _⟩ := h
  rfl
section
variable {P : Program} {w : World} {K : PySem.W.Frag} {mg : Str → Option Value} {base : Heap} {A : Ad}
theorem ok_name_end (T : Txt K mg A) : FnOk P w K mg base CX0 2 A.f_name_end A.d_name_end ["source", "at"] (sp_name_end) := by
  refine (T.F_name_end).ok sc_name_end (fun vs H Q E h => ?_) (fun cdv Ar outer s H vs Q E hr h => ?_)
  · exact sp_name_end_len h
  · have hu := hu_of hr
    refine ⟨_, (pss_cons (ps_if (PW.pt (pw_or (pt_cmpR op_ge (pv 1) (pe_callB call_len_str (by rfl) T.z_len PySem.boot_len (pa_cons (pv 0) pa_nil)) (nomark _)) (pw_or1 (pt_cmpR op_notIn_sign (pe_item_str (pv 0) (pv 1) (fun _ _ => rfl)) (pe_glob (v := .str "abcdefghijklmnopqrstuvwxyzABCDEFGHIJKLMNOPQRSTUVWXYZ") (by rfl) T.c_LETTERS ⟨_, rfl⟩) (by rfl))))) (pss_one (ps_ret (pv 1))) pss_nil)
    (pss_cons (ps_asg (pe_call (ok_letters_end T) (hr.mono (by decide)) (by rfl) T.g_letters_end T.k_letters_end T.b_letters_end .nil pass0 (pa_cons (pv 0) (pa_cons (pv 1) pa_nil))) (pg_name (i := 2) sc_name_end.nd rfl (Or.inl rfl)))
    (pss_cons (ps_if (pt_cmpR op_gt (pe_op op_sub (pv 2) (pv 1)) (pe_glob (v := .int (32)) (by rfl) T.c_LONGEST_NAME ⟨_, rfl⟩) (nomark _)) (pss_one (ps_ret (pv 1))) pss_nil)
    (pss_one (ps_ret (pv 2)))))), ?_⟩
    obtain ⟨x, n, rfl, hn, hx, k⟩ := h
    simp (config := { maxSteps := 4000000 }) only [tSeq, tNext, tDrop, tRet, tRetN, tIfS, tAsg, tTest, tAnd, tOr, tNot, tAndV, tOrV, tNotV, tIf, tOp, tUn, tVar, tC, tCB, tCons, tNil, tCall, tPart, tNoPart, tM0, tM1, tTup, tLst, tB, tIsN, tNotN, rI0, rI, rU, rEq, rNe, rAdd, gName, gTup, gCons, gNil, gSub, rSetL, rIxL, rIxT, rIxS, L2.start,
      List.map_cons, List.map_nil, List.cons_append, List.nil_append, List.append_nil, List.length_cons, List.length_nil, List.replicate, List.getElem?_cons_zero, List.getElem?_cons_succ, List.set_cons_zero, List.set_cons_succ, Nat.reduceAdd, Nat.reduceSub, Nat.sub_self, Nat.zero_add,
      Option.some.injEq, V.int.injEq, V.str.injEq, V.bl.injEq, V.ref.injEq, V.ty.injEq, List.cons.injEq, and_true, true_and, exists_eq_left, exists_eq_left', exists_eq_right, exists_and_left, exists_and_right, exists_const, decide_eq_true_eq, decide_eq_false_iff_not, if_true, if_false, reduceIte, Bool.false_eq_true, Bool.not_eq_true', sc_ii, sc_ss, sc_bb, str1, cx_K, lstAt, rIxM, rSetM, rLenM, atI_0, atI_1, atI_2, atI_3, setI_0, setI_1, setI_2, setI_3, upd_same, upd_upd, ite_true, ite_false, exists_eq', eq_self, and_assoc, rIsS, isTy_bb, isTy_bi, isTy_ib, isTy_ii, isTy_ss, isTy_nb, isTy_ni, Bool.not_true, Bool.not_false, not_true_eq_false, not_false_eq_true]
    have hl := len_cl x
    have nil0 : (cl x).length ≤ n → Q (.int (n : Int)) H := fun h => by
      have e : (cl x).drop n = [] := List.drop_eq_nil_of_le h
      rw [e] at k
      exact k
    refine ⟨Nat.le_trans hx (by decide), ite2 (fun h1 => nil0 (by omega)) (fun h1 => ?_)⟩
    have hlt : n < (cl x).length := by omega
    have hc : x.cps[((n : Nat) : Int).toNat]? = some ((cl x)[n]) := by
      rw [Int.toNat_natCast, at_cl, List.getElem?_eq_getElem hlt]
    have hd : (cl x).drop n = (cl x)[n] :: (cl x).drop (n + 1) := List.drop_eq_getElem_cons hlt
    refine ⟨by omega, by omega, by omega, _, hc, ite2 (fun h2 => ?_) (fun h2 => ?_)⟩
    · have e : nameLen ((cl x).drop n) = 0 := by
        rw [hd]
        show (if isL ((cl x)[n]) = true then _ else 0) = 0
        exact if_neg (fun z => h2 (of_decide_eq_true z))
      rw [e] at k
      exact k
    · have hL : isL ((cl x)[n]) = true := decide_eq_true (Classical.byContradiction h2)
      have e : nameLen ((cl x).drop n) = if 32 < run ((cl x).drop n) then 0 else run ((cl x).drop n) := by
        rw [hd]
        show (if isL ((cl x)[n]) = true then _ else 0) = _
        rw [if_pos hL]
      rw [e] at k
      refine ⟨x, n, rfl, hn, hx, _, rfl, ite2 (fun h3 => ?_) (fun h3 => ?_)⟩
      · rw [if_pos (by omega)] at k
        exact k
      · rw [if_neg (by omega)] at k
        exact k
end

def sp_is_name : Sp := fun vs H Q _ => ∃ (x : Str), vs = [.str x] ∧ x.length ≤ 100000 ∧ Q (.bl (nameOk (cl x))) H
theorem sp_is_name_len {vs H Q E} (h : sp_is_name vs H Q E) : vs.length = (["text"] : List Str).length := by
  obtain ⟨_, rfl, _⟩ := h
  rfl
section
variable {P : Program} {w : World} {K : PySem.W.Frag} {mg : Str → Option Value} {base : Heap} {A : Ad}
theorem ok_is_name (T : Txt K mg A) : FnOk P w K mg base CX0 3 A.f_is_name A.d_is_name ["text"] (sp_is_name) := by
  refine (T.F_is_name).ok sc_is_name (fun vs H Q E h => ?_) (fun cdv Ar outer s H vs Q E hr h => ?_)
  · exact sp_is_name_len h
  · have hu := hu_of hr
    refine ⟨_, (pss_one (ps_ret (pe_and (pe_cmpR op_ne (pv 0) pe_str (nomark _)) (pe_one (pe_cmpR op_eq (pe_call (ok_name_end T) (hr.mono (by decide)) (by rfl) T.g_name_end T.k_name_end T.b_name_end .nil pass0 (pa_cons (pv 0) (pa_cons pe_int pa_nil))) (pe_callB call_len_str (by rfl) T.z_len PySem.boot_len (pa_cons (pv 0) pa_nil)) (nomark _)))))), ?_⟩
    obtain ⟨x, rfl, hx, k⟩ := h
    rw [← nameB_ok] at k
    unfold nameB at k
    simp (config := { maxSteps := 4000000 }) only [tSeq, tNext, tDrop, tRet, tRetN, tIfS, tAsg, tTest, tAnd, tOr, tNot, tAndV, tOrV, tNotV, tIf, tOp, tUn, tVar, tC, tCB, tCons, tNil, tCall, tPart, tNoPart, tM0, tM1, tTup, tLst, tB, tIsN, tNotN, rI0, rI, rU, rEq, rNe, rAdd, gName, gTup, gCons, gNil, gSub, rSetL, rIxL, rIxT, rIxS, L2.start,
      List.map_cons, List.map_nil, List.cons_append, List.nil_append, List.append_nil, List.length_cons, List.length_nil, List.replicate, List.getElem?_cons_zero, List.getElem?_cons_succ, List.set_cons_zero, List.set_cons_succ, Nat.reduceAdd, Nat.reduceSub, Nat.sub_self, Nat.zero_add,
      Option.some.injEq, V.int.injEq, V.str.injEq, V.bl.injEq, V.ref.injEq, V.ty.injEq, List.cons.injEq, and_true, true_and, exists_eq_left, exists_eq_left', exists_eq_right, exists_and_left, exists_and_right, exists_const, decide_eq_true_eq, decide_eq_false_iff_not, if_true, if_false, reduceIte, Bool.false_eq_true, Bool.not_eq_true', sc_ii, sc_ss, sc_bb, str1, cx_K, lstAt, rIxM, rSetM, rLenM, atI_0, atI_1, atI_2, atI_3, setI_0, setI_1, setI_2, setI_3, upd_same, upd_upd, ite_true, ite_false, exists_eq', eq_self, and_assoc, rIsS, isTy_bb, isTy_bi, isTy_ib, isTy_ii, isTy_ss, isTy_nb, isTy_ni, Bool.not_true, Bool.not_false, not_true_eq_false, not_false_eq_true]
    have hl := len_cl x
    refine ite2 (fun h1 => ?_) (fun h1 => ?_)
    · refine ⟨x, 0, rfl, Nat.zero_le _, hx, Nat.le_trans hx (by decide), rfl, ?_⟩
      have e : decide (V.int ((0 + nameLen ((cl x).drop 0) : Nat) : Int) = V.int (x.length : Int)) = (!decide (cl x = []) && decide (nameLen (cl x) = (cl x).length)) := by
        rw [decide_eq_false (fun z => h1 (cl_nil.mpr z)), Bool.not_false, Bool.true_and, Bool.eq_iff_iff, decide_eq_true_eq, decide_eq_true_eq, V.int.injEq, List.drop_zero, hl]
        omega
      rw [e]
      exact k
    · have h2 : cl x = [] := cl_nil.mp (Classical.byContradiction h1)
      rw [h2] at k
      exact k
end

def signB : List Nat → Bool
  | [] => false
  | c :: _ => decide (c ∈ cl sS)
def sp_is_binary : Sp := fun vs H Q _ => ∃ (x : Str), vs = [.str x] ∧ x.length ≤ 100000 ∧ Q (.bl (signB (cl x))) H
theorem sp_is_binary_len {vs H Q E} (h : sp_is_binary vs H Q E) : vs.length = (["selector"] : List Str).length := by
  obtain ⟨_, rfl, _⟩ := h
  rfl
section
variable {P : Program} {w : World} {K : PySem.W.Frag} {mg : Str → Option Value} {base : Heap} {A : Ad}
theorem ok_is_binary (T : Txt K mg A) : FnOk P w K mg base CX0 1 A.f_is_binary A.d_is_binary ["selector"] (sp_is_binary) := by
  refine (T.F_is_binary).ok sc_is_binary (fun vs H Q E h => ?_) (fun cdv Ar outer s H vs Q E hr h => ?_)
  · exact sp_is_binary_len h
  · have hu := hu_of hr
    refine ⟨_, (pss_one (ps_ret (pe_and (pe_cmpR op_ne (pv 0) pe_str (nomark _)) (pe_one (pe_cmpR op_in_sign (pe_item_str (pv 0) pe_int (fun _ _ => rfl)) (pe_glob (v := .str "+-*/<>=~&,@") (by rfl) T.c_SIGNS ⟨_, rfl⟩) (by rfl)))))), ?_⟩
    obtain ⟨x, rfl, hx, k⟩ := h
    simp (config := { maxSteps := 4000000 }) only [tSeq, tNext, tDrop, tRet, tRetN, tIfS, tAsg, tTest, tAnd, tOr, tNot, tAndV, tOrV, tNotV, tIf, tOp, tUn, tVar, tC, tCB, tCons, tNil, tCall, tPart, tNoPart, tM0, tM1, tTup, tLst, tB, tIsN, tNotN, rI0, rI, rU, rEq, rNe, rAdd, gName, gTup, gCons, gNil, gSub, rSetL, rIxL, rIxT, rIxS, L2.start,
      List.map_cons, List.map_nil, List.cons_append, List.nil_append, List.append_nil, List.length_cons, List.length_nil, List.replicate, List.getElem?_cons_zero, List.getElem?_cons_succ, List.set_cons_zero, List.set_cons_succ, Nat.reduceAdd, Nat.reduceSub, Nat.sub_self, Nat.zero_add,
      Option.some.injEq, V.int.injEq, V.str.injEq, V.bl.injEq, V.ref.injEq, V.ty.injEq, List.cons.injEq, and_true, true_and, exists_eq_left, exists_eq_left', exists_eq_right, exists_and_left, exists_and_right, exists_const, decide_eq_true_eq, decide_eq_false_iff_not, if_true, if_false, reduceIte, Bool.false_eq_true, Bool.not_eq_true', sc_ii, sc_ss, sc_bb, str1, cx_K, lstAt, rIxM, rSetM, rLenM, atI_0, atI_1, atI_2, atI_3, setI_0, setI_1, setI_2, setI_3, upd_same, upd_upd, ite_true, ite_false, exists_eq', eq_self, and_assoc, rIsS, isTy_bb, isTy_bi, isTy_ib, isTy_ii, isTy_ss, isTy_nb, isTy_ni, Bool.not_true, Bool.not_false, not_true_eq_false, not_false_eq_true]
    have hl := len_cl x
    refine ite2 (fun h1 => ?_) (fun h1 => ?_)
    · cases hc : cl x with
      | nil => exact absurd (cl_nil.mpr hc) h1
      | cons c r =>
        rw [hc] at k hl
        have hat : x.cps[Int.toNat 0]? = some c := by
          show x.cps[0]? = some c
          rw [at_cl, hc]
          rfl
        refine ⟨by omega, by omega, ?_, c, hat, k⟩
        rw [hl, List.length_cons]
        omega
    · have h2 : cl x = [] := cl_nil.mp (Classical.byContradiction h1)
      rw [h2] at k
      exact k
end

def arityL (l : List Nat) : Int := if signB l = true then 1 else PyProof.Rows.cnt 58 l
def sp_arity : Sp := fun vs H Q _ => ∃ (x : Str), vs = [.str x] ∧ x.length ≤ 100000 ∧ Q (.int (arityL (cl x))) H
theorem sp_arity_len {vs H Q E} (h : sp_arity vs H Q E) : vs.length = (["selector"] : List Str).length := by
  obtain ⟨_, rfl, _⟩ := h
  rfl
section
variable {P : Program} {w : World} {K : PySem.W.Frag} {mg : Str → Option Value} {base : Heap} {A : Ad}
theorem ok_arity (T : Txt K mg A) : FnOk P w K mg base CX0 2 A.f_arity A.d_arity ["selector"] (sp_arity) := by
  refine (T.F_arity).ok sc_arity (fun vs H Q E h => ?_) (fun cdv Ar outer s H vs Q E hr h => ?_)
  · exact sp_arity_len h
  · have hu := hu_of hr
    refine ⟨_, (pss_cons (ps_if (pt_val (pe_call (ok_is_binary T) (hr.mono (by decide)) (by rfl) T.g_is_binary T.k_is_binary T.b_is_binary .nil pass0 (pa_cons (pv 0) pa_nil))) (pss_one (ps_ret pe_int)) pss_nil)
    (pss_one (ps_ret (pe_m1 PySem.F.slot_str_count PySem.F.type_str_count mt_count (pv 0) pe_str)))), ?_⟩
    obtain ⟨x, rfl, hx, k⟩ := h
    simp (config := { maxSteps := 4000000 }) only [tSeq, tNext, tDrop, tRet, tRetN, tIfS, tAsg, tTest, tAnd, tOr, tNot, tAndV, tOrV, tNotV, tIf, tOp, tUn, tVar, tC, tCB, tCons, tNil, tCall, tPart, tNoPart, tM0, tM1, tTup, tLst, tB, tIsN, tNotN, rI0, rI, rU, rEq, rNe, rAdd, gName, gTup, gCons, gNil, gSub, rSetL, rIxL, rIxT, rIxS, L2.start,
      List.map_cons, List.map_nil, List.cons_append, List.nil_append, List.append_nil, List.length_cons, List.length_nil, List.replicate, List.getElem?_cons_zero, List.getElem?_cons_succ, List.set_cons_zero, List.set_cons_succ, Nat.reduceAdd, Nat.reduceSub, Nat.sub_self, Nat.zero_add,
      Option.some.injEq, V.int.injEq, V.str.injEq, V.bl.injEq, V.ref.injEq, V.ty.injEq, List.cons.injEq, and_true, true_and, exists_eq_left, exists_eq_left', exists_eq_right, exists_and_left, exists_and_right, exists_const, decide_eq_true_eq, decide_eq_false_iff_not, if_true, if_false, reduceIte, Bool.false_eq_true, Bool.not_eq_true', sc_ii, sc_ss, sc_bb, str1, cx_K, lstAt, rIxM, rSetM, rLenM, atI_0, atI_1, atI_2, atI_3, setI_0, setI_1, setI_2, setI_3, upd_same, upd_upd, ite_true, ite_false, exists_eq', eq_self, and_assoc, rIsS, isTy_bb, isTy_bi, isTy_ib, isTy_ii, isTy_ss, isTy_nb, isTy_ni, Bool.not_true, Bool.not_false, not_true_eq_false, not_false_eq_true]
    refine ⟨x, rfl, hx, _, rfl, ite2 (fun h1 => ?_) (fun h1 => ?_)⟩
    · unfold arityL at k
      rw [if_pos h1] at k
      exact k
    · unfold arityL at k
      rw [if_neg h1] at k
      have e : Txt.count x (Str.ofString ":") = PyProof.Rows.cnt 58 (cl x) := PyProof.Rows.count_cnt x 58
      rw [e]
      exact k
end

def sp_start (K : PySem.W.Frag) : Sp := fun vs H Q _ => ∃ (a : Addr), vs = [.ref a] ∧ ∀ p, H p = none → Q (.ref p) (upd H p (.lst [.ref a, .int 0, .int 0, .int 7]))
theorem sp_start_len {K vs H Q E} (h : sp_start K vs H Q E) : vs.length = (["script"] : List Str).length := by
  obtain ⟨_, rfl, _⟩ := h
  rfl
section
variable {P : Program} {w : World} {K : PySem.W.Frag} {mg : Str → Option Value} {base : Heap} {A : Ad}
theorem ok__law_start (T : Txt K mg A) : FnOk P w K mg base CX0 1 A.f__law_start A.d__law_start ["script"] (sp_start K) := by
  refine (T.F__law_start).ok sc__law_start (fun vs H Q E h => ?_) (fun cdv Ar outer s H vs Q E hr h => ?_)
  · exact sp_start_len h
  · have hu := hu_of hr
    refine ⟨_, (pss_one (ps_ret (pe_lst (pa_cons (pv 0) (pa_cons pe_int (pa_cons pe_int (pa_cons pe_int pa_nil))))))), ?_⟩
    obtain ⟨a, rfl, k⟩ := h
    simp (config := { maxSteps := 4000000 }) only [tSeq, tNext, tDrop, tRet, tRetN, tIfS, tAsg, tTest, tAnd, tOr, tNot, tAndV, tOrV, tNotV, tIf, tOp, tUn, tVar, tC, tCB, tCons, tNil, tCall, tPart, tNoPart, tM0, tM1, tTup, tLst, tB, tIsN, tNotN, rI0, rI, rU, rEq, rNe, rAdd, gName, gTup, gCons, gNil, gSub, rSetL, rIxL, rIxT, rIxS, L2.start,
      List.map_cons, List.map_nil, List.cons_append, List.nil_append, List.append_nil, List.length_cons, List.length_nil, List.replicate, List.getElem?_cons_zero, List.getElem?_cons_succ, List.set_cons_zero, List.set_cons_succ, Nat.reduceAdd, Nat.reduceSub, Nat.sub_self, Nat.zero_add,
      Option.some.injEq, V.int.injEq, V.str.injEq, V.bl.injEq, V.ref.injEq, V.ty.injEq, List.cons.injEq, and_true, true_and, exists_eq_left, exists_eq_left', exists_eq_right, exists_and_left, exists_and_right, exists_const, decide_eq_true_eq, decide_eq_false_iff_not, if_true, if_false, reduceIte, Bool.false_eq_true, Bool.not_eq_true', sc_ii, sc_ss, sc_bb, str1, cx_K, lstAt, rIxM, rSetM, rLenM, atI_0, atI_1, atI_2, atI_3, setI_0, setI_1, setI_2, setI_3, upd_same, upd_upd, ite_true, ite_false, exists_eq', eq_self, and_assoc, rIsS, isTy_bb, isTy_bi, isTy_ib, isTy_ii, isTy_ss, isTy_nb, isTy_ni, Bool.not_true, Bool.not_false, not_true_eq_false, not_false_eq_true]
    exact ⟨by decide, fun p hp => k p hp⟩
end

/-- what the drawing's list holds at p -/
def StAt (K : PySem.W.Frag) (H : Hp) (p : Addr) : Prop := ∃ (a : Addr) (ns : List Int) (i : Nat) (b s : Int), H p = some (.lst [.ref a, .int i, .int b, .int s]) ∧ SqL K H a (ns.map V.int) ∧ 0 ≤ b ∧ 0 ≤ s ∧ s < 4294967296
def But (p : Addr) (H H' : Hp) : Prop := ∀ q, q ≠ p → H' q = H q
/-- the script is another object than the drawing's list -/
theorem script_stays {K : PySem.W.Frag} {H H' : Hp} {p a : Addr} {ns : List Int} {z : Addr} {r : List V} (ha : SqL K H a (ns.map V.int)) (hp : H p = some (.lst (.ref z :: r))) (h : But p H H') : SqL K H' a (ns.map V.int) := by
  have ne : ∀ o, H a = some o → (∀ l, o = HO.lst l → l = ns.map V.int) → a ≠ p := fun o e hl z => by
    rw [z, hp] at e
    have e2 := Option.some.inj e
    have e3 := hl _ e2.symm
    cases ns with
    | nil => cases e3
    | cons n ns => cases e3
  rcases ha with (h1 | ⟨o, h1⟩) | h1
  · refine .inl (.inl ?_)
    rw [h a (ne _ h1 fun l e => by cases e; rfl)]
    exact h1
  · refine .inl (.inr ⟨o, ?_⟩)
    rw [h a (ne _ h1 fun l e => by cases e)]
    exact h1
  · exact .inr h1
def sp_pick (K : PySem.W.Frag) : Sp := fun vs H Q _ => ∃ (p : Addr) (lim : Int), vs = [.ref p, .int lim] ∧ StAt K H p ∧ 0 < lim ∧ lim < 1000000 ∧ ∀ d H', 0 ≤ d → d < lim → StAt K H' p → But p H H' → Q (.int d) H'
theorem sp_pick_len {K vs H Q E} (h : sp_pick K vs H Q E) : vs.length = (["state", "limit"] : List Str).length := by
  obtain ⟨_, _, rfl, _⟩ := h
  rfl
section
variable {P : Program} {w : World} {K : PySem.W.Frag} {mg : Str → Option Value} {base : Heap} {A : Ad}
theorem ok__law_pick (T : Txt K mg A) : FnOk P w K mg base CX0 1 A.f__law_pick A.d__law_pick ["state", "limit"] (sp_pick K) := by
  refine (T.F__law_pick).ok sc__law_pick (fun vs H Q E h => ?_) (fun cdv Ar outer s H vs Q E hr h => ?_)
  · exact sp_pick_len h
  · have hu := hu_of hr
    refine ⟨_, (Evl.pss_cut (ps_if (PW.pt (pw_and (pt_cmpR op_eq (pe_ix ix_lstM (pv 0) pe_int (fun _ _ => rfl)) pe_int (nomark _)) (pw_and1 (pt_cmpR op_lt (pe_ix ix_lstM (pv 0) pe_int (fun _ _ => rfl)) (pe_callB call_len_seq (by rfl) T.z_len PySem.boot_len (pa_cons (pe_ix ix_lstM (pv 0) pe_int (fun _ _ => rfl)) pa_nil)) (nomark _))))) (pss_cons (ps_asg (pe_callB call_abs (by rfl) T.z_abs (by decide +kernel) (pa_cons (pe_ix ix_list (pe_ix ix_lstM (pv 0) pe_int (fun _ _ => rfl)) (pe_ix ix_lstM (pv 0) pe_int (fun _ _ => rfl)) (fun _ _ => rfl)) pa_nil)) (pg_name (i := 2) sc__law_pick.nd rfl (Or.inl rfl)))
    (pss_cons (ps_asg (pe_op op_add (pe_ix ix_lstM (pv 0) pe_int (fun _ _ => rfl)) pe_int) (pg_sub (pv 0) pe_int set_lstM))
    (pss_one (ps_if (pt_cmpR op_ge (pv 2) (pe_op op_pow pe_int pe_int) (nomark _)) (pss_one (ps_asg (pv 2) (pg_sub (pv 0) pe_int set_lstM))) (pss_one (ps_asg (pe_op op_add (pe_op op_mod (pe_callTy call_intI (by rfl) T.z_int (by decide +kernel) (pa_cons (pe_op op_add (pe_op op_mul (pe_ix ix_lstM (pv 0) pe_int (fun _ _ => rfl)) pe_int) (pv 2)) pa_nil)) pe_int) pe_int) (pg_sub (pv 0) pe_int set_lstM))))))) pss_nil)
    (pss_cons (ps_if (pt_cmpR op_gt (pe_ix ix_lstM (pv 0) pe_int (fun _ _ => rfl)) pe_int (nomark _)) (pss_cons (ps_asg (pe_op op_mod (pe_callTy call_intI (by rfl) T.z_int (by decide +kernel) (pa_cons (pe_ix ix_lstM (pv 0) pe_int (fun _ _ => rfl)) pa_nil)) (pv 1)) (pg_name (i := 3) sc__law_pick.nd rfl (Or.inl rfl)))
    (pss_cons (ps_asg (pe_op op_fdiv (pe_ix ix_lstM (pv 0) pe_int (fun _ _ => rfl)) (pv 1)) (pg_sub (pv 0) pe_int set_lstM))
    (pss_one (ps_ret (pv 3))))) pss_nil)
    (pss_cons (ps_asg (pe_op op_mod (pe_callTy call_intI (by rfl) T.z_int (by decide +kernel) (pa_cons (pe_op op_mul (pe_ix ix_lstM (pv 0) pe_int (fun _ _ => rfl)) pe_int) pa_nil)) pe_int) (pg_sub (pv 0) pe_int set_lstM))
    (pss_one (ps_ret (pe_op op_mod (pe_callTy call_intI (by rfl) T.z_int (by decide +kernel) (pa_cons (pe_op op_add (pe_op op_fdiv (pe_ix ix_lstM (pv 0) pe_int (fun _ _ => rfl)) pe_int) (pe_op op_mod (pe_callTy call_intI (by rfl) T.z_int (by decide +kernel) (pa_cons (pe_op op_mul (pe_ix ix_lstM (pv 0) pe_int (fun _ _ => rfl)) (pe_ix ix_lstM (pv 0) pe_int (fun _ _ => rfl))) pa_nil)) pe_int)) pa_nil)) (pv 1))))))), ?_⟩
    obtain ⟨p, lim, rfl, ⟨a, ns, i, b, s0, hp, ha, hb, hs, hs2⟩, hl0, hl1, k⟩ := h
    refine ⟨fun σ' H' => ∃ (c : Option V) (i' : Nat) (b' s' : Int), σ' = [some (.ref p), some (.int lim), c, none] ∧ H' p = some (.lst [.ref a, .int i', .int b', .int s']) ∧ But p H H' ∧ 0 ≤ b' ∧ 0 ≤ s' ∧ s' < 4294967296, ?_, ?_⟩
    · simp (config := { maxSteps := 4000000 }) only [tSeq, tNext, tDrop, tRet, tRetN, tIfS, tAsg, tTest, tAnd, tOr, tNot, tAndV, tOrV, tNotV, tIf, tOp, tUn, tVar, tC, tCB, tCons, tNil, tCall, tPart, tNoPart, tM0, tM1, tTup, tLst, tB, tIsN, tNotN, rI0, rI, rU, rEq, rNe, rAdd, gName, gTup, gCons, gNil, gSub, rSetL, rIxL, rIxT, rIxS, L2.start,
      List.map_cons, List.map_nil, List.cons_append, List.nil_append, List.append_nil, List.length_cons, List.length_nil, List.replicate, List.getElem?_cons_zero, List.getElem?_cons_succ, List.set_cons_zero, List.set_cons_succ, Nat.reduceAdd, Nat.reduceSub, Nat.sub_self, Nat.zero_add,
      Option.some.injEq, V.int.injEq, V.str.injEq, V.bl.injEq, V.ref.injEq, V.ty.injEq, List.cons.injEq, and_true, true_and, exists_eq_left, exists_eq_left', exists_eq_right, exists_and_left, exists_and_right, exists_const, decide_eq_true_eq, decide_eq_false_iff_not, if_true, if_false, reduceIte, Bool.false_eq_true, Bool.not_eq_true', sc_ii, sc_ss, sc_bb, str1, cx_K, lstAt, rIxM, rSetM, rLenM, atI_0, atI_1, atI_2, atI_3, setI_0, setI_1, setI_2, setI_3, upd_same, upd_upd, ite_true, ite_false, exists_eq', eq_self, and_assoc, rIsS, isTy_bb, isTy_bi, isTy_ib, isTy_ii, isTy_ss, isTy_nb, isTy_ni, Bool.not_true, Bool.not_false, not_true_eq_false, not_false_eq_true, hp]
      have stay : ∃ (x : Nat) (x_1 x_2 : Int), HO.lst [V.ref a, V.int ↑i, V.int b, V.int s0] = HO.lst [V.ref a, V.int ↑x, V.int x_1, V.int x_2] ∧ But p H H ∧ 0 ≤ x_1 ∧ 0 ≤ x_2 ∧ x_2 < 4294967296 := ⟨i, b, s0, rfl, fun _ _ => rfl, hb, hs, hs2⟩
      refine ite2 (fun h1 => ?_) (fun h1 => stay)
      refine ⟨_, .inl ha, ite2 (fun h2 => ?_) (fun h2 => stay)⟩
      rw [List.length_map] at h2
      have hlt : i < ns.length := by omega
      have hat : atI (ns.map V.int) (i : Int) = some (.int ns[i]) := atI_nat (by rw [List.getElem?_map, List.getElem?_eq_getElem hlt]; rfl)
      generalize ns[i] = z at hat
      have hz : 0 ≤ (if z < 0 then -z else z) := by split <;> omega
      refine ⟨_, ha, _, hat, z, rfl, ⟨by decide, by decide, by decide⟩, ite2 (fun h3 => ?_) (fun h3 => ?_)⟩
      · exact ⟨i + 1, _, s0, rfl, fun q hq => upd_ne hq, hz, hs, hs2⟩
      · refine ⟨.inr ⟨by decide, by decide⟩, by decide, i + 1, b, _, rfl, fun q hq => upd_ne hq, hb, ?_, ?_⟩
        · have := Int.emod_nonneg (s0 * 48271 + if z < 0 then -z else z) (show (2147483646 : Int) ≠ 0 by decide)
          omega
        · have := Int.emod_lt_of_pos (s0 * 48271 + if z < 0 then -z else z) (show (0 : Int) < 2147483646 by decide)
          omega
    · rintro σ' H' ⟨c, i', b', s', rfl, hp', hbut, hb', hs', hs2'⟩
      simp (config := { maxSteps := 4000000 }) only [tSeq, tNext, tDrop, tRet, tRetN, tIfS, tAsg, tTest, tAnd, tOr, tNot, tAndV, tOrV, tNotV, tIf, tOp, tUn, tVar, tC, tCB, tCons, tNil, tCall, tPart, tNoPart, tM0, tM1, tTup, tLst, tB, tIsN, tNotN, rI0, rI, rU, rEq, rNe, rAdd, gName, gTup, gCons, gNil, gSub, rSetL, rIxL, rIxT, rIxS, L2.start,
      List.map_cons, List.map_nil, List.cons_append, List.nil_append, List.append_nil, List.length_cons, List.length_nil, List.replicate, List.getElem?_cons_zero, List.getElem?_cons_succ, List.set_cons_zero, List.set_cons_succ, Nat.reduceAdd, Nat.reduceSub, Nat.sub_self, Nat.zero_add,
      Option.some.injEq, V.int.injEq, V.str.injEq, V.bl.injEq, V.ref.injEq, V.ty.injEq, List.cons.injEq, and_true, true_and, exists_eq_left, exists_eq_left', exists_eq_right, exists_and_left, exists_and_right, exists_const, decide_eq_true_eq, decide_eq_false_iff_not, if_true, if_false, reduceIte, Bool.false_eq_true, Bool.not_eq_true', sc_ii, sc_ss, sc_bb, str1, cx_K, lstAt, rIxM, rSetM, rLenM, atI_0, atI_1, atI_2, atI_3, setI_0, setI_1, setI_2, setI_3, upd_same, upd_upd, ite_true, ite_false, exists_eq', eq_self, and_assoc, rIsS, isTy_bb, isTy_bi, isTy_ib, isTy_ii, isTy_ss, isTy_nb, isTy_ni, Bool.not_true, Bool.not_false, not_true_eq_false, not_false_eq_true, hp']
      have keepA : ∀ o, SqL K (upd H' p o) a (ns.map V.int) := fun o => script_stays ha hp fun q hq => by
        rw [upd_ne hq]
        exact hbut q hq
      have e1 := Int.emod_nonneg (s' * 48271) (show (2147483647 : Int) ≠ 0 by decide)
      have e2 := Int.emod_lt_of_pos (s' * 48271) (show (0 : Int) < 2147483647 by decide)
      generalize s' * 48271 % 2147483647 = r at e1 e2
      have but2 : ∀ o, But p H (upd H' p o) := fun o q hq => by
        rw [upd_ne hq]
        exact hbut q hq
      refine ite2 (fun h1 => ?_) (fun h1 => ?_)
      · refine ⟨hl0, ⟨hl0, by omega⟩, k _ _ (Int.emod_nonneg _ (by omega)) (Int.emod_lt_of_pos _ hl0) ?_ (but2 _)⟩
        exact ⟨a, ns, i', _, s', upd_same, keepA _, Int.ediv_nonneg hb' (by omega), hs', hs2'⟩
      · refine ⟨.inr ⟨by decide, by decide⟩, by decide, ⟨by decide, by decide⟩, .inl ⟨by omega, by omega⟩, by decide, hl0, k _ _ (Int.emod_nonneg _ (by omega)) (Int.emod_lt_of_pos _ hl0) ?_ (but2 _)⟩
        exact ⟨a, ns, i', b', r, upd_same, keepA _, hb', e1, by omega⟩
end

def sp_letters : Sp := fun vs H Q _ => vs = [] ∧ Q (.str sM) H
theorem sp_letters_len {vs H Q E} (h : sp_letters vs H Q E) : vs.length = ([] : List Str).length := by
  obtain ⟨rfl, _⟩ := h
  rfl
section
variable {P : Program} {w : World} {K : PySem.W.Frag} {mg : Str → Option Value} {base : Heap} {A : Ad}
theorem ok__law_letters (T : Txt K mg A) : FnOk P w K mg base CX0 1 A.f__law_letters A.d__law_letters [] (sp_letters) := by
  refine (T.F__law_letters).ok sc__law_letters (fun vs H Q E h => ?_) (fun cdv Ar outer s H vs Q E hr h => ?_)
  · exact sp_letters_len h
  · have hu := hu_of hr
    refine ⟨_, (pss_one (ps_ret pe_str)), ?_⟩
    obtain ⟨rfl, k⟩ := h
    simp (config := { maxSteps := 4000000 }) only [tSeq, tNext, tDrop, tRet, tRetN, tIfS, tAsg, tTest, tAnd, tOr, tNot, tAndV, tOrV, tNotV, tIf, tOp, tUn, tVar, tC, tCB, tCons, tNil, tCall, tPart, tNoPart, tM0, tM1, tTup, tLst, tB, tIsN, tNotN, rI0, rI, rU, rEq, rNe, rAdd, gName, gTup, gCons, gNil, gSub, rSetL, rIxL, rIxT, rIxS, L2.start,
      List.map_cons, List.map_nil, List.cons_append, List.nil_append, List.append_nil, List.length_cons, List.length_nil, List.replicate, List.getElem?_cons_zero, List.getElem?_cons_succ, List.set_cons_zero, List.set_cons_succ, Nat.reduceAdd, Nat.reduceSub, Nat.sub_self, Nat.zero_add,
      Option.some.injEq, V.int.injEq, V.str.injEq, V.bl.injEq, V.ref.injEq, V.ty.injEq, List.cons.injEq, and_true, true_and, exists_eq_left, exists_eq_left', exists_eq_right, exists_and_left, exists_and_right, exists_const, decide_eq_true_eq, decide_eq_false_iff_not, if_true, if_false, reduceIte, Bool.false_eq_true, Bool.not_eq_true', sc_ii, sc_ss, sc_bb, str1, cx_K, lstAt, rIxM, rSetM, rLenM, atI_0, atI_1, atI_2, atI_3, setI_0, setI_1, setI_2, setI_3, upd_same, upd_upd, ite_true, ite_false, exists_eq', eq_self, and_assoc, rIsS, isTy_bb, isTy_bi, isTy_ib, isTy_ii, isTy_ss, isTy_nb, isTy_ni, Bool.not_true, Bool.not_false, not_true_eq_false, not_false_eq_true]
    exact k
end

def sp_string (K : PySem.W.Frag) : Sp := fun vs H Q _ => ∃ (p : Addr), vs = [.ref p] ∧ StAt K H p ∧ ∀ (x : Str) H', x.length ≤ 1000 → StAt K H' p → But p H H' → Q (.str x) H'
theorem sp_string_len {K vs H Q E} (h : sp_string K vs H Q E) : vs.length = (["state"] : List Str).length := by
  obtain ⟨_, rfl, _⟩ := h
  rfl
theorem But.trans {p : Addr} {H H1 H2 : Hp} (a : But p H H1) (b : But p H1 H2) : But p H H2 := fun q hq => (b q hq).trans (a q hq)
section
variable {P : Program} {w : World} {K : PySem.W.Frag} {mg : Str → Option Value} {base : Heap} {A : Ad}
theorem ok__law_string (T : Txt K mg A) : FnOk P w K mg base CX0 2 A.f__law_string A.d__law_string ["state"] (sp_string K) := by
  refine (T.F__law_string).ok sc__law_string (fun vs H Q E h => ?_) (fun cdv Ar outer s H vs Q E hr h => ?_)
  · exact sp_string_len h
  · have hu := hu_of hr
    refine ⟨_, (pss_cons (ps_asg (pe_call (ok__law_pick T) (hr.mono (by decide)) (by rfl) T.g__law_pick T.k__law_pick T.b__law_pick .nil pass0 (pa_cons (pv 0) (pa_cons pe_int pa_nil))) (pg_name (i := 1) sc__law_string.nd rfl (Or.inl rfl)))
    (Evl.pss_cut (ps_if (pt_cmpR op_eq (pe_call (ok__law_pick T) (hr.mono (by decide)) (by rfl) T.g__law_pick T.k__law_pick T.b__law_pick .nil pass0 (pa_cons (pv 0) (pa_cons pe_int pa_nil))) pe_int (nomark _)) (pss_one (ps_asg (pe_op op_add pe_int (pe_call (ok__law_pick T) (hr.mono (by decide)) (by rfl) T.g__law_pick T.k__law_pick T.b__law_pick .nil pass0 (pa_cons (pv 0) (pa_cons pe_int pa_nil)))) (pg_name (i := 1) sc__law_string.nd rfl (Or.inl rfl)))) pss_nil)
    (pss_cons (ps_asg (pe_op op_add_str (pe_call0 (ok__law_letters T) (hr.mono (by decide)) (by rfl) T.g__law_letters T.k__law_letters T.b__law_letters .nil pass0) pe_str) (pg_name (i := 2) sc__law_string.nd rfl (Or.inl rfl)))
    (Evl.pss_cut (ps_if (pt_cmpR op_eq (pe_call (ok__law_pick T) (hr.mono (by decide)) (by rfl) T.g__law_pick T.k__law_pick T.b__law_pick .nil pass0 (pa_cons (pv 0) (pa_cons pe_int pa_nil))) pe_int (nomark _)) (pss_one (ps_asg (pe_op op_add_str (pv 2) pe_str) (pg_name (i := 2) sc__law_string.nd rfl (Or.inl rfl)))) pss_nil)
    (pss_cons (ps_asg pe_str (pg_name (i := 3) sc__law_string.nd rfl (Or.inl rfl)))
    (pss_cons (ps_for PassesOwn.never rfl (pi_range1 (by rfl) T.z_range (pa_cons (pv 1) pa_nil)) (pg_name (i := 4) sc__law_string.nd rfl (Or.inl rfl))
      (pss_one (ps_asg (pe_op op_add_str (pv 3) (pe_item_str (pv 2) (pe_call (ok__law_pick T) (hr.mono (by decide)) (by rfl) T.g__law_pick T.k__law_pick T.b__law_pick .nil pass0 (pa_cons (pv 0) (pa_cons (pe_callB call_len_str (by rfl) T.z_len PySem.boot_len (pa_cons (pv 2) pa_nil)) pa_nil))) (fun _ _ => rfl))) (pg_name (i := 3) sc__law_string.nd rfl (Or.inl rfl)))))
    (pss_one (ps_ret (pv 3))))))))), ?_⟩
    obtain ⟨p, rfl, hp, k⟩ := h
    simp (config := { maxSteps := 4000000 }) only [tSeq, tNext, tDrop, tRet, tRetN, tIfS, tAsg, tTest, tAnd, tOr, tNot, tAndV, tOrV, tNotV, tIf, tOp, tUn, tVar, tC, tCB, tCons, tNil, tCall, tPart, tNoPart, tM0, tM1, tTup, tLst, tB, tIsN, tNotN, rI0, rI, rU, rEq, rNe, rAdd, gName, gTup, gCons, gNil, gSub, rSetL, rIxL, rIxT, rIxS, L2.start,
      List.map_cons, List.map_nil, List.cons_append, List.nil_append, List.append_nil, List.length_cons, List.length_nil, List.replicate, List.getElem?_cons_zero, List.getElem?_cons_succ, List.set_cons_zero, List.set_cons_succ, Nat.reduceAdd, Nat.reduceSub, Nat.sub_self, Nat.zero_add,
      Option.some.injEq, V.int.injEq, V.str.injEq, V.bl.injEq, V.ref.injEq, V.ty.injEq, List.cons.injEq, and_true, true_and, exists_eq_left, exists_eq_left', exists_eq_right, exists_and_left, exists_and_right, exists_const, decide_eq_true_eq, decide_eq_false_iff_not, if_true, if_false, reduceIte, Bool.false_eq_true, Bool.not_eq_true', sc_ii, sc_ss, sc_bb, str1, cx_K, lstAt, rIxM, rSetM, rLenM, atI_0, atI_1, atI_2, atI_3, setI_0, setI_1, setI_2, setI_3, upd_same, upd_upd, ite_true, ite_false, exists_eq', eq_self, and_assoc, rIsS, isTy_bb, isTy_bi, isTy_ib, isTy_ii, isTy_ss, isTy_nb, isTy_ni, Bool.not_true, Bool.not_false, not_true_eq_false, not_false_eq_true]
    refine ⟨p, 6, rfl, hp, by decide, by decide, fun d H1 hd0 hd1 hp1 hb1 => ?_⟩
    refine ⟨fun σ' H' => ∃ n : Int, σ' = [some (.ref p), some (.int n), none, none, none] ∧ 0 ≤ n ∧ n ≤ 40 ∧ StAt K H' p ∧ But p H H', ?_, ?_⟩
    · simp (config := { maxSteps := 4000000 }) only [tSeq, tNext, tDrop, tRet, tRetN, tIfS, tAsg, tTest, tAnd, tOr, tNot, tAndV, tOrV, tNotV, tIf, tOp, tUn, tVar, tC, tCB, tCons, tNil, tCall, tPart, tNoPart, tM0, tM1, tTup, tLst, tB, tIsN, tNotN, rI0, rI, rU, rEq, rNe, rAdd, gName, gTup, gCons, gNil, gSub, rSetL, rIxL, rIxT, rIxS, L2.start,
      List.map_cons, List.map_nil, List.cons_append, List.nil_append, List.append_nil, List.length_cons, List.length_nil, List.replicate, List.getElem?_cons_zero, List.getElem?_cons_succ, List.set_cons_zero, List.set_cons_succ, Nat.reduceAdd, Nat.reduceSub, Nat.sub_self, Nat.zero_add,
      Option.some.injEq, V.int.injEq, V.str.injEq, V.bl.injEq, V.ref.injEq, V.ty.injEq, List.cons.injEq, and_true, true_and, exists_eq_left, exists_eq_left', exists_eq_right, exists_and_left, exists_and_right, exists_const, decide_eq_true_eq, decide_eq_false_iff_not, if_true, if_false, reduceIte, Bool.false_eq_true, Bool.not_eq_true', sc_ii, sc_ss, sc_bb, str1, cx_K, lstAt, rIxM, rSetM, rLenM, atI_0, atI_1, atI_2, atI_3, setI_0, setI_1, setI_2, setI_3, upd_same, upd_upd, ite_true, ite_false, exists_eq', eq_self, and_assoc, rIsS, isTy_bb, isTy_bi, isTy_ib, isTy_ii, isTy_ss, isTy_nb, isTy_ni, Bool.not_true, Bool.not_false, not_true_eq_false, not_false_eq_true]
      refine ⟨p, 3, rfl, hp1, by decide, by decide, fun d2 H2 hd20 hd21 hp2 hb2 => ?_⟩
      simp (config := { maxSteps := 4000000 }) only [tSeq, tNext, tDrop, tRet, tRetN, tIfS, tAsg, tTest, tAnd, tOr, tNot, tAndV, tOrV, tNotV, tIf, tOp, tUn, tVar, tC, tCB, tCons, tNil, tCall, tPart, tNoPart, tM0, tM1, tTup, tLst, tB, tIsN, tNotN, rI0, rI, rU, rEq, rNe, rAdd, gName, gTup, gCons, gNil, gSub, rSetL, rIxL, rIxT, rIxS, L2.start,
      List.map_cons, List.map_nil, List.cons_append, List.nil_append, List.append_nil, List.length_cons, List.length_nil, List.replicate, List.getElem?_cons_zero, List.getElem?_cons_succ, List.set_cons_zero, List.set_cons_succ, Nat.reduceAdd, Nat.reduceSub, Nat.sub_self, Nat.zero_add,
      Option.some.injEq, V.int.injEq, V.str.injEq, V.bl.injEq, V.ref.injEq, V.ty.injEq, List.cons.injEq, and_true, true_and, exists_eq_left, exists_eq_left', exists_eq_right, exists_and_left, exists_and_right, exists_const, decide_eq_true_eq, decide_eq_false_iff_not, if_true, if_false, reduceIte, Bool.false_eq_true, Bool.not_eq_true', sc_ii, sc_ss, sc_bb, str1, cx_K, lstAt, rIxM, rSetM, rLenM, atI_0, atI_1, atI_2, atI_3, setI_0, setI_1, setI_2, setI_3, upd_same, upd_upd, ite_true, ite_false, exists_eq', eq_self, and_assoc, rIsS, isTy_bb, isTy_bi, isTy_ib, isTy_ii, isTy_ss, isTy_nb, isTy_ni, Bool.not_true, Bool.not_false, not_true_eq_false, not_false_eq_true]
      refine ite2 (fun h1 => ?_) (fun h1 => ?_)
      · refine ⟨p, 9, rfl, hp2, by decide, by decide, fun d3 H3 hd30 hd31 hp3 hb3 => ?_⟩
        simp (config := { maxSteps := 4000000 }) only [tSeq, tNext, tDrop, tRet, tRetN, tIfS, tAsg, tTest, tAnd, tOr, tNot, tAndV, tOrV, tNotV, tIf, tOp, tUn, tVar, tC, tCB, tCons, tNil, tCall, tPart, tNoPart, tM0, tM1, tTup, tLst, tB, tIsN, tNotN, rI0, rI, rU, rEq, rNe, rAdd, gName, gTup, gCons, gNil, gSub, rSetL, rIxL, rIxT, rIxS, L2.start,
      List.map_cons, List.map_nil, List.cons_append, List.nil_append, List.append_nil, List.length_cons, List.length_nil, List.replicate, List.getElem?_cons_zero, List.getElem?_cons_succ, List.set_cons_zero, List.set_cons_succ, Nat.reduceAdd, Nat.reduceSub, Nat.sub_self, Nat.zero_add,
      Option.some.injEq, V.int.injEq, V.str.injEq, V.bl.injEq, V.ref.injEq, V.ty.injEq, List.cons.injEq, and_true, true_and, exists_eq_left, exists_eq_left', exists_eq_right, exists_and_left, exists_and_right, exists_const, decide_eq_true_eq, decide_eq_false_iff_not, if_true, if_false, reduceIte, Bool.false_eq_true, Bool.not_eq_true', sc_ii, sc_ss, sc_bb, str1, cx_K, lstAt, rIxM, rSetM, rLenM, atI_0, atI_1, atI_2, atI_3, setI_0, setI_1, setI_2, setI_3, upd_same, upd_upd, ite_true, ite_false, exists_eq', eq_self, and_assoc, rIsS, isTy_bb, isTy_bi, isTy_ib, isTy_ii, isTy_ss, isTy_nb, isTy_ni, Bool.not_true, Bool.not_false, not_true_eq_false, not_false_eq_true]
        exact ⟨by omega, by omega, hp3, (hb1.trans hb2).trans hb3⟩
      · exact ⟨by omega, by omega, hp2, hb1.trans hb2⟩
    · rintro σ' H' ⟨n, rfl, hn0, hn1, hpn, hbn⟩
      simp (config := { maxSteps := 4000000 }) only [tSeq, tNext, tDrop, tRet, tRetN, tIfS, tAsg, tTest, tAnd, tOr, tNot, tAndV, tOrV, tNotV, tIf, tOp, tUn, tVar, tC, tCB, tCons, tNil, tCall, tPart, tNoPart, tM0, tM1, tTup, tLst, tB, tIsN, tNotN, rI0, rI, rU, rEq, rNe, rAdd, gName, gTup, gCons, gNil, gSub, rSetL, rIxL, rIxT, rIxS, L2.start,
      List.map_cons, List.map_nil, List.cons_append, List.nil_append, List.append_nil, List.length_cons, List.length_nil, List.replicate, List.getElem?_cons_zero, List.getElem?_cons_succ, List.set_cons_zero, List.set_cons_succ, Nat.reduceAdd, Nat.reduceSub, Nat.sub_self, Nat.zero_add,
      Option.some.injEq, V.int.injEq, V.str.injEq, V.bl.injEq, V.ref.injEq, V.ty.injEq, List.cons.injEq, and_true, true_and, exists_eq_left, exists_eq_left', exists_eq_right, exists_and_left, exists_and_right, exists_const, decide_eq_true_eq, decide_eq_false_iff_not, if_true, if_false, reduceIte, Bool.false_eq_true, Bool.not_eq_true', sc_ii, sc_ss, sc_bb, str1, cx_K, lstAt, rIxM, rSetM, rLenM, atI_0, atI_1, atI_2, atI_3, setI_0, setI_1, setI_2, setI_3, upd_same, upd_upd, ite_true, ite_false, exists_eq', eq_self, and_assoc, rIsS, isTy_bb, isTy_bi, isTy_ib, isTy_ii, isTy_ss, isTy_nb, isTy_ni, Bool.not_true, Bool.not_false, not_true_eq_false, not_false_eq_true]
      refine ⟨rfl, _, rfl, by decide, fun σ' H' => ∃ ch : Str, σ' = [some (.ref p), some (.int n), some (.str ch), none, none] ∧ 0 < ch.length ∧ ch.length ≤ 1000 ∧ StAt K H' p ∧ But p H H', ?_, ?_⟩
      · simp (config := { maxSteps := 4000000 }) only [tSeq, tNext, tDrop, tRet, tRetN, tIfS, tAsg, tTest, tAnd, tOr, tNot, tAndV, tOrV, tNotV, tIf, tOp, tUn, tVar, tC, tCB, tCons, tNil, tCall, tPart, tNoPart, tM0, tM1, tTup, tLst, tB, tIsN, tNotN, rI0, rI, rU, rEq, rNe, rAdd, gName, gTup, gCons, gNil, gSub, rSetL, rIxL, rIxT, rIxS, L2.start,
      List.map_cons, List.map_nil, List.cons_append, List.nil_append, List.append_nil, List.length_cons, List.length_nil, List.replicate, List.getElem?_cons_zero, List.getElem?_cons_succ, List.set_cons_zero, List.set_cons_succ, Nat.reduceAdd, Nat.reduceSub, Nat.sub_self, Nat.zero_add,
      Option.some.injEq, V.int.injEq, V.str.injEq, V.bl.injEq, V.ref.injEq, V.ty.injEq, List.cons.injEq, and_true, true_and, exists_eq_left, exists_eq_left', exists_eq_right, exists_and_left, exists_and_right, exists_const, decide_eq_true_eq, decide_eq_false_iff_not, if_true, if_false, reduceIte, Bool.false_eq_true, Bool.not_eq_true', sc_ii, sc_ss, sc_bb, str1, cx_K, lstAt, rIxM, rSetM, rLenM, atI_0, atI_1, atI_2, atI_3, setI_0, setI_1, setI_2, setI_3, upd_same, upd_upd, ite_true, ite_false, exists_eq', eq_self, and_assoc, rIsS, isTy_bb, isTy_bi, isTy_ib, isTy_ii, isTy_ss, isTy_nb, isTy_ni, Bool.not_true, Bool.not_false, not_true_eq_false, not_false_eq_true]
        refine ⟨p, 2, rfl, hpn, by decide, by decide, fun d2 H2 hd20 hd21 hp2 hb2 => ?_⟩
        simp (config := { maxSteps := 4000000 }) only [tSeq, tNext, tDrop, tRet, tRetN, tIfS, tAsg, tTest, tAnd, tOr, tNot, tAndV, tOrV, tNotV, tIf, tOp, tUn, tVar, tC, tCB, tCons, tNil, tCall, tPart, tNoPart, tM0, tM1, tTup, tLst, tB, tIsN, tNotN, rI0, rI, rU, rEq, rNe, rAdd, gName, gTup, gCons, gNil, gSub, rSetL, rIxL, rIxT, rIxS, L2.start,
      List.map_cons, List.map_nil, List.cons_append, List.nil_append, List.append_nil, List.length_cons, List.length_nil, List.replicate, List.getElem?_cons_zero, List.getElem?_cons_succ, List.set_cons_zero, List.set_cons_succ, Nat.reduceAdd, Nat.reduceSub, Nat.sub_self, Nat.zero_add,
      Option.some.injEq, V.int.injEq, V.str.injEq, V.bl.injEq, V.ref.injEq, V.ty.injEq, List.cons.injEq, and_true, true_and, exists_eq_left, exists_eq_left', exists_eq_right, exists_and_left, exists_and_right, exists_const, decide_eq_true_eq, decide_eq_false_iff_not, if_true, if_false, reduceIte, Bool.false_eq_true, Bool.not_eq_true', sc_ii, sc_ss, sc_bb, str1, cx_K, lstAt, rIxM, rSetM, rLenM, atI_0, atI_1, atI_2, atI_3, setI_0, setI_1, setI_2, setI_3, upd_same, upd_upd, ite_true, ite_false, exists_eq', eq_self, and_assoc, rIsS, isTy_bb, isTy_bi, isTy_ib, isTy_ii, isTy_ss, isTy_nb, isTy_ni, Bool.not_true, Bool.not_false, not_true_eq_false, not_false_eq_true]
        refine ite2 (fun h1 => ?_) (fun h1 => ?_)
        · exact ⟨by decide, by decide, by decide, hp2, hbn.trans hb2⟩
        · exact ⟨by decide, by decide, hp2, hbn.trans hb2⟩
      · rintro σ' H2 ⟨ch, rfl, hc0, hc1, hp2, hb2⟩
        simp (config := { maxSteps := 4000000 }) only [tSeq, tNext, tDrop, tRet, tRetN, tIfS, tAsg, tTest, tAnd, tOr, tNot, tAndV, tOrV, tNotV, tIf, tOp, tUn, tVar, tC, tCB, tCons, tNil, tCall, tPart, tNoPart, tM0, tM1, tTup, tLst, tB, tIsN, tNotN, rI0, rI, rU, rEq, rNe, rAdd, gName, gTup, gCons, gNil, gSub, rSetL, rIxL, rIxT, rIxS, L2.start,
      List.map_cons, List.map_nil, List.cons_append, List.nil_append, List.append_nil, List.length_cons, List.length_nil, List.replicate, List.getElem?_cons_zero, List.getElem?_cons_succ, List.set_cons_zero, List.set_cons_succ, Nat.reduceAdd, Nat.reduceSub, Nat.sub_self, Nat.zero_add,
      Option.some.injEq, V.int.injEq, V.str.injEq, V.bl.injEq, V.ref.injEq, V.ty.injEq, List.cons.injEq, and_true, true_and, exists_eq_left, exists_eq_left', exists_eq_right, exists_and_left, exists_and_right, exists_const, decide_eq_true_eq, decide_eq_false_iff_not, if_true, if_false, reduceIte, Bool.false_eq_true, Bool.not_eq_true', sc_ii, sc_ss, sc_bb, str1, cx_K, lstAt, rIxM, rSetM, rLenM, atI_0, atI_1, atI_2, atI_3, setI_0, setI_1, setI_2, setI_3, upd_same, upd_upd, ite_true, ite_false, exists_eq', eq_self, and_assoc, rIsS, isTy_bb, isTy_bi, isTy_ib, isTy_ii, isTy_ss, isTy_nb, isTy_ni, Bool.not_true, Bool.not_false, not_true_eq_false, not_false_eq_true]
        refine ⟨_, rfl, n, rfl, by omega, by omega, for_range (lo := 0) (n := n.toNat) (fun i σ' H' => ∃ (x : Str) (kk : Option V), σ' = [some (.ref p), some (.int n), some (.str ch), some (.str x), kk] ∧ x.length ≤ i ∧ StAt K H' p ∧ But p H H') ⟨"", none, rfl, by decide, hp2, hb2⟩ ?_ ?_⟩
        · rintro i σ' H3 hi ⟨x, kk, rfl, hx, hp3, hb3⟩
          simp (config := { maxSteps := 4000000 }) only [tSeq, tNext, tDrop, tRet, tRetN, tIfS, tAsg, tTest, tAnd, tOr, tNot, tAndV, tOrV, tNotV, tIf, tOp, tUn, tVar, tC, tCB, tCons, tNil, tCall, tPart, tNoPart, tM0, tM1, tTup, tLst, tB, tIsN, tNotN, rI0, rI, rU, rEq, rNe, rAdd, gName, gTup, gCons, gNil, gSub, rSetL, rIxL, rIxT, rIxS, L2.start,
      List.map_cons, List.map_nil, List.cons_append, List.nil_append, List.append_nil, List.length_cons, List.length_nil, List.replicate, List.getElem?_cons_zero, List.getElem?_cons_succ, List.set_cons_zero, List.set_cons_succ, Nat.reduceAdd, Nat.reduceSub, Nat.sub_self, Nat.zero_add,
      Option.some.injEq, V.int.injEq, V.str.injEq, V.bl.injEq, V.ref.injEq, V.ty.injEq, List.cons.injEq, and_true, true_and, exists_eq_left, exists_eq_left', exists_eq_right, exists_and_left, exists_and_right, exists_const, decide_eq_true_eq, decide_eq_false_iff_not, if_true, if_false, reduceIte, Bool.false_eq_true, Bool.not_eq_true', sc_ii, sc_ss, sc_bb, str1, cx_K, lstAt, rIxM, rSetM, rLenM, atI_0, atI_1, atI_2, atI_3, setI_0, setI_1, setI_2, setI_3, upd_same, upd_upd, ite_true, ite_false, exists_eq', eq_self, and_assoc, rIsS, isTy_bb, isTy_bi, isTy_ib, isTy_ii, isTy_ss, isTy_nb, isTy_ni, Bool.not_true, Bool.not_false, not_true_eq_false, not_false_eq_true]
          refine ⟨Nat.le_trans hc1 (by decide), p, _, rfl, hp3, by omega, by omega, fun d H4 hd0 hd1 hp4 hb4 => ?_⟩
          have hlt : d.toNat < (cl ch).length := by
            rw [← len_cl]
            omega
          have hat : ch.cps[d.toNat]? = some ((cl ch)[d.toNat]) := by rw [at_cl, List.getElem?_eq_getElem hlt]
          simp (config := { maxSteps := 4000000 }) only [tSeq, tNext, tDrop, tRet, tRetN, tIfS, tAsg, tTest, tAnd, tOr, tNot, tAndV, tOrV, tNotV, tIf, tOp, tUn, tVar, tC, tCB, tCons, tNil, tCall, tPart, tNoPart, tM0, tM1, tTup, tLst, tB, tIsN, tNotN, rI0, rI, rU, rEq, rNe, rAdd, gName, gTup, gCons, gNil, gSub, rSetL, rIxL, rIxT, rIxS, L2.start,
      List.map_cons, List.map_nil, List.cons_append, List.nil_append, List.append_nil, List.length_cons, List.length_nil, List.replicate, List.getElem?_cons_zero, List.getElem?_cons_succ, List.set_cons_zero, List.set_cons_succ, Nat.reduceAdd, Nat.reduceSub, Nat.sub_self, Nat.zero_add,
      Option.some.injEq, V.int.injEq, V.str.injEq, V.bl.injEq, V.ref.injEq, V.ty.injEq, List.cons.injEq, and_true, true_and, exists_eq_left, exists_eq_left', exists_eq_right, exists_and_left, exists_and_right, exists_const, decide_eq_true_eq, decide_eq_false_iff_not, if_true, if_false, reduceIte, Bool.false_eq_true, Bool.not_eq_true', sc_ii, sc_ss, sc_bb, str1, cx_K, lstAt, rIxM, rSetM, rLenM, atI_0, atI_1, atI_2, atI_3, setI_0, setI_1, setI_2, setI_3, upd_same, upd_upd, ite_true, ite_false, exists_eq', eq_self, and_assoc, rIsS, isTy_bb, isTy_bi, isTy_ib, isTy_ii, isTy_ss, isTy_nb, isTy_ni, Bool.not_true, Bool.not_false, not_true_eq_false, not_false_eq_true]
          refine ⟨hd0, by omega, hd1, _, hat, ?_, ?_, hp4, hb3.trans hb4⟩
          · show x.length + 1 ≤ sizeLine
            have : (1000 : Nat) ≤ sizeLine := by decide
            omega
          · rw [len_cl, cl_append, List.length_append, ← len_cl]
            show x.length + 1 ≤ i + 1
            omega
        · rintro σ' H3 ⟨x, kk, rfl, hx, hp3, hb3⟩
          simp (config := { maxSteps := 4000000 }) only [tSeq, tNext, tDrop, tRet, tRetN, tIfS, tAsg, tTest, tAnd, tOr, tNot, tAndV, tOrV, tNotV, tIf, tOp, tUn, tVar, tC, tCB, tCons, tNil, tCall, tPart, tNoPart, tM0, tM1, tTup, tLst, tB, tIsN, tNotN, rI0, rI, rU, rEq, rNe, rAdd, gName, gTup, gCons, gNil, gSub, rSetL, rIxL, rIxT, rIxS, L2.start,
      List.map_cons, List.map_nil, List.cons_append, List.nil_append, List.append_nil, List.length_cons, List.length_nil, List.replicate, List.getElem?_cons_zero, List.getElem?_cons_succ, List.set_cons_zero, List.set_cons_succ, Nat.reduceAdd, Nat.reduceSub, Nat.sub_self, Nat.zero_add,
      Option.some.injEq, V.int.injEq, V.str.injEq, V.bl.injEq, V.ref.injEq, V.ty.injEq, List.cons.injEq, and_true, true_and, exists_eq_left, exists_eq_left', exists_eq_right, exists_and_left, exists_and_right, exists_const, decide_eq_true_eq, decide_eq_false_iff_not, if_true, if_false, reduceIte, Bool.false_eq_true, Bool.not_eq_true', sc_ii, sc_ss, sc_bb, str1, cx_K, lstAt, rIxM, rSetM, rLenM, atI_0, atI_1, atI_2, atI_3, setI_0, setI_1, setI_2, setI_3, upd_same, upd_upd, ite_true, ite_false, exists_eq', eq_self, and_assoc, rIsS, isTy_bb, isTy_bi, isTy_ib, isTy_ii, isTy_ss, isTy_nb, isTy_ni, Bool.not_true, Bool.not_false, not_true_eq_false, not_false_eq_true]
          exact k x H3 (by omega) hp3 hb3
end

def sp_lis_name : Sp := fun vs H Q _ => ∃ (x : Str), vs = [.str x] ∧ x.length ≤ 100000 ∧ Q (.bl (nameOk (cl x))) H
theorem sp_lis_name_len {vs H Q E} (h : sp_lis_name vs H Q E) : vs.length = (["string"] : List Str).length := by
  obtain ⟨_, rfl, _⟩ := h
  rfl
section
variable {P : Program} {w : World} {K : PySem.W.Frag} {mg : Str → Option Value} {base : Heap} {A : Ad}
theorem ok__law_is_name (T : Txt K mg A) : FnOk P w K mg base CX0 2 A.f__law_is_name A.d__law_is_name ["string"] (sp_lis_name) := by
  refine (T.F__law_is_name).ok sc__law_is_name (fun vs H Q E h => ?_) (fun cdv Ar outer s H vs Q E hr h => ?_)
  · exact sp_lis_name_len h
  · have hu := hu_of hr
    refine ⟨_, (pss_cons (ps_if (PW.pt (pw_or (pt_cmpR op_eq (pe_callB call_len_str (by rfl) T.z_len PySem.boot_len (pa_cons (pv 0) pa_nil)) pe_int (nomark _)) (pw_or1 (pt_cmpR op_gt (pe_callB call_len_str (by rfl) T.z_len PySem.boot_len (pa_cons (pv 0) pa_nil)) pe_int (nomark _))))) (pss_one (ps_ret pe_bl)) pss_nil)
    (pss_cons (ps_for PassesOwn.never rfl (pi_range1 (by rfl) T.z_range (pa_cons (pe_callB call_len_str (by rfl) T.z_len PySem.boot_len (pa_cons (pv 0) pa_nil)) pa_nil)) (pg_name (i := 1) sc__law_is_name.nd rfl (Or.inl rfl))
      (pss_one (ps_if (PW.pt (pw_and (pt_cmpR op_notIn_sign (pe_item_str (pv 0) (pv 1) (fun _ _ => rfl)) (pe_call0 (ok__law_letters T) (hr.mono (by decide)) (by rfl) T.g__law_letters T.k__law_letters T.b__law_letters .nil pass0) (by rfl)) (pw_and1 (PW.pt (pw_or (pt_cmpR op_eq (pv 1) pe_int (nomark _)) (pw_or1 (pt_cmpR op_notIn_sign (pe_item_str (pv 0) (pv 1) (fun _ _ => rfl)) pe_str (by rfl)))))))) (pss_one (ps_ret pe_bl)) pss_nil)))
    (pss_one (ps_ret pe_bl)))), ?_⟩
    obtain ⟨x, rfl, hx, k⟩ := h
    simp (config := { maxSteps := 4000000 }) only [tSeq, tNext, tDrop, tRet, tRetN, tIfS, tAsg, tTest, tAnd, tOr, tNot, tAndV, tOrV, tNotV, tIf, tOp, tUn, tVar, tC, tCB, tCons, tNil, tCall, tPart, tNoPart, tM0, tM1, tTup, tLst, tB, tIsN, tNotN, rI0, rI, rU, rEq, rNe, rAdd, gName, gTup, gCons, gNil, gSub, rSetL, rIxL, rIxT, rIxS, L2.start,
      List.map_cons, List.map_nil, List.cons_append, List.nil_append, List.append_nil, List.length_cons, List.length_nil, List.replicate, List.getElem?_cons_zero, List.getElem?_cons_succ, List.set_cons_zero, List.set_cons_succ, Nat.reduceAdd, Nat.reduceSub, Nat.sub_self, Nat.zero_add,
      Option.some.injEq, V.int.injEq, V.str.injEq, V.bl.injEq, V.ref.injEq, V.ty.injEq, List.cons.injEq, and_true, true_and, exists_eq_left, exists_eq_left', exists_eq_right, exists_and_left, exists_and_right, exists_const, decide_eq_true_eq, decide_eq_false_iff_not, if_true, if_false, reduceIte, Bool.false_eq_true, Bool.not_eq_true', sc_ii, sc_ss, sc_bb, str1, cx_K, lstAt, rIxM, rSetM, rLenM, atI_0, atI_1, atI_2, atI_3, setI_0, setI_1, setI_2, setI_3, upd_same, upd_upd, ite_true, ite_false, exists_eq', eq_self, and_assoc, rIsS, isTy_bb, isTy_bi, isTy_ib, isTy_ii, isTy_ss, isTy_nb, isTy_ni, Bool.not_true, Bool.not_false, not_true_eq_false, not_false_eq_true]
    have hl := len_cl x
    have hsz : x.length ≤ sizeLine := Nat.le_trans hx (by decide)
    have no : nameOk (cl x) ≠ true → Q (.bl false) H := fun h => by
      rw [show nameOk (cl x) = false from Bool.eq_false_iff.mpr h] at k
      exact k
    refine ⟨hsz, ite2 (fun h1 => no fun z => ?_) (fun h1 => ⟨hsz, ite2 (fun h2 => no fun z => ?_) (fun h2 => ?_)⟩)⟩
    · have := ((nameOk_iff _).mp z).1
      have h0 : (cl x).length = 0 := by omega
      exact this (List.length_eq_zero_iff.mp h0)
    · have := ((nameOk_iff _).mp z).2.1
      omega
    · refine ⟨_, rfl, x, rfl, hsz, _, rfl, by omega, by omega, for_range (lo := 0) (n := (x.length : Int).toNat) (fun i σ' H' => ∃ kk : Option V, σ' = [some (.str x), kk] ∧ H' = H ∧ ∀ j c, j < i → (cl x)[j]? = some c → charOk j c) ⟨none, rfl, rfl, fun j c h => absurd h (Nat.not_lt_zero _)⟩ ?_ ?_⟩
      · rintro i σ' H3 hi ⟨kk, rfl, rfl, hall⟩
        simp (config := { maxSteps := 4000000 }) only [tSeq, tNext, tDrop, tRet, tRetN, tIfS, tAsg, tTest, tAnd, tOr, tNot, tAndV, tOrV, tNotV, tIf, tOp, tUn, tVar, tC, tCB, tCons, tNil, tCall, tPart, tNoPart, tM0, tM1, tTup, tLst, tB, tIsN, tNotN, rI0, rI, rU, rEq, rNe, rAdd, gName, gTup, gCons, gNil, gSub, rSetL, rIxL, rIxT, rIxS, L2.start,
      List.map_cons, List.map_nil, List.cons_append, List.nil_append, List.append_nil, List.length_cons, List.length_nil, List.replicate, List.getElem?_cons_zero, List.getElem?_cons_succ, List.set_cons_zero, List.set_cons_succ, Nat.reduceAdd, Nat.reduceSub, Nat.sub_self, Nat.zero_add,
      Option.some.injEq, V.int.injEq, V.str.injEq, V.bl.injEq, V.ref.injEq, V.ty.injEq, List.cons.injEq, and_true, true_and, exists_eq_left, exists_eq_left', exists_eq_right, exists_and_left, exists_and_right, exists_const, decide_eq_true_eq, decide_eq_false_iff_not, if_true, if_false, reduceIte, Bool.false_eq_true, Bool.not_eq_true', sc_ii, sc_ss, sc_bb, str1, cx_K, lstAt, rIxM, rSetM, rLenM, atI_0, atI_1, atI_2, atI_3, setI_0, setI_1, setI_2, setI_3, upd_same, upd_upd, ite_true, ite_false, exists_eq', eq_self, and_assoc, rIsS, isTy_bb, isTy_bi, isTy_ib, isTy_ii, isTy_ss, isTy_nb, isTy_ni, Bool.not_true, Bool.not_false, not_true_eq_false, not_false_eq_true]
        have hlt : i < (cl x).length := by omega
        have hat : x.cps[((0 : Int) + (i : Int)).toNat]? = some ((cl x)[i]) := by
          rw [Int.zero_add, Int.toNat_natCast, at_cl, List.getElem?_eq_getElem hlt]
        have hget : (cl x)[i]? = some ((cl x)[i]) := List.getElem?_eq_getElem hlt
        have next : charOk i ((cl x)[i]) → ∀ j c, j < i + 1 → (cl x)[j]? = some c → charOk j c := fun h j c hj hc => by
          by_cases e : j = i
          · subst e
            rw [hget] at hc
            rw [← Option.some.inj hc]
            exact h
          · exact hall j c (by omega) hc
        have bad : ¬ charOk i ((cl x)[i]) → Q (.bl false) H3 := fun h => no fun z => h (((nameOk_iff _).mp z).2.2 i _ hget)
        refine ⟨by omega, by omega, by omega, _, hat, rfl, sM, rfl, ite2 (fun h3 => ?_) (fun h3 => ?_)⟩
        · have h3' : ¬ isL ((cl x)[i]) = true := fun z => by
            rw [isL_M] at z
            exact h3 (of_decide_eq_true z)
          refine ite2 (fun h4 => bad ?_) (fun h4 => ⟨by omega, by omega, by omega, _, hat, ite2 (fun h5 => bad ?_) (fun h5 => ?_)⟩)
          · rintro (h | ⟨h, _⟩)
            · exact h3' h
            · exact h (by omega)
          · rintro (h | ⟨_, h⟩)
            · exact h3' h
            · exact h5 (of_decide_eq_true h)
          · exact ⟨rfl, next (Or.inr ⟨by omega, decide_eq_true (Classical.byContradiction h5)⟩)⟩
        · exact ⟨rfl, next (Or.inl (by rw [isL_M]; exact decide_eq_true (Classical.byContradiction h3)))⟩
      · rintro σ' H3 ⟨kk, rfl, rfl, hall⟩
        simp (config := { maxSteps := 4000000 }) only [tSeq, tNext, tDrop, tRet, tRetN, tIfS, tAsg, tTest, tAnd, tOr, tNot, tAndV, tOrV, tNotV, tIf, tOp, tUn, tVar, tC, tCB, tCons, tNil, tCall, tPart, tNoPart, tM0, tM1, tTup, tLst, tB, tIsN, tNotN, rI0, rI, rU, rEq, rNe, rAdd, gName, gTup, gCons, gNil, gSub, rSetL, rIxL, rIxT, rIxS, L2.start,
      List.map_cons, List.map_nil, List.cons_append, List.nil_append, List.append_nil, List.length_cons, List.length_nil, List.replicate, List.getElem?_cons_zero, List.getElem?_cons_succ, List.set_cons_zero, List.set_cons_succ, Nat.reduceAdd, Nat.reduceSub, Nat.sub_self, Nat.zero_add,
      Option.some.injEq, V.int.injEq, V.str.injEq, V.bl.injEq, V.ref.injEq, V.ty.injEq, List.cons.injEq, and_true, true_and, exists_eq_left, exists_eq_left', exists_eq_right, exists_and_left, exists_and_right, exists_const, decide_eq_true_eq, decide_eq_false_iff_not, if_true, if_false, reduceIte, Bool.false_eq_true, Bool.not_eq_true', sc_ii, sc_ss, sc_bb, str1, cx_K, lstAt, rIxM, rSetM, rLenM, atI_0, atI_1, atI_2, atI_3, setI_0, setI_1, setI_2, setI_3, upd_same, upd_upd, ite_true, ite_false, exists_eq', eq_self, and_assoc, rIsS, isTy_bb, isTy_bi, isTy_ib, isTy_ii, isTy_ss, isTy_nb, isTy_ni, Bool.not_true, Bool.not_false, not_true_eq_false, not_false_eq_true]
        have : nameOk (cl x) = true := (nameOk_iff _).mpr ⟨fun z => by rw [z] at hl; exact h1 (by rw [hl]; rfl), by omega, fun j c hc => hall j c (by have := (List.getElem?_eq_some_iff.mp hc).1; omega) hc⟩
        rw [this] at k
        exact k
end

def sp_name (K : PySem.W.Frag) : Sp := fun vs H Q _ => ∃ (p : Addr), vs = [.ref p] ∧ StAt K H p ∧ ∀ (x : Str) H', nameOk (cl x) = true → StAt K H' p → But p H H' → Q (.str x) H'
theorem sp_name_len {K vs H Q E} (h : sp_name K vs H Q E) : vs.length = (["state"] : List Str).length := by
  obtain ⟨_, rfl, _⟩ := h
  rfl
section
variable {P : Program} {w : World} {K : PySem.W.Frag} {mg : Str → Option Value} {base : Heap} {A : Ad}
theorem ok__law_name (T : Txt K mg A) : FnOk P w K mg base CX0 2 A.f__law_name A.d__law_name ["state"] (sp_name K) := by
  refine (T.F__law_name).ok sc__law_name (fun vs H Q E h => ?_) (fun cdv Ar outer s H vs Q E hr h => ?_)
  · exact sp_name_len h
  · have hu := hu_of hr
    refine ⟨_, (pss_cons (ps_asg (pe_op op_add pe_int (pe_call (ok__law_pick T) (hr.mono (by decide)) (by rfl) T.g__law_pick T.k__law_pick T.b__law_pick .nil pass0 (pa_cons (pv 0) (pa_cons pe_int pa_nil)))) (pg_name (i := 1) sc__law_name.nd rfl (Or.inl rfl)))
    (Evl.pss_cut (ps_if (pt_cmpR op_eq (pe_call (ok__law_pick T) (hr.mono (by decide)) (by rfl) T.g__law_pick T.k__law_pick T.b__law_pick .nil pass0 (pa_cons (pv 0) (pa_cons pe_int pa_nil))) pe_int (nomark _)) (pss_one (ps_asg (pe_op op_add pe_int (pe_call (ok__law_pick T) (hr.mono (by decide)) (by rfl) T.g__law_pick T.k__law_pick T.b__law_pick .nil pass0 (pa_cons (pv 0) (pa_cons pe_int pa_nil)))) (pg_name (i := 1) sc__law_name.nd rfl (Or.inl rfl)))) pss_nil)
    (pss_cons (ps_asg (pe_item_str (pe_call0 (ok__law_letters T) (hr.mono (by decide)) (by rfl) T.g__law_letters T.k__law_letters T.b__law_letters .nil pass0) (pe_call (ok__law_pick T) (hr.mono (by decide)) (by rfl) T.g__law_pick T.k__law_pick T.b__law_pick .nil pass0 (pa_cons (pv 0) (pa_cons pe_int pa_nil))) (fun _ _ => rfl)) (pg_name (i := 2) sc__law_name.nd rfl (Or.inl rfl)))
    (pss_cons (ps_for PassesOwn.never rfl (pi_range1 (by rfl) T.z_range (pa_cons (pe_op op_sub (pv 1) pe_int) pa_nil)) (pg_name (i := 3) sc__law_name.nd rfl (Or.inl rfl))
      (pss_one (ps_asg (pe_op op_add_str (pv 2) (pe_item_str (pe_op op_add_str (pe_call0 (ok__law_letters T) (hr.mono (by decide)) (by rfl) T.g__law_letters T.k__law_letters T.b__law_letters .nil pass0) pe_str) (pe_call (ok__law_pick T) (hr.mono (by decide)) (by rfl) T.g__law_pick T.k__law_pick T.b__law_pick .nil pass0 (pa_cons (pv 0) (pa_cons pe_int pa_nil))) (fun _ _ => rfl))) (pg_name (i := 2) sc__law_name.nd rfl (Or.inl rfl)))))
    (pss_one (ps_ret (pv 2))))))), ?_⟩
    obtain ⟨p, rfl, hp, k⟩ := h
    simp (config := { maxSteps := 4000000 }) only [tSeq, tNext, tDrop, tRet, tRetN, tIfS, tAsg, tTest, tAnd, tOr, tNot, tAndV, tOrV, tNotV, tIf, tOp, tUn, tVar, tC, tCB, tCons, tNil, tCall, tPart, tNoPart, tM0, tM1, tTup, tLst, tB, tIsN, tNotN, rI0, rI, rU, rEq, rNe, rAdd, gName, gTup, gCons, gNil, gSub, rSetL, rIxL, rIxT, rIxS, L2.start,
      List.map_cons, List.map_nil, List.cons_append, List.nil_append, List.append_nil, List.length_cons, List.length_nil, List.replicate, List.getElem?_cons_zero, List.getElem?_cons_succ, List.set_cons_zero, List.set_cons_succ, Nat.reduceAdd, Nat.reduceSub, Nat.sub_self, Nat.zero_add,
      Option.some.injEq, V.int.injEq, V.str.injEq, V.bl.injEq, V.ref.injEq, V.ty.injEq, List.cons.injEq, and_true, true_and, exists_eq_left, exists_eq_left', exists_eq_right, exists_and_left, exists_and_right, exists_const, decide_eq_true_eq, decide_eq_false_iff_not, if_true, if_false, reduceIte, Bool.false_eq_true, Bool.not_eq_true', sc_ii, sc_ss, sc_bb, str1, cx_K, lstAt, rIxM, rSetM, rLenM, atI_0, atI_1, atI_2, atI_3, setI_0, setI_1, setI_2, setI_3, upd_same, upd_upd, ite_true, ite_false, exists_eq', eq_self, and_assoc, rIsS, isTy_bb, isTy_bi, isTy_ib, isTy_ii, isTy_ss, isTy_nb, isTy_ni, Bool.not_true, Bool.not_false, not_true_eq_false, not_false_eq_true]
    refine ⟨p, 4, rfl, hp, by decide, by decide, fun d H1 hd0 hd1 hp1 hb1 => ⟨d, rfl, fun σ' H' => ∃ n : Int, σ' = [some (.ref p), some (.int n), none, none] ∧ 1 ≤ n ∧ n ≤ 32 ∧ StAt K H' p ∧ But p H H', ?_, ?_⟩⟩
    · simp (config := { maxSteps := 4000000 }) only [tSeq, tNext, tDrop, tRet, tRetN, tIfS, tAsg, tTest, tAnd, tOr, tNot, tAndV, tOrV, tNotV, tIf, tOp, tUn, tVar, tC, tCB, tCons, tNil, tCall, tPart, tNoPart, tM0, tM1, tTup, tLst, tB, tIsN, tNotN, rI0, rI, rU, rEq, rNe, rAdd, gName, gTup, gCons, gNil, gSub, rSetL, rIxL, rIxT, rIxS, L2.start,
      List.map_cons, List.map_nil, List.cons_append, List.nil_append, List.append_nil, List.length_cons, List.length_nil, List.replicate, List.getElem?_cons_zero, List.getElem?_cons_succ, List.set_cons_zero, List.set_cons_succ, Nat.reduceAdd, Nat.reduceSub, Nat.sub_self, Nat.zero_add,
      Option.some.injEq, V.int.injEq, V.str.injEq, V.bl.injEq, V.ref.injEq, V.ty.injEq, List.cons.injEq, and_true, true_and, exists_eq_left, exists_eq_left', exists_eq_right, exists_and_left, exists_and_right, exists_const, decide_eq_true_eq, decide_eq_false_iff_not, if_true, if_false, reduceIte, Bool.false_eq_true, Bool.not_eq_true', sc_ii, sc_ss, sc_bb, str1, cx_K, lstAt, rIxM, rSetM, rLenM, atI_0, atI_1, atI_2, atI_3, setI_0, setI_1, setI_2, setI_3, upd_same, upd_upd, ite_true, ite_false, exists_eq', eq_self, and_assoc, rIsS, isTy_bb, isTy_bi, isTy_ib, isTy_ii, isTy_ss, isTy_nb, isTy_ni, Bool.not_true, Bool.not_false, not_true_eq_false, not_false_eq_true]
      refine ⟨p, 8, rfl, hp1, by decide, by decide, fun d2 H2 hd20 hd21 hp2 hb2 => ?_⟩
      simp (config := { maxSteps := 4000000 }) only [tSeq, tNext, tDrop, tRet, tRetN, tIfS, tAsg, tTest, tAnd, tOr, tNot, tAndV, tOrV, tNotV, tIf, tOp, tUn, tVar, tC, tCB, tCons, tNil, tCall, tPart, tNoPart, tM0, tM1, tTup, tLst, tB, tIsN, tNotN, rI0, rI, rU, rEq, rNe, rAdd, gName, gTup, gCons, gNil, gSub, rSetL, rIxL, rIxT, rIxS, L2.start,
      List.map_cons, List.map_nil, List.cons_append, List.nil_append, List.append_nil, List.length_cons, List.length_nil, List.replicate, List.getElem?_cons_zero, List.getElem?_cons_succ, List.set_cons_zero, List.set_cons_succ, Nat.reduceAdd, Nat.reduceSub, Nat.sub_self, Nat.zero_add,
      Option.some.injEq, V.int.injEq, V.str.injEq, V.bl.injEq, V.ref.injEq, V.ty.injEq, List.cons.injEq, and_true, true_and, exists_eq_left, exists_eq_left', exists_eq_right, exists_and_left, exists_and_right, exists_const, decide_eq_true_eq, decide_eq_false_iff_not, if_true, if_false, reduceIte, Bool.false_eq_true, Bool.not_eq_true', sc_ii, sc_ss, sc_bb, str1, cx_K, lstAt, rIxM, rSetM, rLenM, atI_0, atI_1, atI_2, atI_3, setI_0, setI_1, setI_2, setI_3, upd_same, upd_upd, ite_true, ite_false, exists_eq', eq_self, and_assoc, rIsS, isTy_bb, isTy_bi, isTy_ib, isTy_ii, isTy_ss, isTy_nb, isTy_ni, Bool.not_true, Bool.not_false, not_true_eq_false, not_false_eq_true]
      refine ite2 (fun h1 => ?_) (fun h1 => ?_)
      · refine ⟨p, 32, rfl, hp2, by decide, by decide, fun d3 H3 hd30 hd31 hp3 hb3 => ?_⟩
        simp (config := { maxSteps := 4000000 }) only [tSeq, tNext, tDrop, tRet, tRetN, tIfS, tAsg, tTest, tAnd, tOr, tNot, tAndV, tOrV, tNotV, tIf, tOp, tUn, tVar, tC, tCB, tCons, tNil, tCall, tPart, tNoPart, tM0, tM1, tTup, tLst, tB, tIsN, tNotN, rI0, rI, rU, rEq, rNe, rAdd, gName, gTup, gCons, gNil, gSub, rSetL, rIxL, rIxT, rIxS, L2.start,
      List.map_cons, List.map_nil, List.cons_append, List.nil_append, List.append_nil, List.length_cons, List.length_nil, List.replicate, List.getElem?_cons_zero, List.getElem?_cons_succ, List.set_cons_zero, List.set_cons_succ, Nat.reduceAdd, Nat.reduceSub, Nat.sub_self, Nat.zero_add,
      Option.some.injEq, V.int.injEq, V.str.injEq, V.bl.injEq, V.ref.injEq, V.ty.injEq, List.cons.injEq, and_true, true_and, exists_eq_left, exists_eq_left', exists_eq_right, exists_and_left, exists_and_right, exists_const, decide_eq_true_eq, decide_eq_false_iff_not, if_true, if_false, reduceIte, Bool.false_eq_true, Bool.not_eq_true', sc_ii, sc_ss, sc_bb, str1, cx_K, lstAt, rIxM, rSetM, rLenM, atI_0, atI_1, atI_2, atI_3, setI_0, setI_1, setI_2, setI_3, upd_same, upd_upd, ite_true, ite_false, exists_eq', eq_self, and_assoc, rIsS, isTy_bb, isTy_bi, isTy_ib, isTy_ii, isTy_ss, isTy_nb, isTy_ni, Bool.not_true, Bool.not_false, not_true_eq_false, not_false_eq_true]
        exact ⟨by omega, by omega, hp3, (hb1.trans hb2).trans hb3⟩
      · exact ⟨by omega, by omega, hp2, hb1.trans hb2⟩
    · rintro σ' H' ⟨n, rfl, hn0, hn1, hpn, hbn⟩
      simp (config := { maxSteps := 4000000 }) only [tSeq, tNext, tDrop, tRet, tRetN, tIfS, tAsg, tTest, tAnd, tOr, tNot, tAndV, tOrV, tNotV, tIf, tOp, tUn, tVar, tC, tCB, tCons, tNil, tCall, tPart, tNoPart, tM0, tM1, tTup, tLst, tB, tIsN, tNotN, rI0, rI, rU, rEq, rNe, rAdd, gName, gTup, gCons, gNil, gSub, rSetL, rIxL, rIxT, rIxS, L2.start,
      List.map_cons, List.map_nil, List.cons_append, List.nil_append, List.append_nil, List.length_cons, List.length_nil, List.replicate, List.getElem?_cons_zero, List.getElem?_cons_succ, List.set_cons_zero, List.set_cons_succ, Nat.reduceAdd, Nat.reduceSub, Nat.sub_self, Nat.zero_add,
      Option.some.injEq, V.int.injEq, V.str.injEq, V.bl.injEq, V.ref.injEq, V.ty.injEq, List.cons.injEq, and_true, true_and, exists_eq_left, exists_eq_left', exists_eq_right, exists_and_left, exists_and_right, exists_const, decide_eq_true_eq, decide_eq_false_iff_not, if_true, if_false, reduceIte, Bool.false_eq_true, Bool.not_eq_true', sc_ii, sc_ss, sc_bb, str1, cx_K, lstAt, rIxM, rSetM, rLenM, atI_0, atI_1, atI_2, atI_3, setI_0, setI_1, setI_2, setI_3, upd_same, upd_upd, ite_true, ite_false, exists_eq', eq_self, and_assoc, rIsS, isTy_bb, isTy_bi, isTy_ib, isTy_ii, isTy_ss, isTy_nb, isTy_ni, Bool.not_true, Bool.not_false, not_true_eq_false, not_false_eq_true]
      refine ⟨rfl, p, 52, rfl, hpn, by decide, by decide, fun d2 H2 hd20 hd21 hp2 hb2 => ?_⟩
      have hM : (sM.length : Int) = 52 := by decide +kernel
      have hlt : d2.toNat < (cl sM).length := by
        rw [← len_cl]
        omega
      have hat : sM.cps[d2.toNat]? = some ((cl sM)[d2.toNat]) := by rw [at_cl, List.getElem?_eq_getElem hlt]
      have hmem : (cl sM)[d2.toNat] ∈ cl sM := List.getElem_mem hlt
      generalize (cl sM)[d2.toNat] = c at hat hmem
      have hL : isL c = true := by
        rw [isL_M]
        exact decide_eq_true hmem
      simp (config := { maxSteps := 4000000 }) only [tSeq, tNext, tDrop, tRet, tRetN, tIfS, tAsg, tTest, tAnd, tOr, tNot, tAndV, tOrV, tNotV, tIf, tOp, tUn, tVar, tC, tCB, tCons, tNil, tCall, tPart, tNoPart, tM0, tM1, tTup, tLst, tB, tIsN, tNotN, rI0, rI, rU, rEq, rNe, rAdd, gName, gTup, gCons, gNil, gSub, rSetL, rIxL, rIxT, rIxS, L2.start,
      List.map_cons, List.map_nil, List.cons_append, List.nil_append, List.append_nil, List.length_cons, List.length_nil, List.replicate, List.getElem?_cons_zero, List.getElem?_cons_succ, List.set_cons_zero, List.set_cons_succ, Nat.reduceAdd, Nat.reduceSub, Nat.sub_self, Nat.zero_add,
      Option.some.injEq, V.int.injEq, V.str.injEq, V.bl.injEq, V.ref.injEq, V.ty.injEq, List.cons.injEq, and_true, true_and, exists_eq_left, exists_eq_left', exists_eq_right, exists_and_left, exists_and_right, exists_const, decide_eq_true_eq, decide_eq_false_iff_not, if_true, if_false, reduceIte, Bool.false_eq_true, Bool.not_eq_true', sc_ii, sc_ss, sc_bb, str1, cx_K, lstAt, rIxM, rSetM, rLenM, atI_0, atI_1, atI_2, atI_3, setI_0, setI_1, setI_2, setI_3, upd_same, upd_upd, ite_true, ite_false, exists_eq', eq_self, and_assoc, rIsS, isTy_bb, isTy_bi, isTy_ib, isTy_ii, isTy_ss, isTy_nb, isTy_ni, Bool.not_true, Bool.not_false, not_true_eq_false, not_false_eq_true]
      refine ⟨hd20, by omega, by omega, c, hat, ?_⟩
      refine ⟨_, rfl, _, _, rfl, rfl, _, rfl, by omega, by omega, for_range (lo := 0) (n := (n - 1).toNat) (fun i σ' H' => ∃ (x : Str) (kk : Option V), σ' = [some (.ref p), some (.int n), some (.str x), kk] ∧ nameOk (cl x) = true ∧ (cl x).length = i + 1 ∧ StAt K H' p ∧ But p H H') ⟨⟨#[c]⟩, none, rfl, ?_, rfl, hp2, hbn.trans hb2⟩ ?_ ?_⟩
      · rw [nameOk_iff]
        refine ⟨by simp [cl], by show 1 ≤ 32; decide, fun j e he => ?_⟩
        have : j = 0 := by
          have := (List.getElem?_eq_some_iff.mp he).1
          have h1 : (cl (⟨#[c]⟩ : Str)).length = 1 := rfl
          omega
        subst this
        have e2 : c = e := Option.some.inj he
        rw [← e2]
        exact Or.inl hL
      · rintro i σ' H3 hi ⟨x, kk, rfl, hx, hxl, hp3, hb3⟩
        simp (config := { maxSteps := 4000000 }) only [tSeq, tNext, tDrop, tRet, tRetN, tIfS, tAsg, tTest, tAnd, tOr, tNot, tAndV, tOrV, tNotV, tIf, tOp, tUn, tVar, tC, tCB, tCons, tNil, tCall, tPart, tNoPart, tM0, tM1, tTup, tLst, tB, tIsN, tNotN, rI0, rI, rU, rEq, rNe, rAdd, gName, gTup, gCons, gNil, gSub, rSetL, rIxL, rIxT, rIxS, L2.start,
      List.map_cons, List.map_nil, List.cons_append, List.nil_append, List.append_nil, List.length_cons, List.length_nil, List.replicate, List.getElem?_cons_zero, List.getElem?_cons_succ, List.set_cons_zero, List.set_cons_succ, Nat.reduceAdd, Nat.reduceSub, Nat.sub_self, Nat.zero_add,
      Option.some.injEq, V.int.injEq, V.str.injEq, V.bl.injEq, V.ref.injEq, V.ty.injEq, List.cons.injEq, and_true, true_and, exists_eq_left, exists_eq_left', exists_eq_right, exists_and_left, exists_and_right, exists_const, decide_eq_true_eq, decide_eq_false_iff_not, if_true, if_false, reduceIte, Bool.false_eq_true, Bool.not_eq_true', sc_ii, sc_ss, sc_bb, str1, cx_K, lstAt, rIxM, rSetM, rLenM, atI_0, atI_1, atI_2, atI_3, setI_0, setI_1, setI_2, setI_3, upd_same, upd_upd, ite_true, ite_false, exists_eq', eq_self, and_assoc, rIsS, isTy_bb, isTy_bi, isTy_ib, isTy_ii, isTy_ss, isTy_nb, isTy_ni, Bool.not_true, Bool.not_false, not_true_eq_false, not_false_eq_true]
        refine ⟨rfl, sM, rfl, by decide, p, 62, rfl, hp3, by decide, by decide, fun d H4 hd0 hd1 hp4 hb4 => ?_⟩
        have hM2 : ((sM ++ sD).length : Int) = 62 := by decide +kernel
        have hlt2 : d.toNat < (cl (sM ++ sD)).length := by
          rw [← len_cl]
          omega
        have hat2 : (sM ++ sD).cps[d.toNat]? = some ((cl (sM ++ sD))[d.toNat]) := by rw [at_cl, List.getElem?_eq_getElem hlt2]
        have hmem2 : (cl (sM ++ sD))[d.toNat] ∈ cl (sM ++ sD) := List.getElem_mem hlt2
        generalize (cl (sM ++ sD))[d.toNat] = c2 at hat2 hmem2
        have hLD : isLD c2 = true := by
          rw [cl_append, List.mem_append] at hmem2
          rcases hmem2 with h | h
          · unfold isLD
            rw [isL_M, decide_eq_true h]
            rfl
          · unfold isLD isD
            rw [decide_eq_true h, Bool.or_true]
        simp (config := { maxSteps := 4000000 }) only [tSeq, tNext, tDrop, tRet, tRetN, tIfS, tAsg, tTest, tAnd, tOr, tNot, tAndV, tOrV, tNotV, tIf, tOp, tUn, tVar, tC, tCB, tCons, tNil, tCall, tPart, tNoPart, tM0, tM1, tTup, tLst, tB, tIsN, tNotN, rI0, rI, rU, rEq, rNe, rAdd, gName, gTup, gCons, gNil, gSub, rSetL, rIxL, rIxT, rIxS, L2.start,
      List.map_cons, List.map_nil, List.cons_append, List.nil_append, List.append_nil, List.length_cons, List.length_nil, List.replicate, List.getElem?_cons_zero, List.getElem?_cons_succ, List.set_cons_zero, List.set_cons_succ, Nat.reduceAdd, Nat.reduceSub, Nat.sub_self, Nat.zero_add,
      Option.some.injEq, V.int.injEq, V.str.injEq, V.bl.injEq, V.ref.injEq, V.ty.injEq, List.cons.injEq, and_true, true_and, exists_eq_left, exists_eq_left', exists_eq_right, exists_and_left, exists_and_right, exists_const, decide_eq_true_eq, decide_eq_false_iff_not, if_true, if_false, reduceIte, Bool.false_eq_true, Bool.not_eq_true', sc_ii, sc_ss, sc_bb, str1, cx_K, lstAt, rIxM, rSetM, rLenM, atI_0, atI_1, atI_2, atI_3, setI_0, setI_1, setI_2, setI_3, upd_same, upd_upd, ite_true, ite_false, exists_eq', eq_self, and_assoc, rIsS, isTy_bb, isTy_bi, isTy_ib, isTy_ii, isTy_ss, isTy_nb, isTy_ni, Bool.not_true, Bool.not_false, not_true_eq_false, not_false_eq_true]
        have hl1 := len_cl x
        have happ : cl (x ++ ⟨#[c2]⟩) = cl x ++ [c2] := cl_append _ _
        refine ⟨hd0, by omega, (show (d : Int) < ((sM ++ sD).length : Int) by omega), c2, hat2, ?_, ?_, ?_, hp4, hb3.trans hb4⟩
        · show x.length + 1 ≤ sizeLine
          have : (100 : Nat) ≤ sizeLine := by decide
          omega
        · rw [nameOk_iff] at hx ⊢
          rw [happ]
          refine ⟨by simp, by rw [List.length_append]; show (cl x).length + 1 ≤ 32; omega, fun j e he => ?_⟩
          by_cases hj : j < (cl x).length
          · rw [List.getElem?_append_left hj] at he
            exact hx.2.2 j e he
          · rw [List.getElem?_append_right (by omega)] at he
            have hj0 : j - (cl x).length = 0 := by
              have := (List.getElem?_eq_some_iff.mp he).1
              have h1 : ([c2] : List Nat).length = 1 := rfl
              omega
            rw [hj0] at he
            have e2 : c2 = e := Option.some.inj he
            subst e2
            unfold isLD at hLD
            rcases Bool.or_eq_true_iff.mp hLD with h | h
            · exact Or.inl h
            · exact Or.inr ⟨by omega, h⟩
        · rw [happ, List.length_append, hxl]
          rfl
      · rintro σ' H3 ⟨x, kk, rfl, hx, hxl, hp3, hb3⟩
        simp (config := { maxSteps := 4000000 }) only [tSeq, tNext, tDrop, tRet, tRetN, tIfS, tAsg, tTest, tAnd, tOr, tNot, tAndV, tOrV, tNotV, tIf, tOp, tUn, tVar, tC, tCB, tCons, tNil, tCall, tPart, tNoPart, tM0, tM1, tTup, tLst, tB, tIsN, tNotN, rI0, rI, rU, rEq, rNe, rAdd, gName, gTup, gCons, gNil, gSub, rSetL, rIxL, rIxT, rIxS, L2.start,
      List.map_cons, List.map_nil, List.cons_append, List.nil_append, List.append_nil, List.length_cons, List.length_nil, List.replicate, List.getElem?_cons_zero, List.getElem?_cons_succ, List.set_cons_zero, List.set_cons_succ, Nat.reduceAdd, Nat.reduceSub, Nat.sub_self, Nat.zero_add,
      Option.some.injEq, V.int.injEq, V.str.injEq, V.bl.injEq, V.ref.injEq, V.ty.injEq, List.cons.injEq, and_true, true_and, exists_eq_left, exists_eq_left', exists_eq_right, exists_and_left, exists_and_right, exists_const, decide_eq_true_eq, decide_eq_false_iff_not, if_true, if_false, reduceIte, Bool.false_eq_true, Bool.not_eq_true', sc_ii, sc_ss, sc_bb, str1, cx_K, lstAt, rIxM, rSetM, rLenM, atI_0, atI_1, atI_2, atI_3, setI_0, setI_1, setI_2, setI_3, upd_same, upd_upd, ite_true, ite_false, exists_eq', eq_self, and_assoc, rIsS, isTy_bb, isTy_bi, isTy_ib, isTy_ii, isTy_ss, isTy_nb, isTy_ni, Bool.not_true, Bool.not_false, not_true_eq_false, not_false_eq_true]
        exact k x H3 hx hp3 hb3
end

theorem sign_not_L : ∀ c ∈ cl sS, isLD c = false := by decide +kernel
theorem cnt_free : ∀ l : List Nat, (∀ c ∈ l, isLD c = true) → PyProof.Rows.cnt 58 l = 0 := fun l h => PyProof.Rows.cnt_none 58 l fun hm => by
  have := h 58 hm
  have h2 : isLD 58 = false := by decide +kernel
  rw [h2] at this
  cases this
theorem nameOk_LD {l : List Nat} (h : nameOk l = true) : ∀ c ∈ l, isLD c = true := fun c hc => by
  obtain ⟨j, hj⟩ := List.getElem?_of_mem hc
  rcases ((nameOk_iff _).mp h).2.2 j c hj with h0 | h0
  · unfold isLD
    rw [h0]
    rfl
  · unfold isLD
    rw [h0.2, Bool.or_true]
theorem sign_name {l r : List Nat} (h : nameOk l = true) : signB (l ++ r) = false := by
  cases l with
  | nil => exact absurd h (by decide)
  | cons c t =>
    refine decide_eq_false fun hm => ?_
    have h1 := sign_not_L c hm
    have h2 := nameOk_LD h c (List.mem_cons_self ..)
    rw [h1] at h2
    cases h2
theorem arity_name {l : List Nat} (h : nameOk l = true) : arityL l = 0 := by
  have e := sign_name (r := []) h
  rw [List.append_nil] at e
  unfold arityL
  rw [e, if_neg Bool.false_ne_true]
  exact cnt_free l (nameOk_LD h)
def sp_selector (K : PySem.W.Frag) : Sp := fun vs H Q _ => ∃ (p : Addr), vs = [.ref p] ∧ StAt K H p ∧ ∀ (x : Str) (n : Int) (t : Addr) H' H'', x.length ≤ 1000 → arityL (cl x) = n → StAt K H' p → But p H H' → H' t = none → H'' = upd H' t (.tup [.str x, .int n]) → Q (.ref t) H''
theorem sp_selector_len {K vs H Q E} (h : sp_selector K vs H Q E) : vs.length = (["state"] : List Str).length := by
  obtain ⟨_, rfl, _⟩ := h
  rfl
section
variable {P : Program} {w : World} {K : PySem.W.Frag} {mg : Str → Option Value} {base : Heap} {A : Ad}
theorem ok__law_selector (T : Txt K mg A) : FnOk P w K mg base CX0 3 A.f__law_selector A.d__law_selector ["state"] (sp_selector K) := by
  refine (T.F__law_selector).ok sc__law_selector (fun vs H Q E h => ?_) (fun cdv Ar outer s H vs Q E hr h => ?_)
  · exact sp_selector_len h
  · have hu := hu_of hr
    refine ⟨_, (pss_cons (ps_asg (pe_call (ok__law_pick T) (hr.mono (by decide)) (by rfl) T.g__law_pick T.k__law_pick T.b__law_pick .nil pass0 (pa_cons (pv 0) (pa_cons pe_int pa_nil))) (pg_name (i := 1) sc__law_selector.nd rfl (Or.inl rfl)))
    (pss_cons (ps_if (pt_cmpR op_eq (pv 1) pe_int (nomark _)) (pss_one (ps_ret (pe_tup (pa_cons (pe_call (ok__law_name T) (hr.mono (by decide)) (by rfl) T.g__law_name T.k__law_name T.b__law_name .nil pass0 (pa_cons (pv 0) pa_nil)) (pa_cons pe_int pa_nil))))) pss_nil)
    (pss_cons (ps_if (pt_cmpR op_eq (pv 1) pe_int (nomark _)) (pss_cons (ps_asg pe_str (pg_name (i := 2) sc__law_selector.nd rfl (Or.inl rfl)))
    (pss_cons (ps_for PassesOwn.never rfl (pi_range1 (by rfl) T.z_range (pa_cons (pe_op op_add pe_int (pe_call (ok__law_pick T) (hr.mono (by decide)) (by rfl) T.g__law_pick T.k__law_pick T.b__law_pick .nil pass0 (pa_cons (pv 0) (pa_cons pe_int pa_nil)))) pa_nil)) (pg_name (i := 3) sc__law_selector.nd rfl (Or.inl rfl))
      (pss_one (ps_asg (pe_op op_add_str (pv 2) (pe_item_str pe_str (pe_call (ok__law_pick T) (hr.mono (by decide)) (by rfl) T.g__law_pick T.k__law_pick T.b__law_pick .nil pass0 (pa_cons (pv 0) (pa_cons pe_int pa_nil))) (fun _ _ => rfl))) (pg_name (i := 2) sc__law_selector.nd rfl (Or.inl rfl)))))
    (pss_one (ps_ret (pe_tup (pa_cons (pv 2) (pa_cons pe_int pa_nil))))))) pss_nil)
    (pss_cons (ps_asg (pe_op op_add pe_int (pe_call (ok__law_pick T) (hr.mono (by decide)) (by rfl) T.g__law_pick T.k__law_pick T.b__law_pick .nil pass0 (pa_cons (pv 0) (pa_cons pe_int pa_nil)))) (pg_name (i := 4) sc__law_selector.nd rfl (Or.inl rfl)))
    (Evl.pss_cut (ps_if (pt_cmpR op_eq (pe_call (ok__law_pick T) (hr.mono (by decide)) (by rfl) T.g__law_pick T.k__law_pick T.b__law_pick .nil pass0 (pa_cons (pv 0) (pa_cons pe_int pa_nil))) pe_int (nomark _)) (pss_one (ps_asg (pe_op op_add pe_int (pe_call (ok__law_pick T) (hr.mono (by decide)) (by rfl) T.g__law_pick T.k__law_pick T.b__law_pick .nil pass0 (pa_cons (pv 0) (pa_cons pe_int pa_nil)))) (pg_name (i := 4) sc__law_selector.nd rfl (Or.inl rfl)))) pss_nil)
    (pss_cons (ps_asg pe_str (pg_name (i := 2) sc__law_selector.nd rfl (Or.inl rfl)))
    (pss_cons (ps_for PassesOwn.never rfl (pi_range1 (by rfl) T.z_range (pa_cons (pv 4) pa_nil)) (pg_name (i := 3) sc__law_selector.nd rfl (Or.inl rfl))
      (pss_one (ps_asg (pe_op op_add_str (pe_op op_add_str (pv 2) (pe_call (ok__law_name T) (hr.mono (by decide)) (by rfl) T.g__law_name T.k__law_name T.b__law_name .nil pass0 (pa_cons (pv 0) pa_nil))) pe_str) (pg_name (i := 2) sc__law_selector.nd rfl (Or.inl rfl)))))
    (pss_one (ps_ret (pe_tup (pa_cons (pv 2) (pa_cons (pv 4) pa_nil)))))))))))), ?_⟩
    obtain ⟨p, rfl, hp, k⟩ := h
    simp (config := { maxSteps := 4000000 }) only [tSeq, tNext, tDrop, tRet, tRetN, tIfS, tAsg, tTest, tAnd, tOr, tNot, tAndV, tOrV, tNotV, tIf, tOp, tUn, tVar, tC, tCB, tCons, tNil, tCall, tPart, tNoPart, tM0, tM1, tTup, tLst, tB, tIsN, tNotN, rI0, rI, rU, rEq, rNe, rAdd, gName, gTup, gCons, gNil, gSub, rSetL, rIxL, rIxT, rIxS, L2.start,
      List.map_cons, List.map_nil, List.cons_append, List.nil_append, List.append_nil, List.length_cons, List.length_nil, List.replicate, List.getElem?_cons_zero, List.getElem?_cons_succ, List.set_cons_zero, List.set_cons_succ, Nat.reduceAdd, Nat.reduceSub, Nat.sub_self, Nat.zero_add,
      Option.some.injEq, V.int.injEq, V.str.injEq, V.bl.injEq, V.ref.injEq, V.ty.injEq, List.cons.injEq, and_true, true_and, exists_eq_left, exists_eq_left', exists_eq_right, exists_and_left, exists_and_right, exists_const, decide_eq_true_eq, decide_eq_false_iff_not, if_true, if_false, reduceIte, Bool.false_eq_true, Bool.not_eq_true', sc_ii, sc_ss, sc_bb, str1, cx_K, lstAt, rIxM, rSetM, rLenM, atI_0, atI_1, atI_2, atI_3, setI_0, setI_1, setI_2, setI_3, upd_same, upd_upd, ite_true, ite_false, exists_eq', eq_self, and_assoc, rIsS, isTy_bb, isTy_bi, isTy_ib, isTy_ii, isTy_ss, isTy_nb, isTy_ni, Bool.not_true, Bool.not_false, not_true_eq_false, not_false_eq_true]
    refine ⟨p, 3, rfl, hp, by decide, by decide, fun d H1 hd0 hd1 hp1 hb1 => ⟨rfl, ite2 (fun h1 => ?_) (fun h1 => ⟨rfl, ite2 (fun h2 => ?_) (fun h2 => ?_)⟩)⟩⟩
    · -- a name
      refine ⟨p, rfl, hp1, fun x H2 hx hp2 hb2 => ⟨by decide, fun t ht => ?_⟩⟩
      refine k x 0 t H2 _ ?_ ?_ hp2 (hb1.trans hb2) ht rfl
      · have := ((nameOk_iff _).mp hx).2.1
        rw [len_cl]
        omega
      · exact arity_name hx
    · -- a sign
      refine ⟨_, rfl, p, 2, rfl, hp1, by decide, by decide, fun d2 H2 hd20 hd21 hp2 hb2 => ⟨_, _, rfl, rfl, _, rfl, by omega, by omega, for_range (lo := 0) (n := (1 + d2).toNat) (fun i σ' H' => ∃ (x : Str) (kk : Option V), σ' = [some (.ref p), some (.int d), some (.str x), kk, none] ∧ (cl x).length = i ∧ (∀ c ∈ cl x, c ∈ cl sS) ∧ StAt K H' p ∧ But p H H') ⟨"", none, rfl, rfl, (fun c (hc : c ∈ ([] : List Nat)) => absurd hc List.not_mem_nil), hp2, hb1.trans hb2⟩ ?_ ?_⟩⟩
      · rintro i σ' H3 hi ⟨x, kk, rfl, hx, hxs, hp3, hb3⟩
        simp (config := { maxSteps := 4000000 }) only [tSeq, tNext, tDrop, tRet, tRetN, tIfS, tAsg, tTest, tAnd, tOr, tNot, tAndV, tOrV, tNotV, tIf, tOp, tUn, tVar, tC, tCB, tCons, tNil, tCall, tPart, tNoPart, tM0, tM1, tTup, tLst, tB, tIsN, tNotN, rI0, rI, rU, rEq, rNe, rAdd, gName, gTup, gCons, gNil, gSub, rSetL, rIxL, rIxT, rIxS, L2.start,
      List.map_cons, List.map_nil, List.cons_append, List.nil_append, List.append_nil, List.length_cons, List.length_nil, List.replicate, List.getElem?_cons_zero, List.getElem?_cons_succ, List.set_cons_zero, List.set_cons_succ, Nat.reduceAdd, Nat.reduceSub, Nat.sub_self, Nat.zero_add,
      Option.some.injEq, V.int.injEq, V.str.injEq, V.bl.injEq, V.ref.injEq, V.ty.injEq, List.cons.injEq, and_true, true_and, exists_eq_left, exists_eq_left', exists_eq_right, exists_and_left, exists_and_right, exists_const, decide_eq_true_eq, decide_eq_false_iff_not, if_true, if_false, reduceIte, Bool.false_eq_true, Bool.not_eq_true', sc_ii, sc_ss, sc_bb, str1, cx_K, lstAt, rIxM, rSetM, rLenM, atI_0, atI_1, atI_2, atI_3, setI_0, setI_1, setI_2, setI_3, upd_same, upd_upd, ite_true, ite_false, exists_eq', eq_self, and_assoc, rIsS, isTy_bb, isTy_bi, isTy_ib, isTy_ii, isTy_ss, isTy_nb, isTy_ni, Bool.not_true, Bool.not_false, not_true_eq_false, not_false_eq_true]
        refine ⟨p, 11, rfl, hp3, by decide, by decide, fun d3 H4 hd0 hd1 hp4 hb4 => ?_⟩
        have hS : (sS.length : Int) = 11 := by decide +kernel
        have hlt : d3.toNat < (cl sS).length := by
          rw [← len_cl]
          omega
        have hat : sS.cps[d3.toNat]? = some ((cl sS)[d3.toNat]) := by rw [at_cl, List.getElem?_eq_getElem hlt]
        have hmem : (cl sS)[d3.toNat] ∈ cl sS := List.getElem_mem hlt
        generalize (cl sS)[d3.toNat] = c at hat hmem
        simp (config := { maxSteps := 4000000 }) only [tSeq, tNext, tDrop, tRet, tRetN, tIfS, tAsg, tTest, tAnd, tOr, tNot, tAndV, tOrV, tNotV, tIf, tOp, tUn, tVar, tC, tCB, tCons, tNil, tCall, tPart, tNoPart, tM0, tM1, tTup, tLst, tB, tIsN, tNotN, rI0, rI, rU, rEq, rNe, rAdd, gName, gTup, gCons, gNil, gSub, rSetL, rIxL, rIxT, rIxS, L2.start,
      List.map_cons, List.map_nil, List.cons_append, List.nil_append, List.append_nil, List.length_cons, List.length_nil, List.replicate, List.getElem?_cons_zero, List.getElem?_cons_succ, List.set_cons_zero, List.set_cons_succ, Nat.reduceAdd, Nat.reduceSub, Nat.sub_self, Nat.zero_add,
      Option.some.injEq, V.int.injEq, V.str.injEq, V.bl.injEq, V.ref.injEq, V.ty.injEq, List.cons.injEq, and_true, true_and, exists_eq_left, exists_eq_left', exists_eq_right, exists_and_left, exists_and_right, exists_const, decide_eq_true_eq, decide_eq_false_iff_not, if_true, if_false, reduceIte, Bool.false_eq_true, Bool.not_eq_true', sc_ii, sc_ss, sc_bb, str1, cx_K, lstAt, rIxM, rSetM, rLenM, atI_0, atI_1, atI_2, atI_3, setI_0, setI_1, setI_2, setI_3, upd_same, upd_upd, ite_true, ite_false, exists_eq', eq_self, and_assoc, rIsS, isTy_bb, isTy_bi, isTy_ib, isTy_ii, isTy_ss, isTy_nb, isTy_ni, Bool.not_true, Bool.not_false, not_true_eq_false, not_false_eq_true]
        have hl := len_cl x
        refine ⟨hd0, by omega, (show (d3 : Int) < (sS.length : Int) by omega), c, hat, ?_, ?_, ?_, hp4, hb3.trans hb4⟩
        · show x.length + 1 ≤ sizeLine
          have : (100 : Nat) ≤ sizeLine := by decide
          omega
        · rw [cl_append, List.length_append, hx]
          rfl
        · intro e he
          rw [cl_append, List.mem_append] at he
          rcases he with he | he
          · exact hxs e he
          · have : e = c := by simpa [cl] using he
            rw [this]
            exact hmem
      · rintro σ' H3 ⟨x, kk, rfl, hx, hxs, hp3, hb3⟩
        simp (config := { maxSteps := 4000000 }) only [tSeq, tNext, tDrop, tRet, tRetN, tIfS, tAsg, tTest, tAnd, tOr, tNot, tAndV, tOrV, tNotV, tIf, tOp, tUn, tVar, tC, tCB, tCons, tNil, tCall, tPart, tNoPart, tM0, tM1, tTup, tLst, tB, tIsN, tNotN, rI0, rI, rU, rEq, rNe, rAdd, gName, gTup, gCons, gNil, gSub, rSetL, rIxL, rIxT, rIxS, L2.start,
      List.map_cons, List.map_nil, List.cons_append, List.nil_append, List.append_nil, List.length_cons, List.length_nil, List.replicate, List.getElem?_cons_zero, List.getElem?_cons_succ, List.set_cons_zero, List.set_cons_succ, Nat.reduceAdd, Nat.reduceSub, Nat.sub_self, Nat.zero_add,
      Option.some.injEq, V.int.injEq, V.str.injEq, V.bl.injEq, V.ref.injEq, V.ty.injEq, List.cons.injEq, and_true, true_and, exists_eq_left, exists_eq_left', exists_eq_right, exists_and_left, exists_and_right, exists_const, decide_eq_true_eq, decide_eq_false_iff_not, if_true, if_false, reduceIte, Bool.false_eq_true, Bool.not_eq_true', sc_ii, sc_ss, sc_bb, str1, cx_K, lstAt, rIxM, rSetM, rLenM, atI_0, atI_1, atI_2, atI_3, setI_0, setI_1, setI_2, setI_3, upd_same, upd_upd, ite_true, ite_false, exists_eq', eq_self, and_assoc, rIsS, isTy_bb, isTy_bi, isTy_ib, isTy_ii, isTy_ss, isTy_nb, isTy_ni, Bool.not_true, Bool.not_false, not_true_eq_false, not_false_eq_true]
        refine ⟨by decide, fun t ht => k x 1 t H3 _ ?_ ?_ hp3 hb3 ht rfl⟩
        · have := len_cl x
          omega
        · have hs : signB (cl x) = true := by
            cases hc : cl x with
            | nil =>
              rw [hc] at hx
              have h0 : (0 : Nat) = (1 + d2).toNat := hx
              omega
            | cons c r => exact decide_eq_true (hxs c (by rw [hc]; exact List.mem_cons_self ..))
          unfold arityL
          rw [if_pos hs]
    · -- keywords
      refine ⟨p, 3, rfl, hp1, by decide, by decide, fun d2 H2 hd20 hd21 hp2 hb2 => ?_⟩
      simp (config := { maxSteps := 4000000 }) only [tSeq, tNext, tDrop, tRet, tRetN, tIfS, tAsg, tTest, tAnd, tOr, tNot, tAndV, tOrV, tNotV, tIf, tOp, tUn, tVar, tC, tCB, tCons, tNil, tCall, tPart, tNoPart, tM0, tM1, tTup, tLst, tB, tIsN, tNotN, rI0, rI, rU, rEq, rNe, rAdd, gName, gTup, gCons, gNil, gSub, rSetL, rIxL, rIxT, rIxS, L2.start,
      List.map_cons, List.map_nil, List.cons_append, List.nil_append, List.append_nil, List.length_cons, List.length_nil, List.replicate, List.getElem?_cons_zero, List.getElem?_cons_succ, List.set_cons_zero, List.set_cons_succ, Nat.reduceAdd, Nat.reduceSub, Nat.sub_self, Nat.zero_add,
      Option.some.injEq, V.int.injEq, V.str.injEq, V.bl.injEq, V.ref.injEq, V.ty.injEq, List.cons.injEq, and_true, true_and, exists_eq_left, exists_eq_left', exists_eq_right, exists_and_left, exists_and_right, exists_const, decide_eq_true_eq, decide_eq_false_iff_not, if_true, if_false, reduceIte, Bool.false_eq_true, Bool.not_eq_true', sc_ii, sc_ss, sc_bb, str1, cx_K, lstAt, rIxM, rSetM, rLenM, atI_0, atI_1, atI_2, atI_3, setI_0, setI_1, setI_2, setI_3, upd_same, upd_upd, ite_true, ite_false, exists_eq', eq_self, and_assoc, rIsS, isTy_bb, isTy_bi, isTy_ib, isTy_ii, isTy_ss, isTy_nb, isTy_ni, Bool.not_true, Bool.not_false, not_true_eq_false, not_false_eq_true]
      refine ⟨fun σ' H' => ∃ n : Int, σ' = [some (.ref p), some (.int d), none, none, some (.int n)] ∧ 1 ≤ n ∧ n ≤ 15 ∧ StAt K H' p ∧ But p H H', ?_, ?_⟩
      · simp (config := { maxSteps := 4000000 }) only [tSeq, tNext, tDrop, tRet, tRetN, tIfS, tAsg, tTest, tAnd, tOr, tNot, tAndV, tOrV, tNotV, tIf, tOp, tUn, tVar, tC, tCB, tCons, tNil, tCall, tPart, tNoPart, tM0, tM1, tTup, tLst, tB, tIsN, tNotN, rI0, rI, rU, rEq, rNe, rAdd, gName, gTup, gCons, gNil, gSub, rSetL, rIxL, rIxT, rIxS, L2.start,
      List.map_cons, List.map_nil, List.cons_append, List.nil_append, List.append_nil, List.length_cons, List.length_nil, List.replicate, List.getElem?_cons_zero, List.getElem?_cons_succ, List.set_cons_zero, List.set_cons_succ, Nat.reduceAdd, Nat.reduceSub, Nat.sub_self, Nat.zero_add,
      Option.some.injEq, V.int.injEq, V.str.injEq, V.bl.injEq, V.ref.injEq, V.ty.injEq, List.cons.injEq, and_true, true_and, exists_eq_left, exists_eq_left', exists_eq_right, exists_and_left, exists_and_right, exists_const, decide_eq_true_eq, decide_eq_false_iff_not, if_true, if_false, reduceIte, Bool.false_eq_true, Bool.not_eq_true', sc_ii, sc_ss, sc_bb, str1, cx_K, lstAt, rIxM, rSetM, rLenM, atI_0, atI_1, atI_2, atI_3, setI_0, setI_1, setI_2, setI_3, upd_same, upd_upd, ite_true, ite_false, exists_eq', eq_self, and_assoc, rIsS, isTy_bb, isTy_bi, isTy_ib, isTy_ii, isTy_ss, isTy_nb, isTy_ni, Bool.not_true, Bool.not_false, not_true_eq_false, not_false_eq_true]
        refine ⟨p, 4, rfl, hp2, by decide, by decide, fun d3 H3 hd30 hd31 hp3 hb3 => ?_⟩
        simp (config := { maxSteps := 4000000 }) only [tSeq, tNext, tDrop, tRet, tRetN, tIfS, tAsg, tTest, tAnd, tOr, tNot, tAndV, tOrV, tNotV, tIf, tOp, tUn, tVar, tC, tCB, tCons, tNil, tCall, tPart, tNoPart, tM0, tM1, tTup, tLst, tB, tIsN, tNotN, rI0, rI, rU, rEq, rNe, rAdd, gName, gTup, gCons, gNil, gSub, rSetL, rIxL, rIxT, rIxS, L2.start,
      List.map_cons, List.map_nil, List.cons_append, List.nil_append, List.append_nil, List.length_cons, List.length_nil, List.replicate, List.getElem?_cons_zero, List.getElem?_cons_succ, List.set_cons_zero, List.set_cons_succ, Nat.reduceAdd, Nat.reduceSub, Nat.sub_self, Nat.zero_add,
      Option.some.injEq, V.int.injEq, V.str.injEq, V.bl.injEq, V.ref.injEq, V.ty.injEq, List.cons.injEq, and_true, true_and, exists_eq_left, exists_eq_left', exists_eq_right, exists_and_left, exists_and_right, exists_const, decide_eq_true_eq, decide_eq_false_iff_not, if_true, if_false, reduceIte, Bool.false_eq_true, Bool.not_eq_true', sc_ii, sc_ss, sc_bb, str1, cx_K, lstAt, rIxM, rSetM, rLenM, atI_0, atI_1, atI_2, atI_3, setI_0, setI_1, setI_2, setI_3, upd_same, upd_upd, ite_true, ite_false, exists_eq', eq_self, and_assoc, rIsS, isTy_bb, isTy_bi, isTy_ib, isTy_ii, isTy_ss, isTy_nb, isTy_ni, Bool.not_true, Bool.not_false, not_true_eq_false, not_false_eq_true]
        refine ite2 (fun h1 => ?_) (fun h1 => ?_)
        · refine ⟨p, 15, rfl, hp3, by decide, by decide, fun d4 H4 hd40 hd41 hp4 hb4 => ?_⟩
          simp (config := { maxSteps := 4000000 }) only [tSeq, tNext, tDrop, tRet, tRetN, tIfS, tAsg, tTest, tAnd, tOr, tNot, tAndV, tOrV, tNotV, tIf, tOp, tUn, tVar, tC, tCB, tCons, tNil, tCall, tPart, tNoPart, tM0, tM1, tTup, tLst, tB, tIsN, tNotN, rI0, rI, rU, rEq, rNe, rAdd, gName, gTup, gCons, gNil, gSub, rSetL, rIxL, rIxT, rIxS, L2.start,
      List.map_cons, List.map_nil, List.cons_append, List.nil_append, List.append_nil, List.length_cons, List.length_nil, List.replicate, List.getElem?_cons_zero, List.getElem?_cons_succ, List.set_cons_zero, List.set_cons_succ, Nat.reduceAdd, Nat.reduceSub, Nat.sub_self, Nat.zero_add,
      Option.some.injEq, V.int.injEq, V.str.injEq, V.bl.injEq, V.ref.injEq, V.ty.injEq, List.cons.injEq, and_true, true_and, exists_eq_left, exists_eq_left', exists_eq_right, exists_and_left, exists_and_right, exists_const, decide_eq_true_eq, decide_eq_false_iff_not, if_true, if_false, reduceIte, Bool.false_eq_true, Bool.not_eq_true', sc_ii, sc_ss, sc_bb, str1, cx_K, lstAt, rIxM, rSetM, rLenM, atI_0, atI_1, atI_2, atI_3, setI_0, setI_1, setI_2, setI_3, upd_same, upd_upd, ite_true, ite_false, exists_eq', eq_self, and_assoc, rIsS, isTy_bb, isTy_bi, isTy_ib, isTy_ii, isTy_ss, isTy_nb, isTy_ni, Bool.not_true, Bool.not_false, not_true_eq_false, not_false_eq_true]
          exact ⟨by omega, by omega, hp4, ((hb1.trans hb2).trans hb3).trans hb4⟩
        · exact ⟨by omega, by omega, hp3, (hb1.trans hb2).trans hb3⟩
      · rintro σ' H3 ⟨n, rfl, hn0, hn1, hp3, hb3⟩
        simp (config := { maxSteps := 4000000 }) only [tSeq, tNext, tDrop, tRet, tRetN, tIfS, tAsg, tTest, tAnd, tOr, tNot, tAndV, tOrV, tNotV, tIf, tOp, tUn, tVar, tC, tCB, tCons, tNil, tCall, tPart, tNoPart, tM0, tM1, tTup, tLst, tB, tIsN, tNotN, rI0, rI, rU, rEq, rNe, rAdd, gName, gTup, gCons, gNil, gSub, rSetL, rIxL, rIxT, rIxS, L2.start,
      List.map_cons, List.map_nil, List.cons_append, List.nil_append, List.append_nil, List.length_cons, List.length_nil, List.replicate, List.getElem?_cons_zero, List.getElem?_cons_succ, List.set_cons_zero, List.set_cons_succ, Nat.reduceAdd, Nat.reduceSub, Nat.sub_self, Nat.zero_add,
      Option.some.injEq, V.int.injEq, V.str.injEq, V.bl.injEq, V.ref.injEq, V.ty.injEq, List.cons.injEq, and_true, true_and, exists_eq_left, exists_eq_left', exists_eq_right, exists_and_left, exists_and_right, exists_const, decide_eq_true_eq, decide_eq_false_iff_not, if_true, if_false, reduceIte, Bool.false_eq_true, Bool.not_eq_true', sc_ii, sc_ss, sc_bb, str1, cx_K, lstAt, rIxM, rSetM, rLenM, atI_0, atI_1, atI_2, atI_3, setI_0, setI_1, setI_2, setI_3, upd_same, upd_upd, ite_true, ite_false, exists_eq', eq_self, and_assoc, rIsS, isTy_bb, isTy_bi, isTy_ib, isTy_ii, isTy_ss, isTy_nb, isTy_ni, Bool.not_true, Bool.not_false, not_true_eq_false, not_false_eq_true]
        refine ⟨_, rfl, _, rfl, by omega, by omega, for_range (lo := 0) (n := n.toNat) (fun i σ' H' => ∃ (x : Str) (kk : Option V), σ' = [some (.ref p), some (.int d), some (.str x), kk, some (.int n)] ∧ x.length ≤ 33 * i ∧ PyProof.Rows.cnt 58 (cl x) = i ∧ signB (cl x) = false ∧ StAt K H' p ∧ But p H H') ⟨"", none, rfl, by decide, rfl, rfl, hp3, hb3⟩ ?_ ?_⟩
        · rintro i σ' H4 hi ⟨x, kk, rfl, hx, hxc, hxs, hp4, hb4⟩
          simp (config := { maxSteps := 4000000 }) only [tSeq, tNext, tDrop, tRet, tRetN, tIfS, tAsg, tTest, tAnd, tOr, tNot, tAndV, tOrV, tNotV, tIf, tOp, tUn, tVar, tC, tCB, tCons, tNil, tCall, tPart, tNoPart, tM0, tM1, tTup, tLst, tB, tIsN, tNotN, rI0, rI, rU, rEq, rNe, rAdd, gName, gTup, gCons, gNil, gSub, rSetL, rIxL, rIxT, rIxS, L2.start,
      List.map_cons, List.map_nil, List.cons_append, List.nil_append, List.append_nil, List.length_cons, List.length_nil, List.replicate, List.getElem?_cons_zero, List.getElem?_cons_succ, List.set_cons_zero, List.set_cons_succ, Nat.reduceAdd, Nat.reduceSub, Nat.sub_self, Nat.zero_add,
      Option.some.injEq, V.int.injEq, V.str.injEq, V.bl.injEq, V.ref.injEq, V.ty.injEq, List.cons.injEq, and_true, true_and, exists_eq_left, exists_eq_left', exists_eq_right, exists_and_left, exists_and_right, exists_const, decide_eq_true_eq, decide_eq_false_iff_not, if_true, if_false, reduceIte, Bool.false_eq_true, Bool.not_eq_true', sc_ii, sc_ss, sc_bb, str1, cx_K, lstAt, rIxM, rSetM, rLenM, atI_0, atI_1, atI_2, atI_3, setI_0, setI_1, setI_2, setI_3, upd_same, upd_upd, ite_true, ite_false, exists_eq', eq_self, and_assoc, rIsS, isTy_bb, isTy_bi, isTy_ib, isTy_ii, isTy_ss, isTy_nb, isTy_ni, Bool.not_true, Bool.not_false, not_true_eq_false, not_false_eq_true]
          refine ⟨p, rfl, hp4, fun y H5 hy hp5 hb5 => ?_⟩
          have hy32 : y.length ≤ 32 := by
            rw [len_cl]
            exact ((nameOk_iff _).mp hy).2.1
          have hsz : (1000 : Nat) ≤ sizeLine := by decide
          have hlen : (x ++ y).length = x.length + y.length := by
            rw [len_cl, len_cl, len_cl, cl_append, List.length_append]
          have happ : cl (x ++ y ++ Str.ofString ":") = cl x ++ (cl y ++ [58]) := by
            rw [cl_append, cl_append, List.append_assoc]
            rfl
          simp (config := { maxSteps := 4000000 }) only [tSeq, tNext, tDrop, tRet, tRetN, tIfS, tAsg, tTest, tAnd, tOr, tNot, tAndV, tOrV, tNotV, tIf, tOp, tUn, tVar, tC, tCB, tCons, tNil, tCall, tPart, tNoPart, tM0, tM1, tTup, tLst, tB, tIsN, tNotN, rI0, rI, rU, rEq, rNe, rAdd, gName, gTup, gCons, gNil, gSub, rSetL, rIxL, rIxT, rIxS, L2.start,
      List.map_cons, List.map_nil, List.cons_append, List.nil_append, List.append_nil, List.length_cons, List.length_nil, List.replicate, List.getElem?_cons_zero, List.getElem?_cons_succ, List.set_cons_zero, List.set_cons_succ, Nat.reduceAdd, Nat.reduceSub, Nat.sub_self, Nat.zero_add,
      Option.some.injEq, V.int.injEq, V.str.injEq, V.bl.injEq, V.ref.injEq, V.ty.injEq, List.cons.injEq, and_true, true_and, exists_eq_left, exists_eq_left', exists_eq_right, exists_and_left, exists_and_right, exists_const, decide_eq_true_eq, decide_eq_false_iff_not, if_true, if_false, reduceIte, Bool.false_eq_true, Bool.not_eq_true', sc_ii, sc_ss, sc_bb, str1, cx_K, lstAt, rIxM, rSetM, rLenM, atI_0, atI_1, atI_2, atI_3, setI_0, setI_1, setI_2, setI_3, upd_same, upd_upd, ite_true, ite_false, exists_eq', eq_self, and_assoc, rIsS, isTy_bb, isTy_bi, isTy_ib, isTy_ii, isTy_ss, isTy_nb, isTy_ni, Bool.not_true, Bool.not_false, not_true_eq_false, not_false_eq_true]
          refine ⟨by omega, ?_, ?_, ?_, ?_, hp5, hb4.trans hb5⟩
          · show (x ++ y).length + 1 ≤ sizeLine
            omega
          · rw [len_cl, happ, List.length_append, List.length_append, ← len_cl, ← len_cl]
            show x.length + (y.length + 1) ≤ 33 * (i + 1)
            omega
          · rw [happ, PyProof.Rows.cnt_append, PyProof.Rows.cnt_append, hxc, cnt_free _ (nameOk_LD hy)]
            show (i : Int) + (0 + PyProof.Rows.cnt 58 [58]) = ((i + 1 : Nat) : Int)
            have : PyProof.Rows.cnt 58 [58] = 1 := by decide +kernel
            omega
          · rw [happ]
            cases hc : cl x with
            | nil => exact sign_name (l := cl y) (r := [58]) hy
            | cons c r =>
              rw [hc] at hxs
              exact hxs
        · rintro σ' H4 ⟨x, kk, rfl, hx, hxc, hxs, hp4, hb4⟩
          simp (config := { maxSteps := 4000000 }) only [tSeq, tNext, tDrop, tRet, tRetN, tIfS, tAsg, tTest, tAnd, tOr, tNot, tAndV, tOrV, tNotV, tIf, tOp, tUn, tVar, tC, tCB, tCons, tNil, tCall, tPart, tNoPart, tM0, tM1, tTup, tLst, tB, tIsN, tNotN, rI0, rI, rU, rEq, rNe, rAdd, gName, gTup, gCons, gNil, gSub, rSetL, rIxL, rIxT, rIxS, L2.start,
      List.map_cons, List.map_nil, List.cons_append, List.nil_append, List.append_nil, List.length_cons, List.length_nil, List.replicate, List.getElem?_cons_zero, List.getElem?_cons_succ, List.set_cons_zero, List.set_cons_succ, Nat.reduceAdd, Nat.reduceSub, Nat.sub_self, Nat.zero_add,
      Option.some.injEq, V.int.injEq, V.str.injEq, V.bl.injEq, V.ref.injEq, V.ty.injEq, List.cons.injEq, and_true, true_and, exists_eq_left, exists_eq_left', exists_eq_right, exists_and_left, exists_and_right, exists_const, decide_eq_true_eq, decide_eq_false_iff_not, if_true, if_false, reduceIte, Bool.false_eq_true, Bool.not_eq_true', sc_ii, sc_ss, sc_bb, str1, cx_K, lstAt, rIxM, rSetM, rLenM, atI_0, atI_1, atI_2, atI_3, setI_0, setI_1, setI_2, setI_3, upd_same, upd_upd, ite_true, ite_false, exists_eq', eq_self, and_assoc, rIsS, isTy_bb, isTy_bi, isTy_ib, isTy_ii, isTy_ss, isTy_nb, isTy_ni, Bool.not_true, Bool.not_false, not_true_eq_false, not_false_eq_true]
          refine ⟨by decide, fun t ht => k x n t H4 _ (by omega) ?_ hp4 hb4 ht rfl⟩
          unfold arityL
          rw [hxs, if_neg Bool.false_ne_true, hxc]
          omega
end

def sp_law (K : PySem.W.Frag) : Sp := fun vs H Q _ => ∃ (a : Addr) (ns : List Int), vs = [.ref a] ∧ SqL K H a (ns.map V.int) ∧ ns.length ≤ 63 ∧ ∀ H', Q (.bl true) H'
theorem sp_law_len {K vs H Q E} (h : sp_law K vs H Q E) : vs.length = (["script"] : List Str).length := by
  obtain ⟨_, _, rfl, _⟩ := h
  rfl
section
variable {P : Program} {w : World} {K : PySem.W.Frag} {mg : Str → Option Value} {base : Heap} {A : Ad}
theorem ok_law (T : Txt K mg A) : FnOk P w K mg base CX0 4 A.f_law A.d_law ["script"] (sp_law K) := by
  refine (T.F_law).ok sc_law (fun vs H Q E h => ?_) (fun cdv Ar outer s H vs Q E hr h => ?_)
  · exact sp_law_len h
  · have hu := hu_of hr
    refine ⟨_, (pss_cons (ps_asg (pe_call (ok__law_start T) (hr.mono (by decide)) (by rfl) T.g__law_start T.k__law_start T.b__law_start .nil pass0 (pa_cons (pv 0) pa_nil)) (pg_name (i := 1) sc_law.nd rfl (Or.inl rfl)))
    (pss_cons (ps_for PassesOwn.never rfl (pi_range1 (by rfl) T.z_range (pa_cons pe_int pa_nil)) (pg_name (i := 2) sc_law.nd rfl (Or.inl rfl))
      (pss_cons (ps_asg (pe_call (ok__law_string T) (hr.mono (by decide)) (by rfl) T.g__law_string T.k__law_string T.b__law_string .nil pass0 (pa_cons (pv 1) pa_nil)) (pg_name (i := 3) sc_law.nd rfl (Or.inl rfl)))
    (pss_cons (ps_asg (pe_call (ok_is_name T) (hr.mono (by decide)) (by rfl) T.g_is_name T.k_is_name T.b_is_name .nil pass0 (pa_cons (pv 3) pa_nil)) (pg_name (i := 4) sc_law.nd rfl (Or.inl rfl)))
    (pss_cons (ps_if (PW.pt (pw_or (pt_not (pt_val (pe_callB call_isS (by rfl) T.z_isinstance (by decide +kernel) (pa_cons (pv 4) (pa_cons (pe_bltn (v := .ty "bool") (by rfl) T.z_bool (by decide +kernel) rfl) pa_nil))))) (pw_or1 (pt_cmpR op_ne (pv 4) (pe_call (ok__law_is_name T) (hr.mono (by decide)) (by rfl) T.g__law_is_name T.k__law_is_name T.b__law_is_name .nil pass0 (pa_cons (pv 3) pa_nil)) (nomark _))))) (pss_one (ps_ret pe_bl)) pss_nil)
    (pss_cons (ps_asg (pe_call (ok__law_name T) (hr.mono (by decide)) (by rfl) T.g__law_name T.k__law_name T.b__law_name .nil pass0 (pa_cons (pv 1) pa_nil)) (pg_name (i := 5) sc_law.nd rfl (Or.inl rfl)))
    (pss_cons (ps_if (pt_cmpR op_isnot_bl (pe_call (ok_is_name T) (hr.mono (by decide)) (by rfl) T.g_is_name T.k_is_name T.b_is_name .nil pass0 (pa_cons (pv 5) pa_nil)) pe_bl (nomark _)) (pss_one (ps_ret pe_bl)) pss_nil)
    (pss_cons (ps_asg (pe_call (ok__law_selector T) (hr.mono (by decide)) (by rfl) T.g__law_selector T.k__law_selector T.b__law_selector .nil pass0 (pa_cons (pv 1) pa_nil)) (pg_tup (by rfl) (pgs_cons (pg_name (i := 6) sc_law.nd rfl (Or.inl rfl)) (pgs_cons (pg_name (i := 7) sc_law.nd rfl (Or.inl rfl)) pgs_nil))))
    (pss_cons (ps_asg (pe_call (ok_arity T) (hr.mono (by decide)) (by rfl) T.g_arity T.k_arity T.b_arity .nil pass0 (pa_cons (pv 6) pa_nil)) (pg_name (i := 8) sc_law.nd rfl (Or.inl rfl)))
    (pss_one (ps_if (PW.pt (pw_or (pt_not (pt_val (pe_callB call_isS (by rfl) T.z_isinstance (by decide +kernel) (pa_cons (pv 8) (pa_cons (pe_bltn (v := .ty "int") (by rfl) T.z_int (by decide +kernel) rfl) pa_nil))))) (pw_or (pt_val (pe_callB call_isS (by rfl) T.z_isinstance (by decide +kernel) (pa_cons (pv 8) (pa_cons (pe_bltn (v := .ty "bool") (by rfl) T.z_bool (by decide +kernel) rfl) pa_nil)))) (pw_or1 (pt_cmpR op_ne (pv 8) (pv 7) (nomark _)))))) (pss_one (ps_ret pe_bl)) pss_nil))))))))))
    (pss_one (ps_ret pe_bl)))), ?_⟩
    obtain ⟨a, ns, rfl, ha, hlen, k⟩ := h
    simp (config := { maxSteps := 4000000 }) only [tSeq, tNext, tDrop, tRet, tRetN, tIfS, tAsg, tTest, tAnd, tOr, tNot, tAndV, tOrV, tNotV, tIf, tOp, tUn, tVar, tC, tCB, tCons, tNil, tCall, tPart, tNoPart, tM0, tM1, tTup, tLst, tB, tIsN, tNotN, rI0, rI, rU, rEq, rNe, rAdd, gName, gTup, gCons, gNil, gSub, rSetL, rIxL, rIxT, rIxS, L2.start,
      List.map_cons, List.map_nil, List.cons_append, List.nil_append, List.append_nil, List.length_cons, List.length_nil, List.replicate, List.getElem?_cons_zero, List.getElem?_cons_succ, List.set_cons_zero, List.set_cons_succ, Nat.reduceAdd, Nat.reduceSub, Nat.sub_self, Nat.zero_add,
      Option.some.injEq, V.int.injEq, V.str.injEq, V.bl.injEq, V.ref.injEq, V.ty.injEq, List.cons.injEq, and_true, true_and, exists_eq_left, exists_eq_left', exists_eq_right, exists_and_left, exists_and_right, exists_const, decide_eq_true_eq, decide_eq_false_iff_not, if_true, if_false, reduceIte, Bool.false_eq_true, Bool.not_eq_true', sc_ii, sc_ss, sc_bb, str1, cx_K, lstAt, rIxM, rSetM, rLenM, atI_0, atI_1, atI_2, atI_3, setI_0, setI_1, setI_2, setI_3, upd_same, upd_upd, ite_true, ite_false, exists_eq', eq_self, and_assoc, rIsS, isTy_bb, isTy_bi, isTy_ib, isTy_ii, isTy_ss, isTy_nb, isTy_ni, Bool.not_true, Bool.not_false, not_true_eq_false, not_false_eq_true]
    refine ⟨a, rfl, fun p hp => ?_⟩
    have st0 : StAt K (upd H p (.lst [.ref a, .int 0, .int 0, .int 7])) p := ⟨a, ns, 0, 0, 7, upd_same, (same_new hp).seq ha, by decide, by decide, by decide⟩
    refine ⟨_, rfl, by decide, by decide, for_range (lo := 0) (n := 4) (fun i σ' H' => ∃ k1 k2 k3 k4 k5 k6 k7 : Option V, σ' = [some (.ref a), some (.ref p), k1, k2, k3, k4, k5, k6, k7] ∧ StAt K H' p) ⟨none, none, none, none, none, none, none, rfl, st0⟩ ?_ ?_⟩
    · rintro i σ' H1 hi ⟨k1, k2, k3, k4, k5, k6, k7, rfl, hp1⟩
      simp (config := { maxSteps := 4000000 }) only [tSeq, tNext, tDrop, tRet, tRetN, tIfS, tAsg, tTest, tAnd, tOr, tNot, tAndV, tOrV, tNotV, tIf, tOp, tUn, tVar, tC, tCB, tCons, tNil, tCall, tPart, tNoPart, tM0, tM1, tTup, tLst, tB, tIsN, tNotN, rI0, rI, rU, rEq, rNe, rAdd, gName, gTup, gCons, gNil, gSub, rSetL, rIxL, rIxT, rIxS, L2.start,
      List.map_cons, List.map_nil, List.cons_append, List.nil_append, List.append_nil, List.length_cons, List.length_nil, List.replicate, List.getElem?_cons_zero, List.getElem?_cons_succ, List.set_cons_zero, List.set_cons_succ, Nat.reduceAdd, Nat.reduceSub, Nat.sub_self, Nat.zero_add,
      Option.some.injEq, V.int.injEq, V.str.injEq, V.bl.injEq, V.ref.injEq, V.ty.injEq, List.cons.injEq, and_true, true_and, exists_eq_left, exists_eq_left', exists_eq_right, exists_and_left, exists_and_right, exists_const, decide_eq_true_eq, decide_eq_false_iff_not, if_true, if_false, reduceIte, Bool.false_eq_true, Bool.not_eq_true', sc_ii, sc_ss, sc_bb, str1, cx_K, lstAt, rIxM, rSetM, rLenM, atI_0, atI_1, atI_2, atI_3, setI_0, setI_1, setI_2, setI_3, upd_same, upd_upd, ite_true, ite_false, exists_eq', eq_self, and_assoc, rIsS, isTy_bb, isTy_bi, isTy_ib, isTy_ii, isTy_ss, isTy_nb, isTy_ni, Bool.not_true, Bool.not_false, not_true_eq_false, not_false_eq_true]
      refine ⟨p, rfl, hp1, fun x H2 hx hp2 hb2 => ?_⟩
      simp (config := { maxSteps := 4000000 }) only [tSeq, tNext, tDrop, tRet, tRetN, tIfS, tAsg, tTest, tAnd, tOr, tNot, tAndV, tOrV, tNotV, tIf, tOp, tUn, tVar, tC, tCB, tCons, tNil, tCall, tPart, tNoPart, tM0, tM1, tTup, tLst, tB, tIsN, tNotN, rI0, rI, rU, rEq, rNe, rAdd, gName, gTup, gCons, gNil, gSub, rSetL, rIxL, rIxT, rIxS, L2.start,
      List.map_cons, List.map_nil, List.cons_append, List.nil_append, List.append_nil, List.length_cons, List.length_nil, List.replicate, List.getElem?_cons_zero, List.getElem?_cons_succ, List.set_cons_zero, List.set_cons_succ, Nat.reduceAdd, Nat.reduceSub, Nat.sub_self, Nat.zero_add,
      Option.some.injEq, V.int.injEq, V.str.injEq, V.bl.injEq, V.ref.injEq, V.ty.injEq, List.cons.injEq, and_true, true_and, exists_eq_left, exists_eq_left', exists_eq_right, exists_and_left, exists_and_right, exists_const, decide_eq_true_eq, decide_eq_false_iff_not, if_true, if_false, reduceIte, Bool.false_eq_true, Bool.not_eq_true', sc_ii, sc_ss, sc_bb, str1, cx_K, lstAt, rIxM, rSetM, rLenM, atI_0, atI_1, atI_2, atI_3, setI_0, setI_1, setI_2, setI_3, upd_same, upd_upd, ite_true, ite_false, exists_eq', eq_self, and_assoc, rIsS, isTy_bb, isTy_bi, isTy_ib, isTy_ii, isTy_ss, isTy_nb, isTy_ni, Bool.not_true, Bool.not_false, not_true_eq_false, not_false_eq_true]
      refine ⟨x, rfl, by omega, ?_⟩
      simp (config := { maxSteps := 4000000 }) only [tSeq, tNext, tDrop, tRet, tRetN, tIfS, tAsg, tTest, tAnd, tOr, tNot, tAndV, tOrV, tNotV, tIf, tOp, tUn, tVar, tC, tCB, tCons, tNil, tCall, tPart, tNoPart, tM0, tM1, tTup, tLst, tB, tIsN, tNotN, rI0, rI, rU, rEq, rNe, rAdd, gName, gTup, gCons, gNil, gSub, rSetL, rIxL, rIxT, rIxS, L2.start,
      List.map_cons, List.map_nil, List.cons_append, List.nil_append, List.append_nil, List.length_cons, List.length_nil, List.replicate, List.getElem?_cons_zero, List.getElem?_cons_succ, List.set_cons_zero, List.set_cons_succ, Nat.reduceAdd, Nat.reduceSub, Nat.sub_self, Nat.zero_add,
      Option.some.injEq, V.int.injEq, V.str.injEq, V.bl.injEq, V.ref.injEq, V.ty.injEq, List.cons.injEq, and_true, true_and, exists_eq_left, exists_eq_left', exists_eq_right, exists_and_left, exists_and_right, exists_const, decide_eq_true_eq, decide_eq_false_iff_not, if_true, if_false, reduceIte, Bool.false_eq_true, Bool.not_eq_true', sc_ii, sc_ss, sc_bb, str1, cx_K, lstAt, rIxM, rSetM, rLenM, atI_0, atI_1, atI_2, atI_3, setI_0, setI_1, setI_2, setI_3, upd_same, upd_upd, ite_true, ite_false, exists_eq', eq_self, and_assoc, rIsS, isTy_bb, isTy_bi, isTy_ib, isTy_ii, isTy_ss, isTy_nb, isTy_ni, Bool.not_true, Bool.not_false, not_true_eq_false, not_false_eq_true]
      refine ⟨x, rfl, by omega, ?_⟩
      simp (config := { maxSteps := 4000000 }) only [tSeq, tNext, tDrop, tRet, tRetN, tIfS, tAsg, tTest, tAnd, tOr, tNot, tAndV, tOrV, tNotV, tIf, tOp, tUn, tVar, tC, tCB, tCons, tNil, tCall, tPart, tNoPart, tM0, tM1, tTup, tLst, tB, tIsN, tNotN, rI0, rI, rU, rEq, rNe, rAdd, gName, gTup, gCons, gNil, gSub, rSetL, rIxL, rIxT, rIxS, L2.start,
      List.map_cons, List.map_nil, List.cons_append, List.nil_append, List.append_nil, List.length_cons, List.length_nil, List.replicate, List.getElem?_cons_zero, List.getElem?_cons_succ, List.set_cons_zero, List.set_cons_succ, Nat.reduceAdd, Nat.reduceSub, Nat.sub_self, Nat.zero_add,
      Option.some.injEq, V.int.injEq, V.str.injEq, V.bl.injEq, V.ref.injEq, V.ty.injEq, List.cons.injEq, and_true, true_and, exists_eq_left, exists_eq_left', exists_eq_right, exists_and_left, exists_and_right, exists_const, decide_eq_true_eq, decide_eq_false_iff_not, if_true, if_false, reduceIte, Bool.false_eq_true, Bool.not_eq_true', sc_ii, sc_ss, sc_bb, str1, cx_K, lstAt, rIxM, rSetM, rLenM, atI_0, atI_1, atI_2, atI_3, setI_0, setI_1, setI_2, setI_3, upd_same, upd_upd, ite_true, ite_false, exists_eq', eq_self, and_assoc, rIsS, isTy_bb, isTy_bi, isTy_ib, isTy_ii, isTy_ss, isTy_nb, isTy_ni, Bool.not_true, Bool.not_false, not_true_eq_false, not_false_eq_true]
      refine ⟨p, rfl, hp2, fun y H3 hy hp3 hb3 => ?_⟩
      have hy32 : y.length ≤ 32 := by
        rw [len_cl]
        exact ((nameOk_iff _).mp hy).2.1
      simp (config := { maxSteps := 4000000 }) only [tSeq, tNext, tDrop, tRet, tRetN, tIfS, tAsg, tTest, tAnd, tOr, tNot, tAndV, tOrV, tNotV, tIf, tOp, tUn, tVar, tC, tCB, tCons, tNil, tCall, tPart, tNoPart, tM0, tM1, tTup, tLst, tB, tIsN, tNotN, rI0, rI, rU, rEq, rNe, rAdd, gName, gTup, gCons, gNil, gSub, rSetL, rIxL, rIxT, rIxS, L2.start,
      List.map_cons, List.map_nil, List.cons_append, List.nil_append, List.append_nil, List.length_cons, List.length_nil, List.replicate, List.getElem?_cons_zero, List.getElem?_cons_succ, List.set_cons_zero, List.set_cons_succ, Nat.reduceAdd, Nat.reduceSub, Nat.sub_self, Nat.zero_add,
      Option.some.injEq, V.int.injEq, V.str.injEq, V.bl.injEq, V.ref.injEq, V.ty.injEq, List.cons.injEq, and_true, true_and, exists_eq_left, exists_eq_left', exists_eq_right, exists_and_left, exists_and_right, exists_const, decide_eq_true_eq, decide_eq_false_iff_not, if_true, if_false, reduceIte, Bool.false_eq_true, Bool.not_eq_true', sc_ii, sc_ss, sc_bb, str1, cx_K, lstAt, rIxM, rSetM, rLenM, atI_0, atI_1, atI_2, atI_3, setI_0, setI_1, setI_2, setI_3, upd_same, upd_upd, ite_true, ite_false, exists_eq', eq_self, and_assoc, rIsS, isTy_bb, isTy_bi, isTy_ib, isTy_ii, isTy_ss, isTy_nb, isTy_ni, Bool.not_true, Bool.not_false, not_true_eq_false, not_false_eq_true]
      refine ⟨y, rfl, by omega, ?_⟩
      simp (config := { maxSteps := 4000000 }) only [tSeq, tNext, tDrop, tRet, tRetN, tIfS, tAsg, tTest, tAnd, tOr, tNot, tAndV, tOrV, tNotV, tIf, tOp, tUn, tVar, tC, tCB, tCons, tNil, tCall, tPart, tNoPart, tM0, tM1, tTup, tLst, tB, tIsN, tNotN, rI0, rI, rU, rEq, rNe, rAdd, gName, gTup, gCons, gNil, gSub, rSetL, rIxL, rIxT, rIxS, L2.start,
      List.map_cons, List.map_nil, List.cons_append, List.nil_append, List.append_nil, List.length_cons, List.length_nil, List.replicate, List.getElem?_cons_zero, List.getElem?_cons_succ, List.set_cons_zero, List.set_cons_succ, Nat.reduceAdd, Nat.reduceSub, Nat.sub_self, Nat.zero_add,
      Option.some.injEq, V.int.injEq, V.str.injEq, V.bl.injEq, V.ref.injEq, V.ty.injEq, List.cons.injEq, and_true, true_and, exists_eq_left, exists_eq_left', exists_eq_right, exists_and_left, exists_and_right, exists_const, decide_eq_true_eq, decide_eq_false_iff_not, if_true, if_false, reduceIte, Bool.false_eq_true, Bool.not_eq_true', sc_ii, sc_ss, sc_bb, str1, cx_K, lstAt, rIxM, rSetM, rLenM, atI_0, atI_1, atI_2, atI_3, setI_0, setI_1, setI_2, setI_3, upd_same, upd_upd, ite_true, ite_false, exists_eq', eq_self, and_assoc, rIsS, isTy_bb, isTy_bi, isTy_ib, isTy_ii, isTy_ss, isTy_nb, isTy_ni, Bool.not_true, Bool.not_false, not_true_eq_false, not_false_eq_true, hy]
      refine ⟨p, rfl, hp3, fun z n t H4 H5 hz hzn hp4 hb4 ht e5 => ?_⟩
      subst e5
      have pt : p ≠ t := by
        obtain ⟨_, _, _, _, _, e, _⟩ := hp4
        exact ne_of_none e ht
      have hp5 : StAt K (upd H4 t (.tup [.str z, .int n])) p := by
        obtain ⟨a1, ns1, i1, b1, s1, e, g, r⟩ := hp4
        exact ⟨a1, ns1, i1, b1, s1, by rw [upd_ne pt]; exact e, (same_new ht).seq g, r⟩
      simp (config := { maxSteps := 4000000 }) only [tSeq, tNext, tDrop, tRet, tRetN, tIfS, tAsg, tTest, tAnd, tOr, tNot, tAndV, tOrV, tNotV, tIf, tOp, tUn, tVar, tC, tCB, tCons, tNil, tCall, tPart, tNoPart, tM0, tM1, tTup, tLst, tB, tIsN, tNotN, rI0, rI, rU, rEq, rNe, rAdd, gName, gTup, gCons, gNil, gSub, rSetL, rIxL, rIxT, rIxS, L2.start,
      List.map_cons, List.map_nil, List.cons_append, List.nil_append, List.append_nil, List.length_cons, List.length_nil, List.replicate, List.getElem?_cons_zero, List.getElem?_cons_succ, List.set_cons_zero, List.set_cons_succ, Nat.reduceAdd, Nat.reduceSub, Nat.sub_self, Nat.zero_add,
      Option.some.injEq, V.int.injEq, V.str.injEq, V.bl.injEq, V.ref.injEq, V.ty.injEq, List.cons.injEq, and_true, true_and, exists_eq_left, exists_eq_left', exists_eq_right, exists_and_left, exists_and_right, exists_const, decide_eq_true_eq, decide_eq_false_iff_not, if_true, if_false, reduceIte, Bool.false_eq_true, Bool.not_eq_true', sc_ii, sc_ss, sc_bb, str1, cx_K, lstAt, rIxM, rSetM, rLenM, atI_0, atI_1, atI_2, atI_3, setI_0, setI_1, setI_2, setI_3, upd_same, upd_upd, ite_true, ite_false, exists_eq', eq_self, and_assoc, rIsS, isTy_bb, isTy_bi, isTy_ib, isTy_ii, isTy_ss, isTy_nb, isTy_ni, Bool.not_true, Bool.not_false, not_true_eq_false, not_false_eq_true]
      refine ⟨_, .inl (.inl upd_same), rfl, ?_⟩
      simp (config := { maxSteps := 4000000 }) only [tSeq, tNext, tDrop, tRet, tRetN, tIfS, tAsg, tTest, tAnd, tOr, tNot, tAndV, tOrV, tNotV, tIf, tOp, tUn, tVar, tC, tCB, tCons, tNil, tCall, tPart, tNoPart, tM0, tM1, tTup, tLst, tB, tIsN, tNotN, rI0, rI, rU, rEq, rNe, rAdd, gName, gTup, gCons, gNil, gSub, rSetL, rIxL, rIxT, rIxS, L2.start,
      List.map_cons, List.map_nil, List.cons_append, List.nil_append, List.append_nil, List.length_cons, List.length_nil, List.replicate, List.getElem?_cons_zero, List.getElem?_cons_succ, List.set_cons_zero, List.set_cons_succ, Nat.reduceAdd, Nat.reduceSub, Nat.sub_self, Nat.zero_add,
      Option.some.injEq, V.int.injEq, V.str.injEq, V.bl.injEq, V.ref.injEq, V.ty.injEq, List.cons.injEq, and_true, true_and, exists_eq_left, exists_eq_left', exists_eq_right, exists_and_left, exists_and_right, exists_const, decide_eq_true_eq, decide_eq_false_iff_not, if_true, if_false, reduceIte, Bool.false_eq_true, Bool.not_eq_true', sc_ii, sc_ss, sc_bb, str1, cx_K, lstAt, rIxM, rSetM, rLenM, atI_0, atI_1, atI_2, atI_3, setI_0, setI_1, setI_2, setI_3, upd_same, upd_upd, ite_true, ite_false, exists_eq', eq_self, and_assoc, rIsS, isTy_bb, isTy_bi, isTy_ib, isTy_ii, isTy_ss, isTy_nb, isTy_ni, Bool.not_true, Bool.not_false, not_true_eq_false, not_false_eq_true]
      subst hzn
      refine ⟨z, rfl, by omega, ?_⟩
      simp (config := { maxSteps := 4000000 }) only [tSeq, tNext, tDrop, tRet, tRetN, tIfS, tAsg, tTest, tAnd, tOr, tNot, tAndV, tOrV, tNotV, tIf, tOp, tUn, tVar, tC, tCB, tCons, tNil, tCall, tPart, tNoPart, tM0, tM1, tTup, tLst, tB, tIsN, tNotN, rI0, rI, rU, rEq, rNe, rAdd, gName, gTup, gCons, gNil, gSub, rSetL, rIxL, rIxT, rIxS, L2.start,
      List.map_cons, List.map_nil, List.cons_append, List.nil_append, List.append_nil, List.length_cons, List.length_nil, List.replicate, List.getElem?_cons_zero, List.getElem?_cons_succ, List.set_cons_zero, List.set_cons_succ, Nat.reduceAdd, Nat.reduceSub, Nat.sub_self, Nat.zero_add,
      Option.some.injEq, V.int.injEq, V.str.injEq, V.bl.injEq, V.ref.injEq, V.ty.injEq, List.cons.injEq, and_true, true_and, exists_eq_left, exists_eq_left', exists_eq_right, exists_and_left, exists_and_right, exists_const, decide_eq_true_eq, decide_eq_false_iff_not, if_true, if_false, reduceIte, Bool.false_eq_true, Bool.not_eq_true', sc_ii, sc_ss, sc_bb, str1, cx_K, lstAt, rIxM, rSetM, rLenM, atI_0, atI_1, atI_2, atI_3, setI_0, setI_1, setI_2, setI_3, upd_same, upd_upd, ite_true, ite_false, exists_eq', eq_self, and_assoc, rIsS, isTy_bb, isTy_bi, isTy_ib, isTy_ii, isTy_ss, isTy_nb, isTy_ni, Bool.not_true, Bool.not_false, not_true_eq_false, not_false_eq_true]
      exact hp5
    · rintro σ' H1 ⟨k1, k2, k3, k4, k5, k6, k7, rfl, hp1⟩
      simp (config := { maxSteps := 4000000 }) only [tSeq, tNext, tDrop, tRet, tRetN, tIfS, tAsg, tTest, tAnd, tOr, tNot, tAndV, tOrV, tNotV, tIf, tOp, tUn, tVar, tC, tCB, tCons, tNil, tCall, tPart, tNoPart, tM0, tM1, tTup, tLst, tB, tIsN, tNotN, rI0, rI, rU, rEq, rNe, rAdd, gName, gTup, gCons, gNil, gSub, rSetL, rIxL, rIxT, rIxS, L2.start,
      List.map_cons, List.map_nil, List.cons_append, List.nil_append, List.append_nil, List.length_cons, List.length_nil, List.replicate, List.getElem?_cons_zero, List.getElem?_cons_succ, List.set_cons_zero, List.set_cons_succ, Nat.reduceAdd, Nat.reduceSub, Nat.sub_self, Nat.zero_add,
      Option.some.injEq, V.int.injEq, V.str.injEq, V.bl.injEq, V.ref.injEq, V.ty.injEq, List.cons.injEq, and_true, true_and, exists_eq_left, exists_eq_left', exists_eq_right, exists_and_left, exists_and_right, exists_const, decide_eq_true_eq, decide_eq_false_iff_not, if_true, if_false, reduceIte, Bool.false_eq_true, Bool.not_eq_true', sc_ii, sc_ss, sc_bb, str1, cx_K, lstAt, rIxM, rSetM, rLenM, atI_0, atI_1, atI_2, atI_3, setI_0, setI_1, setI_2, setI_3, upd_same, upd_upd, ite_true, ite_false, exists_eq', eq_self, and_assoc, rIsS, isTy_bb, isTy_bi, isTy_ib, isTy_ii, isTy_ss, isTy_nb, isTy_ni, Bool.not_true, Bool.not_false, not_true_eq_false, not_false_eq_true]
      exact k _
end

theorem all_mk {l : PySem.W.OpenLaw} {w : World} {K : PySem.W.Frag} {h : Heap} {mg : Str → Option Value} {fa : Addr} (X : K.In h) (G : h.Ns mainGlobals mg) (hfa : mg "law" = some (.ref fa))
    {f0 : Addr} {od0 an0 : Option Addr} {sl0 : Array (Option Value)} {oc0 kV0 dc0 pm0 cd0 ct0 : Value}
    {f1 : Addr} {od1 an1 : Option Addr} {sl1 : Array (Option Value)} {oc1 kV1 dc1 pm1 cd1 ct1 : Value}
    {f2 : Addr} {od2 an2 : Option Addr} {sl2 : Array (Option Value)} {oc2 kV2 dc2 pm2 cd2 ct2 : Value}
    {f3 : Addr} {od3 an3 : Option Addr} {sl3 : Array (Option Value)} {oc3 kV3 dc3 pm3 cd3 ct3 : Value}
    {f4 : Addr} {od4 an4 : Option Addr} {sl4 : Array (Option Value)} {oc4 kV4 dc4 pm4 cd4 ct4 : Value}
    {f5 : Addr} {od5 an5 : Option Addr} {sl5 : Array (Option Value)} {oc5 kV5 dc5 pm5 cd5 ct5 : Value}
    {f6 : Addr} {od6 an6 : Option Addr} {sl6 : Array (Option Value)} {oc6 kV6 dc6 pm6 cd6 ct6 : Value}
    {f7 : Addr} {od7 an7 : Option Addr} {sl7 : Array (Option Value)} {oc7 kV7 dc7 pm7 cd7 ct7 : Value}
    {f8 : Addr} {od8 an8 : Option Addr} {sl8 : Array (Option Value)} {oc8 kV8 dc8 pm8 cd8 ct8 : Value}
    {f9 : Addr} {od9 an9 : Option Addr} {sl9 : Array (Option Value)} {oc9 kV9 dc9 pm9 cd9 ct9 : Value}
    {f10 : Addr} {od10 an10 : Option Addr} {sl10 : Array (Option Value)} {oc10 kV10 dc10 pm10 cd10 ct10 : Value}
    {f11 : Addr} {od11 an11 : Option Addr} {sl11 : Array (Option Value)} {oc11 kV11 dc11 pm11 cd11 ct11 : Value}
    {f12 : Addr} {od12 an12 : Option Addr} {sl12 : Array (Option Value)} {oc12 kV12 dc12 pm12 cd12 ct12 : Value}
    {t_LONGEST_NAME : Tok}
    {t_LETTERS : Tok}
    {t_DIGITS : Tok}
    {t_SIGNS : Tok}
    (a0 : PySem.W.nsIn K mainGlobals "is_name" = some (some (.ref f0)))
    (l0 : K.lookup f0 = some ⟨oc0, od0, .func (PySem.W.fnOf "is_name" "is_name" (defArgs s_is_name) (defBody s_is_name) (defScope s_is_name) .none kV0 dc0 pm0 an0 cd0 ct0), sl0⟩) (c0 : PySem.W.codeIn K cd0 "is_name" = true) (k0 : PySem.W.keepIn K (.ref f0) = true)
    (a1 : PySem.W.nsIn K mainGlobals "arity" = some (some (.ref f1)))
    (l1 : K.lookup f1 = some ⟨oc1, od1, .func (PySem.W.fnOf "arity" "arity" (defArgs s_arity) (defBody s_arity) (defScope s_arity) .none kV1 dc1 pm1 an1 cd1 ct1), sl1⟩) (c1 : PySem.W.codeIn K cd1 "arity" = true) (k1 : PySem.W.keepIn K (.ref f1) = true)
    (a2 : PySem.W.nsIn K mainGlobals "is_binary" = some (some (.ref f2)))
    (l2 : K.lookup f2 = some ⟨oc2, od2, .func (PySem.W.fnOf "is_binary" "is_binary" (defArgs s_is_binary) (defBody s_is_binary) (defScope s_is_binary) .none kV2 dc2 pm2 an2 cd2 ct2), sl2⟩) (c2 : PySem.W.codeIn K cd2 "is_binary" = true) (k2 : PySem.W.keepIn K (.ref f2) = true)
    (a3 : PySem.W.nsIn K mainGlobals "letters_end" = some (some (.ref f3)))
    (l3 : K.lookup f3 = some ⟨oc3, od3, .func (PySem.W.fnOf "letters_end" "letters_end" (defArgs s_letters_end) (defBody s_letters_end) (defScope s_letters_end) .none kV3 dc3 pm3 an3 cd3 ct3), sl3⟩) (c3 : PySem.W.codeIn K cd3 "letters_end" = true) (k3 : PySem.W.keepIn K (.ref f3) = true)
    (a4 : PySem.W.nsIn K mainGlobals "name_end" = some (some (.ref f4)))
    (l4 : K.lookup f4 = some ⟨oc4, od4, .func (PySem.W.fnOf "name_end" "name_end" (defArgs s_name_end) (defBody s_name_end) (defScope s_name_end) .none kV4 dc4 pm4 an4 cd4 ct4), sl4⟩) (c4 : PySem.W.codeIn K cd4 "name_end" = true) (k4 : PySem.W.keepIn K (.ref f4) = true)
    (a5 : PySem.W.nsIn K mainGlobals "_law_start" = some (some (.ref f5)))
    (l5 : K.lookup f5 = some ⟨oc5, od5, .func (PySem.W.fnOf "_law_start" "_law_start" (defArgs s__law_start) (defBody s__law_start) (defScope s__law_start) .none kV5 dc5 pm5 an5 cd5 ct5), sl5⟩) (c5 : PySem.W.codeIn K cd5 "_law_start" = true) (k5 : PySem.W.keepIn K (.ref f5) = true)
    (a6 : PySem.W.nsIn K mainGlobals "_law_pick" = some (some (.ref f6)))
    (l6 : K.lookup f6 = some ⟨oc6, od6, .func (PySem.W.fnOf "_law_pick" "_law_pick" (defArgs s__law_pick) (defBody s__law_pick) (defScope s__law_pick) .none kV6 dc6 pm6 an6 cd6 ct6), sl6⟩) (c6 : PySem.W.codeIn K cd6 "_law_pick" = true) (k6 : PySem.W.keepIn K (.ref f6) = true)
    (a7 : PySem.W.nsIn K mainGlobals "_law_letters" = some (some (.ref f7)))
    (l7 : K.lookup f7 = some ⟨oc7, od7, .func (PySem.W.fnOf "_law_letters" "_law_letters" (defArgs s__law_letters) (defBody s__law_letters) (defScope s__law_letters) .none kV7 dc7 pm7 an7 cd7 ct7), sl7⟩) (c7 : PySem.W.codeIn K cd7 "_law_letters" = true) (k7 : PySem.W.keepIn K (.ref f7) = true)
    (a8 : PySem.W.nsIn K mainGlobals "_law_string" = some (some (.ref f8)))
    (l8 : K.lookup f8 = some ⟨oc8, od8, .func (PySem.W.fnOf "_law_string" "_law_string" (defArgs s__law_string) (defBody s__law_string) (defScope s__law_string) .none kV8 dc8 pm8 an8 cd8 ct8), sl8⟩) (c8 : PySem.W.codeIn K cd8 "_law_string" = true) (k8 : PySem.W.keepIn K (.ref f8) = true)
    (a9 : PySem.W.nsIn K mainGlobals "_law_is_name" = some (some (.ref f9)))
    (l9 : K.lookup f9 = some ⟨oc9, od9, .func (PySem.W.fnOf "_law_is_name" "_law_is_name" (defArgs s__law_is_name) (defBody s__law_is_name) (defScope s__law_is_name) .none kV9 dc9 pm9 an9 cd9 ct9), sl9⟩) (c9 : PySem.W.codeIn K cd9 "_law_is_name" = true) (k9 : PySem.W.keepIn K (.ref f9) = true)
    (a10 : PySem.W.nsIn K mainGlobals "_law_name" = some (some (.ref f10)))
    (l10 : K.lookup f10 = some ⟨oc10, od10, .func (PySem.W.fnOf "_law_name" "_law_name" (defArgs s__law_name) (defBody s__law_name) (defScope s__law_name) .none kV10 dc10 pm10 an10 cd10 ct10), sl10⟩) (c10 : PySem.W.codeIn K cd10 "_law_name" = true) (k10 : PySem.W.keepIn K (.ref f10) = true)
    (a11 : PySem.W.nsIn K mainGlobals "_law_selector" = some (some (.ref f11)))
    (l11 : K.lookup f11 = some ⟨oc11, od11, .func (PySem.W.fnOf "_law_selector" "_law_selector" (defArgs s__law_selector) (defBody s__law_selector) (defScope s__law_selector) .none kV11 dc11 pm11 an11 cd11 ct11), sl11⟩) (c11 : PySem.W.codeIn K cd11 "_law_selector" = true) (k11 : PySem.W.keepIn K (.ref f11) = true)
    (a12 : PySem.W.nsIn K mainGlobals "law" = some (some (.ref f12)))
    (l12 : K.lookup f12 = some ⟨oc12, od12, .func (PySem.W.fnOf "law" "law" (defArgs s_law) (defBody s_law) (defScope s_law) .none kV12 dc12 pm12 an12 cd12 ct12), sl12⟩) (c12 : PySem.W.codeIn K cd12 "law" = true) (k12 : PySem.W.keepIn K (.ref f12) = true)
    (q_LONGEST_NAME : PySem.W.nsIn K mainGlobals "LONGEST_NAME" = some (some (.int (32) t_LONGEST_NAME)))
    (q_LETTERS : PySem.W.nsIn K mainGlobals "LETTERS" = some (some (.str "abcdefghijklmnopqrstuvwxyzABCDEFGHIJKLMNOPQRSTUVWXYZ" t_LETTERS)))
    (q_DIGITS : PySem.W.nsIn K mainGlobals "DIGITS" = some (some (.str "0123456789" t_DIGITS)))
    (q_SIGNS : PySem.W.nsIn K mainGlobals "SIGNS" = some (some (.str "+-*/<>=~&,@" t_SIGNS)))
    (z_abs : PySem.W.nsIn K mainGlobals "abs" = some none)
    (z_bool : PySem.W.nsIn K mainGlobals "bool" = some none)
    (z_int : PySem.W.nsIn K mainGlobals "int" = some none)
    (z_isinstance : PySem.W.nsIn K mainGlobals "isinstance" = some none)
    (z_len : PySem.W.nsIn K mainGlobals "len" = some none)
    (z_range : PySem.W.nsIn K mainGlobals "range" = some none) :
    ∃ fd : FuncData, (∀ (s : Shared) (v : Value), BindsTo s fd ⟨[v], []⟩ [("script", v)]) ∧ ∀ base : Heap, K.In base → base.Ns mainGlobals mg → FnOk l.prog w K mg base CX0 4 fa fd ["script"] (sp_law K) := by
  have e : fa = f12 := Value.ref.inj (Option.some.inj (hfa.symm.trans (PySem.W.mg_of X G a12)))
  rw [e]
  have T : Txt K mg { f_is_name := f0, d_is_name := _, f_arity := f1, d_arity := _, f_is_binary := f2, d_is_binary := _, f_letters_end := f3, d_letters_end := _, f_name_end := f4, d_name_end := _, f__law_start := f5, d__law_start := _, f__law_pick := f6, d__law_pick := _, f__law_letters := f7, d__law_letters := _, f__law_string := f8, d__law_string := _, f__law_is_name := f9, d__law_is_name := _, f__law_name := f10, d__law_name := _, f__law_selector := f11, d__law_selector := _, f_law := f12, d_law := _, t_LONGEST_NAME := t_LONGEST_NAME, t_LETTERS := t_LETTERS, t_DIGITS := t_DIGITS, t_SIGNS := t_SIGNS } := {
      g_is_name := PySem.W.mg_of X G a0,
      k_is_name := k0,
      F_is_name := fun_mk (st := s_is_name) l0 c0 k0,
      b_is_name := (fun_mk (st := s_is_name) l0 c0 k0).binds (fun _ _ _ _ _ _ us hl => match us, hl with | [_], _ => rfl),
      g_arity := PySem.W.mg_of X G a1,
      k_arity := k1,
      F_arity := fun_mk (st := s_arity) l1 c1 k1,
      b_arity := (fun_mk (st := s_arity) l1 c1 k1).binds (fun _ _ _ _ _ _ us hl => match us, hl with | [_], _ => rfl),
      g_is_binary := PySem.W.mg_of X G a2,
      k_is_binary := k2,
      F_is_binary := fun_mk (st := s_is_binary) l2 c2 k2,
      b_is_binary := (fun_mk (st := s_is_binary) l2 c2 k2).binds (fun _ _ _ _ _ _ us hl => match us, hl with | [_], _ => rfl),
      g_letters_end := PySem.W.mg_of X G a3,
      k_letters_end := k3,
      F_letters_end := fun_mk (st := s_letters_end) l3 c3 k3,
      b_letters_end := (fun_mk (st := s_letters_end) l3 c3 k3).binds (fun _ _ _ _ _ _ us hl => match us, hl with | [_, _], _ => rfl),
      g_name_end := PySem.W.mg_of X G a4,
      k_name_end := k4,
      F_name_end := fun_mk (st := s_name_end) l4 c4 k4,
      b_name_end := (fun_mk (st := s_name_end) l4 c4 k4).binds (fun _ _ _ _ _ _ us hl => match us, hl with | [_, _], _ => rfl),
      g__law_start := PySem.W.mg_of X G a5,
      k__law_start := k5,
      F__law_start := fun_mk (st := s__law_start) l5 c5 k5,
      b__law_start := (fun_mk (st := s__law_start) l5 c5 k5).binds (fun _ _ _ _ _ _ us hl => match us, hl with | [_], _ => rfl),
      g__law_pick := PySem.W.mg_of X G a6,
      k__law_pick := k6,
      F__law_pick := fun_mk (st := s__law_pick) l6 c6 k6,
      b__law_pick := (fun_mk (st := s__law_pick) l6 c6 k6).binds (fun _ _ _ _ _ _ us hl => match us, hl with | [_, _], _ => rfl),
      g__law_letters := PySem.W.mg_of X G a7,
      k__law_letters := k7,
      F__law_letters := fun_mk (st := s__law_letters) l7 c7 k7,
      b__law_letters := (fun_mk (st := s__law_letters) l7 c7 k7).binds (fun _ _ _ _ _ _ us hl => match us, hl with | [], _ => rfl),
      g__law_string := PySem.W.mg_of X G a8,
      k__law_string := k8,
      F__law_string := fun_mk (st := s__law_string) l8 c8 k8,
      b__law_string := (fun_mk (st := s__law_string) l8 c8 k8).binds (fun _ _ _ _ _ _ us hl => match us, hl with | [_], _ => rfl),
      g__law_is_name := PySem.W.mg_of X G a9,
      k__law_is_name := k9,
      F__law_is_name := fun_mk (st := s__law_is_name) l9 c9 k9,
      b__law_is_name := (fun_mk (st := s__law_is_name) l9 c9 k9).binds (fun _ _ _ _ _ _ us hl => match us, hl with | [_], _ => rfl),
      g__law_name := PySem.W.mg_of X G a10,
      k__law_name := k10,
      F__law_name := fun_mk (st := s__law_name) l10 c10 k10,
      b__law_name := (fun_mk (st := s__law_name) l10 c10 k10).binds (fun _ _ _ _ _ _ us hl => match us, hl with | [_], _ => rfl),
      g__law_selector := PySem.W.mg_of X G a11,
      k__law_selector := k11,
      F__law_selector := fun_mk (st := s__law_selector) l11 c11 k11,
      b__law_selector := (fun_mk (st := s__law_selector) l11 c11 k11).binds (fun _ _ _ _ _ _ us hl => match us, hl with | [_], _ => rfl),
      g_law := PySem.W.mg_of X G a12,
      k_law := k12,
      F_law := fun_mk (st := s_law) l12 c12 k12,
      b_law := (fun_mk (st := s_law) l12 c12 k12).binds (fun _ _ _ _ _ _ us hl => match us, hl with | [_], _ => rfl),
      c_LONGEST_NAME := PySem.W.mg_of X G q_LONGEST_NAME,
      c_LETTERS := PySem.W.mg_of X G q_LETTERS,
      c_DIGITS := PySem.W.mg_of X G q_DIGITS,
      c_SIGNS := PySem.W.mg_of X G q_SIGNS,
      z_abs := PySem.W.mg_none_of X G z_abs,
      z_bool := PySem.W.mg_none_of X G z_bool,
      z_int := PySem.W.mg_none_of X G z_int,
      z_isinstance := PySem.W.mg_none_of X G z_isinstance,
      z_len := PySem.W.mg_none_of X G z_len,
      z_range := PySem.W.mg_none_of X G z_range }
  exact ⟨_, fun s v => .of_eq rfl, fun base _ _ => ok_law T⟩
theorem walk {l : PySem.W.OpenLaw} {q : Program} {loose : List Str} {XP : (Str → Option Value) → Heap → Prop} {YP : World → Heap → Prop} {d : DefRec} {K : Params → PySem.W.Frag} (hn : l.most = some 63) (hdf : d.params.defaults = [])
    (hY : ∀ (w : World) (h : Heap), YP w h → (K w.params).In h)
    (F : ∀ (w : World) (mg : Str → Option Value) (fa : Addr) (h : Heap), (K w.params).In h → h.Ns mainGlobals mg → mg d.name = some (.ref fa) →
      ∃ fd : FuncData, (∀ (s : Shared) (u : Value), BindsTo s fd ⟨[u], []⟩ [("script", u)]) ∧ ∀ base : Heap, (K w.params).In base → base.Ns mainGlobals mg → FnOk l.prog w (K w.params) mg base CX0 4 fa fd ["script"] (sp_law (K w.params))) :
    PySem.W.WalkO q loose XP YP l.row.toRowW d [] (fun f vs => PySem.call f vs) :=
  L2.walk_of (n := 63) (k := 4) (x := "script") (CX := fun _ => CX0) (sp := fun w => sp_law (K w.params)) hn (by decide) hdf ⟨rfl, by decide, by decide⟩ hY F (fun _ _ a ns hl _ hS => ⟨a, ns, rfl, hS, hl, fun _ => rfl⟩) fun _ _ _ _ _ z => z

end My
open PySem PySem.W PyProof.Rows
set_option maxRecDepth 100000 in
set_option maxHeartbeats 0 in
theorem PySem.Challenge.cw_saggar_k10_names_and_selectors_holds : PySem.Challenge.rw_saggar_k10_names_and_selectors.Holds := by
  w_on; o_law; k_head; (case hw => w_witness2)
  k_fill
  refine My.walk (l := PySem.Challenge.rw_saggar_k10_names_and_selectors) rfl rfl (fun w h Y => PySem.W.kIn_of Y) ?F
  case F =>
    intro w mg fa h KX G hmg
    refine' My.all_mk KX G hmg ?a0 ?l0 ?c0 ?k0 ?a1 ?l1 ?c1 ?k1 ?a2 ?l2 ?c2 ?k2 ?a3 ?l3 ?c3 ?k3 ?a4 ?l4 ?c4 ?k4 ?a5 ?l5 ?c5 ?k5 ?a6 ?l6 ?c6 ?k6 ?a7 ?l7 ?c7 ?k7 ?a8 ?l8 ?c8 ?k8 ?a9 ?l9 ?c9 ?k9 ?a10 ?l10 ?c10 ?k10 ?a11 ?l11 ?c11 ?k11 ?a12 ?l12 ?c12 ?k12 ?q_LONGEST_NAME ?q_LETTERS ?q_DIGITS ?q_SIGNS ?z_abs ?z_bool ?z_int ?z_isinstance ?z_len ?z_range
    (case a0 => k_is)
    (case l0 => k_is)
    (case c0 => k_is)
    (case k0 => k_is)
    (case a1 => k_is)
    (case l1 => k_is)
    (case c1 => k_is)
    (case k1 => k_is)
    (case a2 => k_is)
    (case l2 => k_is)
    (case c2 => k_is)
    (case k2 => k_is)
    (case a3 => k_is)
    (case l3 => k_is)
    (case c3 => k_is)
    (case k3 => k_is)
    (case a4 => k_is)
    (case l4 => k_is)
    (case c4 => k_is)
    (case k4 => k_is)
    (case a5 => k_is)
    (case l5 => k_is)
    (case c5 => k_is)
    (case k5 => k_is)
    (case a6 => k_is)
    (case l6 => k_is)
    (case c6 => k_is)
    (case k6 => k_is)
    (case a7 => k_is)
    (case l7 => k_is)
    (case c7 => k_is)
    (case k7 => k_is)
    (case a8 => k_is)
    (case l8 => k_is)
    (case c8 => k_is)
    (case k8 => k_is)
    (case a9 => k_is)
    (case l9 => k_is)
    (case c9 => k_is)
    (case k9 => k_is)
    (case a10 => k_is)
    (case l10 => k_is)
    (case c10 => k_is)
    (case k10 => k_is)
    (case a11 => k_is)
    (case l11 => k_is)
    (case c11 => k_is)
    (case k11 => k_is)
    (case a12 => k_is)
    (case l12 => k_is)
    (case c12 => k_is)
    (case k12 => k_is)
    (case q_LONGEST_NAME => k_is)
    (case q_LETTERS => k_is)
    (case q_DIGITS => k_is)
    (case q_SIGNS => k_is)
    (case z_abs => k_is)
    (case z_bool => k_is)
    (case z_int => k_is)
    (case z_isinstance => k_is)
    (case z_len => k_is)
    (case z_range => k_is)
#print axioms PySem.Challenge.cw_saggar_k10_names_and_selectors_holds
