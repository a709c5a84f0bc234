import PyProof.Rows.All
import Wide.All
import OpenK.AllK
import Wide.FinOn
import HandS.ForMost
import HandS.ForExc
import HandS.IsInst
import HandS.TupLe
import HandS.Evl
import HandS.ExcInit
import HandS.ExcField
import KE.KExcIs
import HandS.ExcCtx
import HandS.HotCalls
import HandS.Defaults
import HandS.SortInts
import HandS.Struct
import HandS.DictComp
import HandS.Wide
import PyProof.StrOps2
import KE.GoesMore
import KE.GoesEnum
import HandS.Iter
import HandS.TupAny
import HandS.Sort
import HandS.SortOrd
import HandS.SortRule
import KE.KSortTup
import PySem.Challenge.RW_saggar_k64_best_paths
set_option Elab.async false
set_option linter.all false
set_option maxRecDepth 100000
set_option maxHeartbeats 4000000

namespace My
open PySem PySem.Spec PyProof.Rows L2
/-! ### the text by places -/
def top (i : Nat) : Stmt := PySem.Challenge.pw_saggar_k64_best_paths.main.body.getD i (.Pass ⟨0, 0, 0, 0⟩)
abbrev s__wall : Stmt := top 1
abbrev s_NoRoom___init__ : Stmt := inClass (top 4) 0
abbrev s_NoNumber___init__ : Stmt := inClass (top 5) 0
abbrev s_is_ref : Stmt := top 8
abbrev s_Store___init__ : Stmt := inClass (top 11) 0
abbrev s_Store_used : Stmt := inClass (top 11) 1
abbrev s_Store_exists : Stmt := inClass (top 11) 2
abbrev s_Store_numbers : Stmt := inClass (top 11) 3
abbrev s_Store_free_number : Stmt := inClass (top 11) 4
abbrev s_Store_allocate : Stmt := inClass (top 11) 5
abbrev s_Store_size : Stmt := inClass (top 11) 6
abbrev s_Store_kind : Stmt := inClass (top 11) 7
abbrev s_Store_set_kind : Stmt := inClass (top 11) 8
abbrev s_Store_get : Stmt := inClass (top 11) 9
abbrev s_Store_put : Stmt := inClass (top 11) 10
abbrev s_Store_slots : Stmt := inClass (top 11) 11
abbrev s_Store_drop : Stmt := inClass (top 11) 12
abbrev s_Store_close_up : Stmt := inClass (top 11) 13
abbrev s_Store_snapshot : Stmt := inClass (top 11) 14
abbrev s_Store_restore : Stmt := inClass (top 11) 15
abbrev s_Store_exchange : Stmt := inClass (top 11) 16
abbrev s_reached : Stmt := top 13
abbrev s_collect : Stmt := top 14
abbrev s_target : Stmt := top 17
abbrev s_row_of : Stmt := top 18
abbrev s_word_at : Stmt := top 20
abbrev s_paths : Stmt := top 21
abbrev s_garbage : Stmt := top 22
abbrev s_Space___init__ : Stmt := inClass (top 25) 0
abbrev s_Space_root : Stmt := inClass (top 25) 2
abbrev s_Space_set_root : Stmt := inClass (top 25) 3
abbrev s_Space_hold : Stmt := inClass (top 25) 4
abbrev s_Space_drop : Stmt := inClass (top 25) 5
abbrev s_Space_held : Stmt := inClass (top 25) 6
abbrev s_Space_all_roots : Stmt := inClass (top 25) 7
abbrev s_Space_collect : Stmt := inClass (top 25) 8
abbrev s_Space_live_words : Stmt := inClass (top 25) 9
abbrev s_Space_new : Stmt := inClass (top 25) 10
abbrev s_Space_begin : Stmt := inClass (top 25) 11
abbrev s_Space_commit : Stmt := inClass (top 25) 12
abbrev s_Space_abort : Stmt := inClass (top 25) 13
abbrev s_Space__collect_beside : Stmt := inClass (top 25) 14
abbrev s__law_number : Stmt := top 27
abbrev s__law_word : Stmt := top 28
abbrev s__law_is : Stmt := top 29
abbrev s__law_same : Stmt := top 30
abbrev s__law_sizes : Stmt := top 31
abbrev s__law_rows : Stmt := top 32
abbrev s__law_roots : Stmt := top 33
abbrev s__law_space : Stmt := top 34
abbrev s__law_walk : Stmt := top 35
abbrev s__law_extended : Stmt := top 36
abbrev s__law_best : Stmt := top 37
abbrev s__law_path_is : Stmt := top 38
abbrev s__law_told : Stmt := top 39
abbrev s__law_drawn : Stmt := top 40
abbrev s__law_kept : Stmt := top 41
abbrev s_law : Stmt := top 42
theorem sc__wall : FnScope ["k"] ["k"] (defScope s__wall) := ⟨rfl, rfl, rfl, by decide +kernel, rfl, by decide +kernel, by decide +kernel⟩
theorem sc_NoRoom___init__ : FnScope ["self", "need"] ["self", "need"] (defScope s_NoRoom___init__) := ⟨rfl, rfl, rfl, by decide +kernel, rfl, by decide +kernel, by decide +kernel⟩
theorem sc_NoNumber___init__ : FnScope ["self", "limit"] ["self", "limit"] (defScope s_NoNumber___init__) := ⟨rfl, rfl, rfl, by decide +kernel, rfl, by decide +kernel, by decide +kernel⟩
theorem sc_is_ref : FnScope ["word"] ["word"] (defScope s_is_ref) := ⟨rfl, rfl, rfl, by decide +kernel, rfl, by decide +kernel, by decide +kernel⟩
theorem sc_Store___init__ : FnScope ["self", "room", "entries"] ["self", "room", "entries"] (defScope s_Store___init__) := ⟨rfl, rfl, rfl, by decide +kernel, rfl, by decide +kernel, by decide +kernel⟩
theorem sc_Store_used : FnScope ["self"] ["self"] (defScope s_Store_used) := ⟨rfl, rfl, rfl, by decide +kernel, rfl, by decide +kernel, by decide +kernel⟩
theorem sc_Store_exists : FnScope ["self", "number"] ["self", "number"] (defScope s_Store_exists) := ⟨rfl, rfl, rfl, by decide +kernel, rfl, by decide +kernel, by decide +kernel⟩
theorem sc_Store_numbers : FnScope ["self"] ["self"] (defScope s_Store_numbers) := ⟨rfl, rfl, rfl, by decide +kernel, rfl, by decide +kernel, by decide +kernel⟩
theorem sc_Store_free_number : FnScope ["self"] ["self"] (defScope s_Store_free_number) := ⟨rfl, rfl, rfl, by decide +kernel, rfl, by decide +kernel, by decide +kernel⟩
theorem sc_Store_allocate : FnScope ["self", "kind", "size", "need", "number"] ["self", "kind", "size"] (defScope s_Store_allocate) := ⟨rfl, rfl, rfl, by decide +kernel, rfl, by decide +kernel, by decide +kernel⟩
theorem sc_Store_size : FnScope ["self", "number"] ["self", "number"] (defScope s_Store_size) := ⟨rfl, rfl, rfl, by decide +kernel, rfl, by decide +kernel, by decide +kernel⟩
theorem sc_Store_kind : FnScope ["self", "number"] ["self", "number"] (defScope s_Store_kind) := ⟨rfl, rfl, rfl, by decide +kernel, rfl, by decide +kernel, by decide +kernel⟩
theorem sc_Store_set_kind : FnScope ["self", "number", "word"] ["self", "number", "word"] (defScope s_Store_set_kind) := ⟨rfl, rfl, rfl, by decide +kernel, rfl, by decide +kernel, by decide +kernel⟩
theorem sc_Store_get : FnScope ["self", "number", "at"] ["self", "number", "at"] (defScope s_Store_get) := ⟨rfl, rfl, rfl, by decide +kernel, rfl, by decide +kernel, by decide +kernel⟩
theorem sc_Store_put : FnScope ["self", "number", "at", "word"] ["self", "number", "at", "word"] (defScope s_Store_put) := ⟨rfl, rfl, rfl, by decide +kernel, rfl, by decide +kernel, by decide +kernel⟩
theorem sc_Store_slots : FnScope ["self", "number", "first"] ["self", "number"] (defScope s_Store_slots) := ⟨rfl, rfl, rfl, by decide +kernel, rfl, by decide +kernel, by decide +kernel⟩
theorem sc_Store_drop : FnScope ["self", "number"] ["self", "number"] (defScope s_Store_drop) := ⟨rfl, rfl, rfl, by decide +kernel, rfl, by decide +kernel, by decide +kernel⟩
theorem sc_Store_close_up : FnScope ["self", "kept", "places", "at", "number", "end"] ["self"] (defScope s_Store_close_up) := ⟨rfl, rfl, rfl, by decide +kernel, rfl, by decide +kernel, by decide +kernel⟩
theorem sc_Store_snapshot : FnScope ["self"] ["self"] (defScope s_Store_snapshot) := ⟨rfl, rfl, rfl, by decide +kernel, rfl, by decide +kernel, by decide +kernel⟩
theorem sc_Store_restore : FnScope ["self", "snapshot"] ["self", "snapshot"] (defScope s_Store_restore) := ⟨rfl, rfl, rfl, by decide +kernel, rfl, by decide +kernel, by decide +kernel⟩
theorem sc_Store_exchange : FnScope ["self", "first", "second"] ["self", "first", "second"] (defScope s_Store_exchange) := ⟨rfl, rfl, rfl, by decide +kernel, rfl, by decide +kernel, by decide +kernel⟩
theorem sc_reached : FnScope ["store", "roots", "found", "waiting", "row", "word", "number"] ["store", "roots"] (defScope s_reached) := ⟨rfl, rfl, rfl, by decide +kernel, rfl, by decide +kernel, by decide +kernel⟩
theorem sc_collect : FnScope ["store", "roots", "kept", "number", "lost"] ["store", "roots"] (defScope s_collect) := ⟨rfl, rfl, rfl, by decide +kernel, rfl, by decide +kernel, by decide +kernel⟩
theorem sc_target : FnScope ["store", "word"] ["store", "word"] (defScope s_target) := ⟨rfl, rfl, rfl, by decide +kernel, rfl, by decide +kernel, by decide +kernel⟩
theorem sc_row_of : FnScope ["store", "number"] ["store", "number"] (defScope s_row_of) := ⟨rfl, rfl, rfl, by decide +kernel, rfl, by decide +kernel, by decide +kernel⟩
theorem sc_word_at : FnScope ["space", "path", "row", "word", "at", "k", "number"] ["space", "path"] (defScope s_word_at) := ⟨rfl, rfl, rfl, by decide +kernel, rfl, by decide +kernel, by decide +kernel⟩
theorem sc_paths : FnScope ["space", "store", "found", "order", "row", "beginning", "at", "k", "word", "number"] ["space"] (defScope s_paths) := ⟨rfl, rfl, rfl, by decide +kernel, rfl, by decide +kernel, by decide +kernel⟩
theorem sc_garbage : FnScope ["space", "found", "number"] ["space"] (defScope s_garbage) := ⟨rfl, rfl, rfl, by decide +kernel, rfl, by decide +kernel, by decide +kernel⟩
theorem sc_Space___init__ : FnScope ["self", "room", "entries"] ["self", "room", "entries"] (defScope s_Space___init__) := ⟨rfl, rfl, rfl, by decide +kernel, rfl, by decide +kernel, by decide +kernel⟩
theorem sc_Space_root : FnScope ["self", "k"] ["self", "k"] (defScope s_Space_root) := ⟨rfl, rfl, rfl, by decide +kernel, rfl, by decide +kernel, by decide +kernel⟩
theorem sc_Space_set_root : FnScope ["self", "k", "word"] ["self", "k", "word"] (defScope s_Space_set_root) := ⟨rfl, rfl, rfl, by decide +kernel, rfl, by decide +kernel, by decide +kernel⟩
theorem sc_Space_hold : FnScope ["self", "word"] ["self", "word"] (defScope s_Space_hold) := ⟨rfl, rfl, rfl, by decide +kernel, rfl, by decide +kernel, by decide +kernel⟩
theorem sc_Space_drop : FnScope ["self", "count"] ["self", "count"] (defScope s_Space_drop) := ⟨rfl, rfl, rfl, by decide +kernel, rfl, by decide +kernel, by decide +kernel⟩
theorem sc_Space_held : FnScope ["self"] ["self"] (defScope s_Space_held) := ⟨rfl, rfl, rfl, by decide +kernel, rfl, by decide +kernel, by decide +kernel⟩
theorem sc_Space_all_roots : FnScope ["self"] ["self"] (defScope s_Space_all_roots) := ⟨rfl, rfl, rfl, by decide +kernel, rfl, by decide +kernel, by decide +kernel⟩
theorem sc_Space_collect : FnScope ["self"] ["self"] (defScope s_Space_collect) := ⟨rfl, rfl, rfl, by decide +kernel, rfl, by decide +kernel, by decide +kernel⟩
theorem sc_Space_live_words : FnScope ["self"] ["self"] (defScope s_Space_live_words) := ⟨rfl, rfl, rfl, by decide +kernel, rfl, by decide +kernel, by decide +kernel⟩
theorem sc_Space_new : FnScope ["self", "kind", "size"] ["self", "kind", "size"] (defScope s_Space_new) := ⟨rfl, rfl, rfl, by decide +kernel, rfl, by decide +kernel, by decide +kernel⟩
theorem sc_Space_begin : FnScope ["self"] ["self"] (defScope s_Space_begin) := ⟨rfl, rfl, rfl, by decide +kernel, rfl, by decide +kernel, by decide +kernel⟩
theorem sc_Space_commit : FnScope ["self"] ["self"] (defScope s_Space_commit) := ⟨rfl, rfl, rfl, by decide +kernel, rfl, by decide +kernel, by decide +kernel⟩
theorem sc_Space_abort : FnScope ["self"] ["self"] (defScope s_Space_abort) := ⟨rfl, rfl, rfl, by decide +kernel, rfl, by decide +kernel, by decide +kernel⟩
theorem sc_Space__collect_beside : FnScope ["self", "words"] ["self", "words"] (defScope s_Space__collect_beside) := ⟨rfl, rfl, rfl, by decide +kernel, rfl, by decide +kernel, by decide +kernel⟩
theorem sc__law_number : FnScope ["cell", "k", "mixed"] ["cell", "k"] (defScope s__law_number) := ⟨rfl, rfl, rfl, by decide +kernel, rfl, by decide +kernel, by decide +kernel⟩
theorem sc__law_word : FnScope ["x", "many", "rest"] ["x", "many"] (defScope s__law_word) := ⟨rfl, rfl, rfl, by decide +kernel, rfl, by decide +kernel, by decide +kernel⟩
theorem sc__law_is : FnScope ["actual", "due"] ["actual", "due"] (defScope s__law_is) := ⟨rfl, rfl, rfl, by decide +kernel, rfl, by decide +kernel, by decide +kernel⟩
theorem sc__law_same : FnScope ["actual", "due", "k"] ["actual", "due"] (defScope s__law_same) := ⟨rfl, rfl, rfl, by decide +kernel, rfl, by decide +kernel, by decide +kernel⟩
theorem sc__law_sizes : FnScope ["x", "count", "rest", "sizes", "k", "y"] ["x"] (defScope s__law_sizes) := ⟨rfl, rfl, rfl, by decide +kernel, rfl, by decide +kernel, by decide +kernel⟩
theorem sc__law_rows : FnScope ["sizes", "x", "rows", "rest", "k", "y", "row", "at"] ["sizes", "x"] (defScope s__law_rows) := ⟨rfl, rfl, rfl, by decide +kernel, rfl, by decide +kernel, by decide +kernel⟩
theorem sc__law_roots : FnScope ["many", "x", "words", "rest", "k", "y"] ["many", "x"] (defScope s__law_roots) := ⟨rfl, rfl, rfl, by decide +kernel, rfl, by decide +kernel, by decide +kernel⟩
theorem sc__law_space : FnScope ["rows", "words", "space", "k", "at"] ["rows", "words"] (defScope s__law_space) := ⟨rfl, rfl, rfl, by decide +kernel, rfl, by decide +kernel, by decide +kernel⟩
theorem sc__law_walk : FnScope ["rows", "words", "path", "row", "word", "k"] ["rows", "words", "path"] (defScope s__law_walk) := ⟨rfl, rfl, rfl, by decide +kernel, rfl, by decide +kernel, by decide +kernel⟩
theorem sc__law_extended : FnScope ["rows", "found", "paths_here", "later", "number", "step"] ["rows", "found", "paths_here"] (defScope s__law_extended) := ⟨rfl, rfl, rfl, by decide +kernel, rfl, by decide +kernel, by decide +kernel⟩
theorem sc__law_best : FnScope ["rows", "words", "found", "row", "waiting", "length", "pair", "number", "k"] ["rows", "words"] (defScope s__law_best) := ⟨rfl, rfl, rfl, by decide +kernel, rfl, by decide +kernel, by decide +kernel⟩
theorem sc__law_path_is : FnScope ["told", "due", "k"] ["told", "due"] (defScope s__law_path_is) := ⟨rfl, rfl, rfl, by decide +kernel, rfl, by decide +kernel, by decide +kernel⟩
theorem sc__law_told : FnScope ["space", "rows", "words", "path", "due", "told"] ["space", "rows", "words", "path"] (defScope s__law_told) := ⟨rfl, rfl, rfl, by decide +kernel, rfl, by decide +kernel, by decide +kernel⟩
theorem sc__law_drawn : FnScope ["x", "rows", "words", "path", "row", "rest", "k", "step", "word"] ["x", "rows", "words"] (defScope s__law_drawn) := ⟨rfl, rfl, rfl, by decide +kernel, rfl, by decide +kernel, by decide +kernel⟩
theorem sc__law_kept : FnScope ["space", "rows", "words", "k", "numbers"] ["space", "rows", "words"] (defScope s__law_kept) := ⟨rfl, rfl, rfl, by decide +kernel, rfl, by decide +kernel, by decide +kernel⟩
theorem sc_law : FnScope ["script", "cells", "rows", "words", "space", "due", "told", "number", "k", "x", "cell"] ["script"] (defScope s_law) := ⟨rfl, rfl, rfl, by decide +kernel, rfl, by decide +kernel, by decide +kernel⟩

/-! ### words for all laws -/
abbrev cl (x : Str) : List Nat := x.cps.toList
theorem str1 {a c : Nat} : ((⟨#[a]⟩ : Str) = ⟨#[c]⟩) = (a = c) := by
  apply propext
  constructor
  · intro h
    have h2 := congrArg (fun x : Str => x.cps.toList) h
    simpa using h2
  · intro h
    rw [h]
theorem len_cl (x : Str) : x.length = (cl x).length := by
  show x.cps.size = x.cps.toList.length
  simp
theorem cl_append (x y : Str) : cl (x ++ y) = cl x ++ cl y := by
  show (x.cps ++ y.cps).toList = _
  simp
theorem at_cl (x : Str) (n : Nat) : x.cps[n]? = (cl x)[n]? := by
  show x.cps[n]? = x.cps.toList[n]?
  simp
theorem cl_nil {x : Str} : x = "" ↔ cl x = [] := by
  constructor
  · intro h
    rw [h]
    rfl
  · intro h
    have e : x.cps = #[] := by
      have := congrArg List.toArray h
      simpa using this
    have : x = ⟨x.cps⟩ := rfl
    rw [this, e]
    rfl
theorem sc_ii {i j : Int} : scal (.int i) (.int j) = true := rfl
theorem sc_ss {x y : Str} : scal (.str x) (.str y) = true := rfl
theorem sc_bb {a b : Bool} : scal (.bl a) (.bl b) = true := rfl
theorem cx_K {CX : CXT} {P : Program} {w : World} {K : PySem.W.Frag} {mg : Str → Option Value} {base : Heap} {N : List Str} {qual : Str} {scope : Scope} {f : Addr} {cd : Value} {A : Around} {outer : List Env} {s : Shared} {H : Hp} {E : XK} : (cxOf CX P w K mg base N qual scope f cd A outer s H E).K = K := rfl
/-! ### rules told over a tracked list as it stands: H p is looked up -/
def lstAt (H : Hp) (p : Addr) (R : List V → Prop) : Prop := match H p with
  | some (.lst xs) => R xs
  | _ => False
theorem lstAt_of {H : Hp} {p : Addr} {xs : List V} {R : List V → Prop} (h : H p = some (.lst xs)) : lstAt H p R = R xs := by
  unfold lstAt
  rw [h]
theorem lstAt_get {H : Hp} {p : Addr} {R : List V → Prop} (h : lstAt H p R) : ∃ xs, H p = some (.lst xs) ∧ R xs := by
  unfold lstAt at h
  split at h
  · rename_i xs e
    exact ⟨xs, e, h⟩
  · exact h.elim
def setI (xs : List V) (i : Int) (v : V) : Option (List V) := (ixN xs.length i).map fun j => xs.set j v
def rIxM : R2 := fun x y H Q => ∃ p i, x = .ref p ∧ y = .int i ∧ lstAt H p fun xs => ∃ v, atI xs i = some v ∧ Q v H
def rSetM : V → V → V → Hp → (Hp → Prop) → Prop := fun o i v H Q => ∃ p k, o = .ref p ∧ i = .int k ∧ lstAt H p fun xs => ∃ ys, setI xs k v = some ys ∧ Q (upd H p (.lst ys))
def rLenM : List V → Hp → VK → Prop := fun vs H Q => ∃ p, vs = [.ref p] ∧ lstAt H p fun xs => Q (.int xs.length) H
theorem atI_0 {α : Type} {a : α} {l : List α} : atI (a :: l) 0 = some a := by simp [atI, ixN]
theorem atI_1 {α : Type} {a b : α} {l : List α} : atI (a :: b :: l) 1 = some b := by
  have : ixN (a :: b :: l).length 1 = some 1 := by
    unfold ixN
    rw [if_pos (by omega), if_pos (by simp only [List.length_cons]; omega)]
    rfl
  unfold atI
  rw [this]
  rfl
theorem atI_2 {α : Type} {a b c : α} {l : List α} : atI (a :: b :: c :: l) 2 = some c := by
  have : ixN (a :: b :: c :: l).length 2 = some 2 := by
    unfold ixN
    rw [if_pos (by omega), if_pos (by simp only [List.length_cons]; omega)]
    rfl
  unfold atI
  rw [this]
  rfl
theorem atI_3 {α : Type} {a b c d : α} {l : List α} : atI (a :: b :: c :: d :: l) 3 = some d := by
  have : ixN (a :: b :: c :: d :: l).length 3 = some 3 := by
    unfold ixN
    rw [if_pos (by omega), if_pos (by simp only [List.length_cons]; omega)]
    rfl
  unfold atI
  rw [this]
  rfl
theorem setI_0 {a v : V} {l : List V} : setI (a :: l) 0 v = some (v :: l) := by simp [setI, ixN]
theorem setI_1 {a b v : V} {l : List V} : setI (a :: b :: l) 1 v = some (a :: v :: l) := by
  have : ixN (a :: b :: l).length 1 = some 1 := by
    unfold ixN
    rw [if_pos (by omega), if_pos (by simp only [List.length_cons]; omega)]
    rfl
  unfold setI
  rw [this]
  rfl
theorem setI_2 {a b c v : V} {l : List V} : setI (a :: b :: c :: l) 2 v = some (a :: b :: v :: l) := by
  have : ixN (a :: b :: c :: l).length 2 = some 2 := by
    unfold ixN
    rw [if_pos (by omega), if_pos (by simp only [List.length_cons]; omega)]
    rfl
  unfold setI
  rw [this]
  rfl
theorem setI_3 {a b c d v : V} {l : List V} : setI (a :: b :: c :: d :: l) 3 v = some (a :: b :: c :: v :: l) := by
  have : ixN (a :: b :: c :: d :: l).length 3 = some 3 := by
    unfold ixN
    rw [if_pos (by omega), if_pos (by simp only [List.length_cons]; omega)]
    rfl
  unfold setI
  rw [this]
  rfl
/-- isinstance of a plain value and a built-in type -/
def isTy : V → String → Option Bool
  | .bl _, T => L2.kitB "bool" T
  | .int _, T => L2.kitB "int" T
  | .str _, T => L2.kitB "str" T
  | .non, T => L2.kitB "NoneType" T
  | _, _ => none
def rIsS : List V → Hp → VK → Prop := fun xs H Q => ∃ x T, xs = [x, .ty T] ∧ ∃ b, isTy x T = some b ∧ Q (.bl b) H
theorem isTy_bb {b : Bool} : isTy (.bl b) "bool" = some true := by
  show L2.kitB "bool" "bool" = some true
  decide +kernel
theorem isTy_bi {b : Bool} : isTy (.bl b) "int" = some true := by
  show L2.kitB "bool" "int" = some true
  decide +kernel
theorem isTy_ib {i : Int} : isTy (.int i) "bool" = some false := by
  show L2.kitB "int" "bool" = some false
  decide +kernel
theorem isTy_ii {i : Int} : isTy (.int i) "int" = some true := by
  show L2.kitB "int" "int" = some true
  decide +kernel
theorem isTy_ss {x : Str} : isTy (.str x) "str" = some true := by
  show L2.kitB "str" "str" = some true
  decide +kernel
theorem isTy_nb : isTy .non "bool" = some false := by
  show L2.kitB "NoneType" "bool" = some false
  decide +kernel
theorem isTy_ni : isTy .non "int" = some false := by
  show L2.kitB "NoneType" "int" = some false
  decide +kernel
section
variable {X : Cx}
theorem call_isS : CallR X (.builtin "isinstance") rIsS := by
  intro pins s σ H xs us Q I r h
  obtain ⟨x, T, rfl, b, e, q⟩ := h
  have ty : ∃ t, TyX X.K H x (.type t) ∧ L2.kitB t T = some b := by
    cases x with
    | bl k => exact ⟨_, .base (.bl k), e⟩
    | int k => exact ⟨_, .base (.int k), e⟩
    | str k => exact ⟨_, .base (.str k), e⟩
    | non => exact ⟨_, .base .non, e⟩
    | byt k => cases e
    | flt k => cases e
    | ref k => cases e
    | ty k => cases e
  obtain ⟨t, ht, hk⟩ := ty
  exact call_isi pins s σ H _ us Q I r ⟨x, .ty T, .type t, .type T, b, rfl, .ty T, ht, kit_ty hk, q⟩
theorem ix_lstM : IxR X rIxM := by
  intro value slice pins s σ H x y v u Q I rx ry h hs
  obtain ⟨p, i, e1, e2, h⟩ := h
  obtain ⟨xs, hp, z, hz, q⟩ := lstAt_get h
  exact ix_list value slice pins s σ H x y v u Q I rx ry ⟨p, xs, i, z, e1, e2, .inl (.inl hp), hz, q⟩ hs
theorem set_lstM : PSet X rSetM := by
  intro pins s σ H o i v ov iv u Q I ro ri rv h
  obtain ⟨p, k, e1, e2, h⟩ := h
  obtain ⟨xs, hp, ys, hy, q⟩ := lstAt_get h
  unfold setI at hy
  cases hj : ixN xs.length k with
  | none =>
    rw [hj] at hy
    cases hy
  | some j =>
    rw [hj] at hy
    have hy2 : xs.set j v = ys := Option.some.inj hy
    subst hy2
    exact set_list pins s σ H o i v ov iv u Q I ro ri rv ⟨p, xs, k, j, e1, e2, hp, hj, q⟩
theorem call_lenM : CallR X (.builtin "len") rLenM := by
  intro pins s σ H xs us Q I r h
  obtain ⟨p, e, h⟩ := h
  obtain ⟨ys, hp, q⟩ := lstAt_get h
  exact call_len_seq pins s σ H xs us Q I r ⟨p, ys, e, .inl (.inl (.inl hp)), q⟩
/-- int(n) of an int -/
theorem call_intI : CallR X (.type "int") (fun xs H Q => ∃ i, xs = [.int i] ∧ Q (.int i) H) := fun pins s σ H xs us Q I r h => call_int1 pins s σ H xs us Q I r (Or.inl h)
end
theorem same_new {H : Hp} {p : Addr} {o : HO} (h : H p = none) : Same H (upd H p o) := fun b x e => by
  rw [upd_ne (ne_of_none e h)]
  exact e
/-! ### loops by an invariant, told over the loop's own reading -/
theorem for_rng {ta : TA} {g : TG} {tb : TS} {D : Ends} {σ : L2.St} {H : Hp} (j : Int) (hta : ∀ R : List V → Hp → Prop, R [.int j] H → ta σ H R) (h0 : 0 ≤ j) (h1 : j < 2 ^ 62) (Pv : Nat → L2.St → Hp → Prop) (hp : Pv 0 σ H)
    (hs : ∀ (i : Nat) σ H, (i : Int) < j → Pv i σ H → g (.int (i : Int)) σ H fun σ2 H2 => tb { D with nx := Pv (i + 1), ct := Pv (i + 1), bk := D.nx } σ2 H2) (hd : ∀ σ H, Pv j.toNat σ H → D.nx σ H) : tFor (iRng1 ta) g tb D σ H := by
  refine hta _ ⟨j, rfl, by omega, h1, for_range (lo := 0) (n := j.toNat) Pv hp (fun i σ H hi pv => ?_) hd⟩
  rw [Int.zero_add]
  exact hs i σ H (by omega) pv
theorem for_rng2 {ta : TA} {g : TG} {tb : TS} {D : Ends} {σ : L2.St} {H : Hp} (l j : Int) (hta : ∀ R : List V → Hp → Prop, R [.int l, .int j] H → ta σ H R) (h0 : -(2 ^ 62) ≤ l) (h2 : l < 2 ^ 62) (h3 : -(2 ^ 62) ≤ j) (h1 : j < 2 ^ 62) (Pv : Nat → L2.St → Hp → Prop) (hp : Pv 0 σ H)
    (hs : ∀ (i : Nat) σ H, l + (i : Int) < j → Pv i σ H → g (.int (l + (i : Int))) σ H fun σ2 H2 => tb { D with nx := Pv (i + 1), ct := Pv (i + 1), bk := D.nx } σ2 H2) (hd : ∀ σ H, Pv (j - l).toNat σ H → D.nx σ H) : tFor (iRng2 ta) g tb D σ H :=
  hta _ ⟨l, j, rfl, ⟨h0, h2, h3, h1⟩, for_range (lo := l) (n := (j - l).toNat) Pv hp (fun i σ H hi pv => hs i σ H (by omega) pv) hd⟩
theorem for_lst {K : PySem.W.Frag} {tl : TE} {g : TG} {tb : TS} {D : Ends} {σ : L2.St} {H H0 : Hp} {a : Addr} (xs : List V) (htl : ∀ R : V → Hp → Prop, R (.ref a) H0 → tl σ H R) (Pv : Nat → L2.St → Hp → Prop) (hp : Pv 0 σ H0) (hl : ∀ i σ H, i ≤ xs.length → Pv i σ H → SqL K H a xs)
    (hs : ∀ i x σ H, xs[i]? = some x → Pv i σ H → g x σ H fun σ2 H2 => tb { D with nx := Pv (i + 1), ct := Pv (i + 1), bk := D.nx } σ2 H2) (hd : ∀ σ H, Pv xs.length σ H → D.nx σ H) : tFor (iList K tl) g tb D σ H :=
  htl _ ⟨a, rfl, ⟨xs, hl 0 σ H0 (Nat.zero_le _) hp⟩, L2.for_list (K := K) (a := a) (xs := xs) Pv hp hl hs hd⟩
/-- [f(x) for x in a list of ints], the element an int that is reckoned from x alone -/
theorem lc_ints {K : PySem.W.Frag} {tl te : TE} {c : Nat} {σ : L2.St} {H : Hp} {Q : VK} {a : Addr} {ns : List Int} (f : Int → Int) (htl : ∀ R : V → Hp → Prop, R (.ref a) H → tl σ H R) (ha : SqL K H a (ns.map V.int)) (hc : c < σ.length) (hn : ns.length ≤ 100000)
    (hte : ∀ (σ' : L2.St) (H' : Hp) (z : Int) (R : VK), σ'[c]? = some (some (.int z)) → R (.int (f z)) H' → te σ' H' R) (k : ∀ D, H D = none → Q (.ref D) (upd H D (.lst (ns.map fun z => .int (f z))))) : tLc (iList K tl) (gName c) tYes te [c] σ H Q := by
  refine htl _ ⟨a, rfl, ⟨_, ha⟩, fun D hD => lc_list (K := K) (a := a) (xs := ns.map V.int) (fun i H' => H' = upd H D (.lst ((ns.take i).map fun z => .int (f z)))) (by rw [List.take_zero]; rfl) (fun i H' _ e => ?_) ?_ ?_⟩
  · rw [e]
    exact (same_new hD).seq ha
  · rintro i x H' hx rfl
    rw [List.getElem?_map] at hx
    cases hz : ns[i]? with
    | none =>
      rw [hz] at hx
      cases hx
    | some z =>
      rw [hz] at hx
      have ex : V.int z = x := Option.some.inj hx
      subst ex
      have hlt : i < ns.length := (List.getElem?_eq_some_iff.mp hz).1
      refine ⟨?_, ?_⟩
      · show List.set (List.set (List.set σ c none) c _) c none = List.set σ c none
        rw [List.set_set, List.set_set]
      · simp only [tYes, if_true]
        refine hte _ _ z _ ?_ ⟨_, upd_same, ?_, ?_⟩
        · show (List.set (List.set σ c none) c _)[c]? = _
          rw [List.getElem?_set_self (by rw [List.length_set]; exact hc)]
        · rw [List.length_map, List.length_take]
          exact Nat.lt_of_le_of_lt (Nat.min_le_left _ _) (Nat.lt_of_lt_of_le (by omega : i < 100000) (by decide))
        · rw [upd_upd, List.take_add_one, hz, List.map_append]
          rfl
  · rintro H' rfl
    rw [List.length_map, List.take_length]
    exact k D hD

/-! ### dicts, told over a tracked dict as it stands -/
def dcAt (H : Hp) (p : Addr) (R : List (Key × V) → Prop) : Prop := match H p with
  | some (.dK kvs) => R kvs
  | _ => False
theorem dcAt_get {H : Hp} {p : Addr} {R : List (Key × V) → Prop} (h : dcAt H p R) : ∃ kvs, H p = some (.dK kvs) ∧ R kvs := by
  unfold dcAt at h
  split at h
  · rename_i kvs e
    exact ⟨kvs, e, h⟩
  · exact h.elim
/-- .. read, though it may be locked -/
def dcRd (H : Hp) (p : Addr) (R : List (Key × V) → Prop) : Prop := match H p with
  | some (.dK kvs) => R kvs
  | some (.frz _ (.dK kvs)) => R kvs
  | _ => False
theorem dcRd_get {H : Hp} {p : Addr} {R : List (Key × V) → Prop} (h : dcRd H p R) : ∃ kvs, Rd H p (.dK kvs) ∧ R kvs := by
  unfold dcRd at h
  split at h
  · rename_i kvs e
    exact ⟨kvs, .inl e, h⟩
  · rename_i o kvs e
    exact ⟨kvs, .inr ⟨o, e⟩, h⟩
  · exact h.elim
def keyOf : V → Option Key
  | .int i => some (Sum.inl i)
  | .str x => some (Sum.inr x)
  | _ => none
theorem keyOf_kV {y : V} {k : Key} (h : keyOf y = some k) : y = kV k := by
  cases y <;> first | (cases h; rfl) | cases h
theorem keyOf_int {i : Int} : keyOf (.int i) = some (Sum.inl i) := rfl
theorem keyOf_str {x : Str} : keyOf (.str x) = some (Sum.inr x) := rfl
theorem kV_int {i : Int} {k : Key} : (V.int i = kV k) = (Sum.inl i = k) := by
  apply propext
  cases k with
  | inl j => exact ⟨(fun h => by cases h; rfl), (fun h => by cases h; rfl)⟩
  | inr x => exact ⟨(fun h => by cases h), (fun h => by cases h)⟩
theorem kV_str {x : Str} {k : Key} : (V.str x = kV k) = (Sum.inr x = k) := by
  apply propext
  cases k with
  | inl j => exact ⟨(fun h => by cases h), (fun h => by cases h)⟩
  | inr y => exact ⟨(fun h => by cases h; rfl), (fun h => by cases h; rfl)⟩
def rDInM (neg : Bool) : R2 := fun y x H Q => ∃ a, x = .ref a ∧ ∃ k, keyOf y = some k ∧ dcRd H a fun kvs => Q (.bl (if neg then !(valV kvs k).isSome else (valV kvs k).isSome)) H
def rDGetM : R2 := fun x y H Q => ∃ a, x = .ref a ∧ ∃ k, keyOf y = some k ∧ dcRd H a fun kvs => ∃ v, valV kvs k = some v ∧ Q v H
def rDSetM : V → V → V → Hp → (Hp → Prop) → Prop := fun o i v H Q => ∃ a, o = .ref a ∧ ∃ k, keyOf i = some k ∧ dcAt H a fun kvs => kvs.length < sizeLine ∧ Q (upd H a (.dK (putK kvs k v)))
def rDLenM : List V → Hp → VK → Prop := fun vs H Q => ∃ a, vs = [.ref a] ∧ dcAt H a fun kvs => Q (.int kvs.length) H
section
variable {X : Cx}
theorem op_dinM (hu : X.A.units + 1 < cLine) : OpR X (compareOp .In) (rDInM false) := by
  intro pins s σ H y x u v Q I ry rx h
  obtain ⟨a, rfl, k, hk, h⟩ := h
  obtain ⟨kvs, hp, q⟩ := dcRd_get h
  obtain rfl : v = Value.ref a := rx
  have e := keyOf_kV hk
  subst e
  exact d_in hu I (.inl ⟨kvs, k, hp, rfl, rfl⟩) ry fun s3 I3 => ⟨.bl (valV kvs k).isSome, H, I3, rfl, q⟩
theorem op_dnotinM (hu : X.A.units + 1 < cLine) : OpR X (compareOp .NotIn) (rDInM true) := by
  intro pins s σ H y x u v Q I ry rx h
  obtain ⟨a, rfl, k, hk, h⟩ := h
  obtain ⟨kvs, hp, q⟩ := dcRd_get h
  obtain rfl : v = Value.ref a := rx
  have e := keyOf_kV hk
  subst e
  exact d_notIn hu I (.inl ⟨kvs, k, hp, rfl, rfl⟩) ry fun s3 I3 => ⟨.bl (!(valV kvs k).isSome), H, I3, rfl, q⟩
theorem ix_dictM (hu : X.A.units + 1 < cLine) : IxR X rDGetM := by
  intro value slice pins s σ H x y v u Q I rx ry h hs
  obtain ⟨a, rfl, k, hk, h⟩ := h
  obtain ⟨kvs, hp, z, hz, q⟩ := dcRd_get h
  obtain rfl : v = Value.ref a := rx
  have e := keyOf_kV hk
  subst e
  have g : DGet H a (kV k) (some z) := by
    rw [← hz]
    exact .inl ⟨kvs, k, hp, rfl, rfl⟩
  exact tail_any (dict_typeIs I g) PySem.F.slot_dict_getitem.lookup (d_getItem hu I g ry fun w' s3 I3 rw' => ⟨z, H, I3, rw', q⟩) hs
theorem set_dictM (hu : X.A.units + 1 < cLine) : PSet X rDSetM := by
  intro pins s σ H o i v ov iv u Q I ro ri rv h
  obtain ⟨a, rfl, k, hk, h⟩ := h
  obtain ⟨kvs, hp, hl, q⟩ := dcAt_get h
  obtain rfl : ov = Value.ref a := ro
  have e := keyOf_kV hk
  subst e
  exact d_setItem hu I (.k hp hl) ri rv fun s4 I4 => ⟨_, I4, q⟩
theorem call_lenDM : CallR X (.builtin "len") rDLenM := by
  intro pins s σ H xs us Q I r h
  obtain ⟨a, e, h⟩ := h
  obtain ⟨kvs, hp, q⟩ := dcAt_get h
  exact call_lenD pins s σ H xs us Q I r ⟨a, kvs, e, hp, q⟩
end
/-! ### own errors with fields -/
/-- what the written part says of an own error class at C, its __init__ at fI -/
structure ExF (K : PySem.W.Frag) (C fI : Addr) : Prop where
  o : OexC K C
  x : XfC K C
  ic : PySem.W.findIn K (.ref C) "__init__" = some (some (.ref fI))
  ti : PySem.W.typeIn K (.ref fI) = some (.type "function")
  ha : PySem.W.findIn K (.ref C) "__class__" = some (some (.builtin "object.__class__"))
  hn : PySem.W.specialIn K (.builtin "object.__class__") "__get__" = some (some (.builtin "getset_descriptor.__get__"))
  ht : PySem.W.takesIn K (.builtin "object.__class__") = some true
  hm : PySem.W.mroIn K C (.type "object") = some true
/-- __init__ of an error with one field, with two -/
def sp_ex1 (C : Addr) (f : Str) : Sp := fun vs H Q _ => ∃ (a : Addr) (v : V), vs = [.ref a, v] ∧ H a = some (exo a C none) ∧ ∀ dx, H dx = none → dx ≠ a → Q .non (upd (upd H dx (exd dx [(f, v)])) a (exo a C (some dx)))
def sp_ex2 (C : Addr) (f g : Str) : Sp := fun vs H Q _ => ∃ (a : Addr) (v w : V), vs = [.ref a, v, w] ∧ H a = some (exo a C none) ∧
  ∀ dx, H dx = none → dx ≠ a → Q .non (upd (upd (upd H dx (exd dx [(f, v)])) a (exo a C (some dx))) dx (exd dx [(g, w), (f, v)]))
/-- raise C(e), raise C(e, e2) -/
def tRz1 (C : Addr) (f : Str) (W : WX) (ta : TA) : TS := fun _ σ H => ta σ H fun vs H1 => ∃ v, vs = [v] ∧ ∀ d, H1 d = none → W (.ref C) (some d) σ (upd H1 d (.xd [(f, v)]))
def tRz2 (C : Addr) (f g : Str) (W : WX) (ta : TA) : TS := fun _ σ H => ta σ H fun vs H1 => ∃ v w, vs = [v, w] ∧ ∀ d, H1 d = none → W (.ref C) (some d) σ (upd H1 d (.xd [(g, w), (f, v)]))
theorem del_upd_upd {H : Hp} {a dx : Addr} {o1 o2 : HO} {o3 : HO} {o0 : HO} (ha : H a = none) (ne : dx ≠ a) : upd (del (upd (upd (upd H a o0) dx o1) a o2) a) dx o3 = upd H dx o3 := by
  funext b
  by_cases hb : b = dx
  · subst hb
    rw [upd_same, upd_same]
  · rw [upd_ne hb, upd_ne hb]
    by_cases hba : b = a
    · subst hba
      rw [del_same, ha]
    · rw [del_ne hba, upd_ne hba, upd_ne hb, upd_ne hba]
theorem del_upd_upd2 {H : Hp} {a dx : Addr} {o0 o1 o2 o3 o4 : HO} (ha : H a = none) (ne : dx ≠ a) : upd (del (upd (upd (upd (upd H a o0) dx o1) a o2) dx o3) a) dx o4 = upd H dx o4 := by
  funext b
  by_cases hb : b = dx
  · subst hb
    rw [upd_same, upd_same]
  · rw [upd_ne hb, upd_ne hb]
    by_cases hba : b = a
    · subst hba
      rw [del_same, ha]
    · rw [del_ne hba, upd_ne hb, upd_ne hba, upd_ne hb, upd_ne hba]
theorem pa_at {X : Cx} {es : List Expr} {ta : TA} {σ0 : L2.St} {H0 : Hp} {R : List V → Hp → Prop} (ha : PA X es ta) (h0 : ta σ0 H0 R) : PA X es (fun σ H Q => σ = σ0 ∧ H = H0 ∧ ∀ vs H1, R vs H1 → Q vs H1) := by
  refine ⟨fun pos pins s σ H Q I h => ?_⟩
  obtain ⟨e1, e2, hk⟩ := h
  subst e1 e2
  exact thn (ha.run pos pins s σ H _ I h0) fun us s1 ⟨vs, H1, I1, r, q⟩ => ⟨vs, H1, I1, r, hk vs H1 q⟩
section
variable {X : Cx} {C fI : Addr} {k : Nat} {fd : FuncData} {x f g : Str} {W : WX} {ta : TA} {e : Expr} {es : List Expr} {p pos pos2 : Pos}
/-- C(e, ..) where nothing is handled: the error that comes has no context -/
theorem pmkN {CX0' : CXT} {ps : List Str} {sp : Sp} (T : ExF X.K C fI) (F1 : FnOk X.prog X.w X.K X.mg X.base CX0' k fI fd ps sp) (hr : Room (k + 1) X.A) (hb : Binds X.K fd ps []) (hx : Passes CX0' X (fun _ _ _ => False)) (hg : Gl X x) (hm : X.mg x = some (.ref C)) (ha : PA X (e :: es) ta)
    (hdb : (x == ("__debug__" : Str)) = false) (he : starEach (e :: es) X.env = (false, eval e X.env) :: starEach es X.env) (hpl : (backTo pos (starEach es X.env)).any (·.1) = false) :
    L2N.PMk X (.Call (.Name x p) (e :: es) [] pos) (tMkO C sp [] ta) := by
  intro pn0 st sg Hh Qq J hh
  obtain ⟨_, _, _, _, lb, _, _, _, _, _, _, _, _, _, _, hCl, hRef⟩ := T.o.cls
  refine wpAny_Call_Name_kw (ld_glob J hg hm ?_ hdb)
  refine PySem.W.callWith_K (h₀ := X.base) J.ok.mod.kin T.o.kC (thn (ha.run pos pn0 st sg Hh _ J hh) fun us st1 hx1 => ?_) he hpl
  obtain ⟨vs, G1, J1, rl, hz, hq0⟩ := hx1
  refine ⟨J1.kIn, ?_⟩
  show wpAny _ _ (call (.ref C) us) _ _ _
  obtain ⟨hp, gs, dr, tks, osx⟩ := st1
  have two : ∀ b o, hp.get? b = some o → ((hp.push (PySem.W.kdv_tup us)).push (PySem.HandSPX.excO C hp.objs.size)).get? b = some o := fun b o q => Heap.get?_push_of_some _ (Heap.get?_push_of_some _ q)
  have here : ((hp.push (PySem.W.kdv_tup us)).push (PySem.HandSPX.excO C hp.objs.size)).get? (hp.objs.size + 1) = some (PySem.HandSPX.excO C hp.objs.size) := by heap_get
  generalize hN : hp.objs.size + 1 = n at here
  have big : hp.objs.size ≤ n := by omega
  have hq := hq0 n (J1.hok.fresh big)
  rw [List.append_nil] at hq
  have J2 := J1.laid (t' := tks) (a := n) (o := exo n C none) two big (exo_ok here)
  have rl2 : Vals (V.ref n :: vs) (Value.ref n :: us) := .cons rfl rl
  have len2 : (Value.ref n :: us ++ []).length = ps.length := by
    rw [List.append_nil, ← rl2.length]
    exact F1.len _ _ _ _ hq
  have few : us.length ≤ sizeLine := by
    have := Paired.length rl
    rw [sizeLine_eq]
    omega
  have bnd := hb _ (Value.ref n :: us) J2.kIn len2
  rw [List.append_nil] at bnd
  have run := F1.run _ X.stack _ _ ⟨Value.ref n :: us, []⟩ (Value.ref n :: us) _ _ (fun _ _ _ => False) (hr.make C us []) (J2.env0.make C us []) bnd rl2 hq
  subst hN
  refine wpAny_call (PySem.HandSPX.call_own F.excBase_ValueError (fun Y => PySem.HandSPX.refsVE_contains Y lb hRef) (J1.kIn _ _ hCl) (PySem.W.looks_findIn J1.kIn T.ic) (fun me => PySem.W.bind_fn J1.kIn me T.ti) few (codeAny_mono run fun res st2 hres => ?_))
  cases res with
  | error er => exact hx pn0 sg _ _ er st2 J2 hres
  | ok fl =>
    cases fl with
    | next => exact hres.elim
    | brk => exact hres.elim
    | cont => exact hres.elim
    | ret u =>
      obtain ⟨v, G2, o2, b2, u2, k2, rv, ev, d, fs, ea, ed, hd1, q2⟩ := hres
      subst ev
      obtain ⟨hp2, gs2, dr2, tk2, os2⟩ := st2
      obtain ⟨t0, G, J3, kG, ge, hoe, na⟩ := mk_end0 (d2 := dr2) (t2 := tk2) J1 big two u2 k2 o2 b2 ea ed hd1
      exact ⟨rv, _, _, _, ⟨G, gs2, dr2, tk2, os2⟩, _, .ref C, some d, rfl, J3, kG, ge, hoe, ⟨rfl, rfl, fun ws hw => by cases hw; rfl⟩, rfl, rfl, na, rfl, b2, raises_own T.o.exC T.o.tyC, q2⟩
theorem ps_rz1 {ps : List Str} (hc : X.calm = true) (T : ExF X.K C fI) (F : FnOk X.prog X.w X.K X.mg X.base CX0 k fI fd ps (sp_ex1 C f)) (hr : Room (k + 1) X.A) (hb : Binds X.K fd ps []) (tk : L2N.Takes X W) (hg : Gl X x) (hm : X.mg x = some (.ref C)) (ha : PA X (e :: es) ta)
    (hdb : (x == ("__debug__" : Str)) = false := by decide) (he : starEach (e :: es) X.env = (false, eval e X.env) :: starEach es X.env := by rfl) (hpl : (backTo pos (starEach es X.env)).any (·.1) = false := by rfl) :
    PS X (.Raise (some (.Call (.Name x p) (e :: es) [] pos)) none pos2) (tRz1 C f W ta) := by
  refine ⟨fun pins s σ H D I h => ?_⟩
  have key := L2N.ps_raise (pos := pos2) hc tk (pmkN (p := p) T F hr hb pass0 hg hm (pa_at ha h) hdb he hpl)
  refine key.run pins s σ H D I ⟨rfl, rfl, fun vs H1 hk => ?_⟩
  obtain ⟨v, rfl, hw⟩ := hk
  refine ⟨by show 1 ≤ 1000; decide, fun a ha2 => ⟨a, v, rfl, upd_same, fun dx hdx ne => ⟨rfl, dx, [(f, v)], upd_same, ?_, ?_, ?_⟩⟩⟩
  · rw [upd_ne ne, upd_same]
  · rw [upd_ne ne] at hdx
    exact hdx
  · rw [upd_ne ne] at hdx
    rw [del_upd_upd ha2 ne]
    exact hw dx hdx
theorem ps_rz2 {ps : List Str} (hc : X.calm = true) (T : ExF X.K C fI) (F : FnOk X.prog X.w X.K X.mg X.base CX0 k fI fd ps (sp_ex2 C f g)) (hr : Room (k + 1) X.A) (hb : Binds X.K fd ps []) (tk : L2N.Takes X W) (hg : Gl X x) (hm : X.mg x = some (.ref C)) (ha : PA X (e :: es) ta)
    (hdb : (x == ("__debug__" : Str)) = false := by decide) (he : starEach (e :: es) X.env = (false, eval e X.env) :: starEach es X.env := by rfl) (hpl : (backTo pos (starEach es X.env)).any (·.1) = false := by rfl) :
    PS X (.Raise (some (.Call (.Name x p) (e :: es) [] pos)) none pos2) (tRz2 C f g W ta) := by
  refine ⟨fun pins s σ H D I h => ?_⟩
  have key := L2N.ps_raise (pos := pos2) hc tk (pmkN (p := p) T F hr hb pass0 hg hm (pa_at ha h) hdb he hpl)
  refine key.run pins s σ H D I ⟨rfl, rfl, fun vs H1 hk => ?_⟩
  obtain ⟨v, w, rfl, hw⟩ := hk
  refine ⟨by show 2 ≤ 1000; decide, fun a ha2 => ⟨a, v, w, rfl, upd_same, fun dx hdx ne => ⟨rfl, dx, [(g, w), (f, v)], ?_, upd_same, ?_, ?_⟩⟩⟩
  · rw [upd_ne (Ne.symm ne), upd_same]
  · rw [upd_ne ne] at hdx
    exact hdx
  · rw [upd_ne ne] at hdx
    rw [del_upd_upd2 ha2 ne]
    exact hw dx hdx
end
/-! ### an error that an except suite holds: isinstance, fields -/
def rIsX (K : PySem.W.Frag) (a : Addr) (cls : Value) (d : Option Addr) : List V → Hp → VK → Prop := fun xs H Q => ∃ (c : V) (cv : Value) (C fI dd : Addr) (fs : List (Str × V)) (b : Bool),
  xs = [.ref a, c] ∧ ClsV c cv ∧ cls = .ref C ∧ d = some dd ∧ H dd = some (.xd fs) ∧ ExF K C fI ∧ PySem.W.kitOne K (.ref C) cv = some b ∧ Q (.bl b) H
theorem call_isX {X : Cx} {a : Addr} {oe : Obj} {cls : Value} {d : Option Addr} (hp : (a, oe) ∈ X.pn) (hz : Zc cls d oe) (hf : ∃ vs, oe.data = .fields vs) : CallR X (.builtin "isinstance") (rIsX X.K a cls d) := by
  intro pins s σ H xs us Q I r h
  obtain ⟨c, cv, C, fI, dd, fs, b, rfl, hcv, rfl, rfl, hdd, T, hk, q⟩ := h
  obtain ⟨u1, u2, rfl, r1, r2⟩ := vals2 r
  have e2 := hcv.eq r2
  subst e2
  cases (show u1 = Value.ref a from r1)
  obtain ⟨hget, _⟩ := I.pin (a, oe) (List.mem_append_left _ hp)
  obtain ⟨vs, hv⟩ := hf
  obtain ⟨mA, hns, _⟩ := (show ObjOk X.prog X.w H s.heap dd (.xd fs) from I.hok dd _ hdd)
  obtain ⟨od, ho, _⟩ := lookIn_ns hns
  have J : PySem.W.InstAt s.heap a oe C (some od) := ⟨hget, hz.1, by unfold PySem.W.notCls; rw [hv] <;> rfl, by rw [hz.2]; exact ho⟩
  have hcl : (PySem.W.clsIn X.K C).isSome = true := by
    obtain ⟨nm, q, N, bs, bm, sn, sub, ab, col, dD, k0, k1, k2, k3, k5, hC, _⟩ := T.o.cls
    unfold PySem.W.clsIn
    rw [hC] <;> rfl
  exact PySem.W.kia_one (PySem.W.kitx_exc hcl T.x.ga T.x.gg T.x.exC T.ha T.hn T.ht T.hm) I.kIn J hk (fun z => nomatch z) fun tk => ⟨.bl b, H, I.kept (t' := tk) fun _ _ z => z, rfl, q⟩
/-- e.f, e the error at a -/
def tFx (a : Addr) (cls : Value) (d : Option Addr) (f : Str) (K : PySem.W.Frag) (te : TE) : TE := fun σ H Q => te σ H fun x H1 => x = .ref a ∧ ∃ (C fI dd : Addr) (fs : List (Str × V)) (v : V), cls = .ref C ∧ ExF K C fI ∧ PySem.W.findIn K (.ref C) f = some none ∧ d = some dd ∧ H1 dd = some (.xd fs) ∧ fs.lookup f = some v ∧ Q v H1
theorem pe_fx {X : Cx} {a : Addr} {oe : Obj} {cls : Value} {d : Option Addr} {e : Expr} {te : TE} {pos : Pos} {n : Str} (hp : (a, oe) ∈ X.pn) (hz : Zc cls d oe) (hf : ∃ vs, oe.data = .fields vs) (he : PE X e te)
    (hb : attributeBase e n X.env (eval e X.env) = eval e X.env := by rfl) : PE X (.Attribute e n pos) (tFx a cls d n X.K te) := by
  refine ⟨fun pins s σ H Q I h => ?_⟩
  refine attr_of hb (thn (he.run pins s σ H _ I h) fun u s1 hh => ?_)
  obtain ⟨x, H1, I1, rx, ex, C, fI, dd, fs, v, rfl, T, hno, rfl, ea, l, q⟩ := hh
  subst ex
  obtain rfl : u = Value.ref a := rx
  obtain ⟨hget, _⟩ := I1.pin (a, oe) (List.mem_append_left _ hp)
  obtain ⟨vs, hv⟩ := hf
  obtain ⟨mA, hns, hr⟩ := (show ObjOk X.prog X.w H1 s1.heap dd (.xd fs) from I1.hok dd _ ea)
  obtain ⟨od, ho, hl⟩ := lookIn_ns hns
  obtain ⟨w1, hw1, rw1⟩ := RelO.some_of (v := v) (o := mA n) (by rw [← l]; exact hr n)
  have J : PySem.W.InstAt s1.heap a oe C (some od) := ⟨hget, hz.1, by unfold PySem.W.notCls; rw [hv] <;> rfl, by rw [hz.2]; exact ho⟩
  exact HandSPX.exc_get I1.kIn J T.x.ga T.x.gg T.x.exC (PySem.W.findObj_own T.x.hdC hno rfl (by rw [hl, hw1])) (handed_of rw1) ⟨v, H1, I1.tok _, rw1, q⟩
/-- o.m(e, ..) that may raise, within a try -/
def tMethE (C : Addr) (m : Str) (sp : Sp) (E : L2.St → XK) (ta : TE) (t : TA) : TE := fun σ H Q => ta σ H fun x H1 => ∃ a dx fs, x = .ref a ∧ H1 a = some (.ins C dx fs) ∧ fs.lookup m = none ∧ t σ H1 fun vs H2 => sp (x :: vs) H2 Q (E σ)
theorem pe_methE {X : Cx} {CX : CXT} {k : Nat} {C f : Addr} {fd : FuncData} {ps : List Str} {m : Str} {sp : Sp} {E : L2.St → XK} {o e : Expr} {es : List Expr} {ta : TE} {t : TA} {apos pos : Pos} {pl : Sem Bool} (he : PE X o ta) (c : Cls X.K C) (hm : Meth X.K C m f)
    (F : FnOk X.prog X.w X.K X.mg X.base CX k f fd ps sp) (hr : Room k X.A) (hb : Binds X.K fd ps []) (hx : ∀ σ, PassesAt CX X σ (E σ)) (ha : PA X (e :: es) t)
    (hst : starEach (e :: es) X.env = (false, eval e X.env) :: starEach es X.env := by rfl) (hpl : (backTo pos (starEach es X.env)).any (·.1) = false := by rfl)
    (ht : eval (.Call (.Attribute o m apos) (e :: es) [] pos) X.env = (do
      let ov ← eval o X.env
      standAt apos.atName
      let (f, first) ← holding [ov] (getMethod ov m pl)
      callWith pos f first (backTo pos (starEach (e :: es) X.env)) (backToKw pos (keywordEach [] X.env))) := by rfl) :
    PE X (.Call (.Attribute o m apos) (e :: es) [] pos) (tMethE C m sp E ta t) := by
  refine ⟨fun pins s σ H Q I h => ?_⟩
  refine PySem.W.methodCall_KW (pl := pl) (thn (he.run pins s σ H _ I h) fun u1 s1 hh => ?_) ht
  obtain ⟨x, H1, I1, rx, a, dx, fs, ex, ea, l, q⟩ := hh
  subst ex
  obtain rfl : u1 = Value.ref a := rx
  refine getmeth_ok I1 ea c hm l ?_
  refine PySem.W.callWith_K (first := [.ref a]) (h₀ := X.base) I.ok.mod.kin hm.kp (thn (ha.run pos pins s1 σ H1 _ I1 q) fun us s2 hh2 => ?_) hst hpl
  obtain ⟨vs, H2, I2, r, q2⟩ := hh2
  exact ⟨I2.kIn, run_fnS (us := .ref a :: us) (vs := .ref a :: vs) F hr hb (hx σ) I2 (.cons rfl r) q2⟩
/-- a def that may raise -/
theorem okN {P : Program} {w : World} {K : PySem.W.Frag} {mg : Str → Option Value} {base : Heap} {CXx : CXT} {x qual : Str} {st : Stmt} {f : Addr} {fd : FuncData} {N ps : List Str} {k : Nat} {sp : Sp} (F : Fun K x qual st f fd) (S : FnScope N ps (defScope st)) (len : ∀ vs H Q E, sp vs H Q E → vs.length = ps.length)
    (body : ∀ (cdv : Value) (A : Around) (outer : List Env) (s : Shared) (H : Hp) (vs : List V) (Q : VK) (E : XK), Room k (A.deeper (envOfC qual (defScope st) s.heap.objs.size f cdv)) → sp vs H Q E →
      ∃ t, PSs (cxOf CXx P w K mg base N qual (defScope st) f cdv A outer s H E) (defBody st) t ∧ t { nx := fun _ H' => Q .non H', rt := Q } (L2.start N vs) H) : FnOk P w K mg base CXx (k + 1) f fd ps sp := by
  obtain ⟨_, _, _, _, _, _, cdv, _, _, rfl, lk, hcd⟩ := F.ex
  exact fn_of lk hcd S len (body cdv)
/-- a def as it is called where an error is handled -/
theorem okH {P : Program} {w : World} {K : PySem.W.Frag} {mg : Str → Option Value} {base : Heap} {CXx : CXT} {x qual : Str} {st : Stmt} {f : Addr} {fd : FuncData} {N ps : List Str} {k : Nat} {sp : Sp} (F : Fun K x qual st f fd) (S : FnScope N ps (defScope st)) (len : ∀ vs H Q E, sp vs H Q E → vs.length = ps.length)
    (body : ∀ (cdv : Value) (A : Around) (outer : List Env) (s : Shared) (H : Hp) (vs : List V) (Q : VK) (E : XK) (p : Addr × Obj), L2H.Hot1 A p → L2H.RoomH k (A.deeper (envOfC qual (defScope st) s.heap.objs.size f cdv)) → sp vs H Q E →
      ∃ t, PSs (L2H.cxH CXx P w K mg base N qual (defScope st) f cdv A outer s H E p) (defBody st) t ∧ t { nx := fun _ H' => Q .non H', rt := Q } (L2.start N vs) H) : L2H.FnH P w K mg base CXx (k + 1) f fd ps sp := by
  obtain ⟨_, _, _, _, _, _, cdv, _, _, rfl, lk, hcd⟩ := F.ex
  exact L2H.fn_ofH lk hcd S len (body cdv)
theorem takesN {X : Cx} : L2N.Takes X (fun _ _ _ _ => False) := fun _ _ x => by
  obtain ⟨_, _, _, _, _, _, _, _, _, _, _, _, _, _, _, _, z⟩ := x
  exact z.elim
theorem passAt0 {X : Cx} {σ : L2.St} : PassesAt CX0 X σ E0 := fun _ _ _ _ _ _ h => h.elim
theorem hotC_suite {X : Cx} {a : Addr} {oe : Obj} {cls : Value} {d : Option Addr} {pn : List (Addr × Obj)} (hz : L2N.Zn cls d oe) (hf : ∃ vs, oe.data = .fields vs) : L2H.HotC (X.suite a ((a, oe) :: pn)) := by
  obtain ⟨vs, hv⟩ := hf
  exact ⟨(a, oe), ⟨rfl, vs, hv, hz.2.2 vs hv⟩, List.mem_cons_self ..⟩
theorem roomH_suite {k : Nat} {A : Around} {h : Option Value} (r : Room k A) : L2H.RoomH k (A.mark h) := ⟨r.dp, r.un⟩
theorem tt_true {a : Prop} (h : a) : (a = True) := propext ⟨fun _ => trivial, fun _ => h⟩
/-! ### x is True, of a plain value -/
def plainV : V → Bool
  | .bl _ => true
  | .int _ => true
  | .non => true
  | .str _ => true
  | _ => false
def rIsBM (neg : Bool) : R2 := fun x y H Q => ∃ b, y = .bl b ∧ plainV x = true ∧ Q (.bl (if neg then !decide (x = .bl b) else decide (x = .bl b))) H
theorem plainV_b {b : Bool} : plainV (.bl b) = true := rfl
theorem plainV_i {i : Int} : plainV (.int i) = true := rfl
theorem plainV_n : plainV .non = true := rfl
theorem plainV_s {x : Str} : plainV (.str x) = true := rfl
section
variable {X : Cx}
theorem op_isBM : OpR X (compareOp .Is) (rIsBM false) := by
  intro pins s σ H x y v u Q I rx ry h
  obtain ⟨b, rfl, hx, q⟩ := h
  cases (show u = Value.bool b from ry)
  by_cases e : x = .bl b
  · subst e
    cases (show v = Value.bool b from rx)
    exact wpAny_is_self rfl ⟨.bl true, H, I, rfl, by simpa using q⟩
  · have ne : v ≠ Value.bool b := fun z => by
      subst z
      cases x with
      | bl a => exact e (by rw [Value.bool.inj (show Value.bool b = Value.bool a from rx)])
      | int i =>
        obtain ⟨t, z⟩ := rx
        cases z
      | str i =>
        obtain ⟨t, z⟩ := rx
        cases z
      | non => cases (show Value.bool b = Value.none from rx)
      | byt k => cases hx
      | flt k => cases hx
      | ref k => cases hx
      | ty k => cases hx
    have pl : PySem.plainIs v (Value.bool b) = true := by
      cases x with
      | bl a =>
        cases (show v = Value.bool a from rx)
        rfl
      | int i =>
        obtain ⟨t, rfl⟩ := rx
        rfl
      | str i =>
        obtain ⟨t, rfl⟩ := rx
        rfl
      | non =>
        cases (show v = Value.none from rx)
        rfl
      | byt k => cases hx
      | flt k => cases hx
      | ref k => cases hx
      | ty k => cases hx
    exact wpAny_is_other pl ne ⟨.bl false, H, I, rfl, by simpa [e] using q⟩
end
/-! ### in, methods, slices of a tracked list -/
def rInM (neg : Bool) : R2 := fun x y H Q => ∃ p, y = .ref p ∧ lstAt H p fun xs => flatV x = true ∧ xs.all flatV = true ∧ Q (.bl (if neg then !inV x xs else inV x xs)) H
def tBMM (r : V → List V → Hp → VK → Prop) (to : TE) (t : TA) : TE := fun σ H Q => to σ H fun x H1 => ∃ p, x = .ref p ∧ lstAt H1 p fun _ => t σ H1 fun xs H2 => r x xs H2 Q
def tBM0M (r : V → List V → Hp → VK → Prop) (to : TE) : TE := fun σ H Q => to σ H fun x H1 => ∃ p, x = .ref p ∧ lstAt H1 p fun _ => r x [] H1 Q
def rSlM : V → Option Int → Option Int → Hp → VK → Prop := fun x lo hi H Q => ∃ p, x = .ref p ∧ lstAt H p fun xs => ∀ l, H l = none → Q (.ref l) (upd H l (.lst (cutV xs lo hi)))
theorem pe_at {X : Cx} {e : Expr} {te : TE} {σ0 : L2.St} {H0 : Hp} {R : V → Hp → Prop} (ha : PE X e te) (h0 : te σ0 H0 R) : PE X e (fun σ H Q => σ = σ0 ∧ H = H0 ∧ ∀ v H1, R v H1 → Q v H1) := by
  refine ⟨fun pins s σ H Q I h => ?_⟩
  obtain ⟨e1, e2, hk⟩ := h
  subst e1 e2
  exact thn (ha.run pins s σ H _ I h0) fun u s1 ⟨v, H1, I1, r, q⟩ => ⟨v, H1, I1, r, hk v H1 q⟩
section
variable {X : Cx}
theorem op_inM : OpR X (compareOp .In) (rInM false) := by
  intro pins s σ H x y v u Q I rx ry h
  obtain ⟨p, e, h⟩ := h
  obtain ⟨xs, hp, h1, h2, q⟩ := lstAt_get h
  exact op_in_seq pins s σ H x y v u Q I rx ry ⟨p, xs, e, .inl (.inl (.inl hp)), h1, h2, q⟩
theorem op_notInM : OpR X (compareOp .NotIn) (rInM true) := by
  intro pins s σ H x y v u Q I rx ry h
  obtain ⟨p, e, h⟩ := h
  obtain ⟨xs, hp, h1, h2, q⟩ := lstAt_get h
  exact op_notIn_seq pins s σ H x y v u Q I rx ry ⟨p, xs, e, .inl (.inl (.inl hp)), h1, h2, q⟩
theorem sl_listM : SlR X rSlM := by
  intro pins s σ H x v vl vu lo hi sl Q I rx hs pl pu h
  obtain ⟨p, e, h⟩ := h
  obtain ⟨xs, hp, q⟩ := lstAt_get h
  exact sl_list pins s σ H x v vl vu lo hi sl Q I rx hs pl pu ⟨p, xs, e, .inl (.inl hp), q⟩
theorem pe_bmM {name : Str} {id : String} {r : V → List V → Hp → VK → Prop} {o e : Expr} {es : List Expr} {to : TE} {t : TA} {apos cpos : Pos} (slot : Slot "list" name id) (hty : typeOf (.builtin id) = pure (.type "method_descriptor")) (hm : MtR X id r) (ho : PE X o to) (ha : PA X (e :: es) t)
    (hbase : attributeBase o name X.env (eval o X.env) = eval o X.env := by rfl)
    (hfew : ((backTo cpos (starEach (e :: es) X.env)).all (fun x => !x.1) && (backToKw cpos (keywordEach [] X.env)).all (fun x => x.1.isSome)
      && decide ((e :: es).length + ([] : List Keyword).length + (if ([] : List Keyword).isEmpty then 0 else 1) < 30)) = true := by rfl)
    (hline : (apos.endLine == cpos.line) = true := by rfl) (hs : starEach (e :: es) X.env = (false, eval e X.env) :: starEach es X.env := by rfl) (hplain : (backTo cpos (starEach es X.env)).any (·.1) = false := by rfl) :
    PE X (.Call (.Attribute o name apos) (e :: es) [] cpos) (tBMM r to t) := by
  refine ⟨fun pins s σ H Q I h => ?_⟩
  refine (pe_bm PySem.F.plainAttrs_list slot hty hm (pe_at ho h) ha hbase hfew hline hs hplain).run pins s σ H Q I ⟨rfl, rfl, fun v H1 hv => ?_⟩
  obtain ⟨p, rfl, hv⟩ := hv
  obtain ⟨xs, hp, q⟩ := lstAt_get hv
  exact ⟨.inl ⟨rfl, xs, .inl (.inl hp)⟩, q⟩
theorem pe_bm0M {name : Str} {id : String} {r : V → List V → Hp → VK → Prop} {o : Expr} {to : TE} {apos cpos : Pos} (slot : Slot "list" name id) (hty : typeOf (.builtin id) = pure (.type "method_descriptor")) (hm : MtR X id r) (ho : PE X o to)
    (hbase : attributeBase o name X.env (eval o X.env) = eval o X.env := by rfl) (hline : (apos.endLine == cpos.line) = true := by rfl) : PE X (.Call (.Attribute o name apos) [] [] cpos) (tBM0M r to) := by
  refine ⟨fun pins s σ H Q I h => ?_⟩
  refine (pe_bm0 PySem.F.plainAttrs_list slot hty hm (pe_at ho h) hbase hline).run pins s σ H Q I ⟨rfl, rfl, fun v H1 hv => ?_⟩
  obtain ⟨p, rfl, hv⟩ := hv
  obtain ⟨xs, hp, q⟩ := lstAt_get hv
  exact ⟨.inl ⟨rfl, xs, .inl (.inl hp)⟩, q⟩
end
theorem lkc {a k : Str} {b : V} {es : List (Str × V)} : List.lookup a ((k, b) :: es) = if a = k then some b else List.lookup a es := by
  by_cases h : a = k
  · subst h
    simp [List.lookup]
  · have e : (a == k) = false := by simpa using h
    rw [if_neg h]
    simp [List.lookup, e]
theorem lkn {a : Str} : List.lookup a ([] : List (Str × V)) = none := rfl
theorem pfn {f : Str} {v : V} : putF f v [] = [(f, v)] := rfl
theorem pfc {f g : Str} {v x : V} {r : List (Str × V)} : putF f v ((g, x) :: r) = if g = f then (g, v) :: r else (g, x) :: putF f v r := rfl
theorem cxH_K {CX : CXT} {P : Program} {w : World} {K : PySem.W.Frag} {mg : Str → Option Value} {base : Heap} {N : List Str} {qual : Str} {scope : Scope} {f : Addr} {cd : Value} {A : Around} {outer : List Env} {s : Shared} {H : Hp} {E : XK} {p : Addr × Obj} : (L2H.cxH CX P w K mg base N qual scope f cd A outer s H E p).K = K := rfl
theorem clsV_ref {C : Addr} {u : Value} : ClsV (.ref C) u = (Value.ref C = u) := by
  apply propext
  constructor
  · intro h
    cases h
    rfl
  · intro h
    subst h
    exact .own C
theorem clsV_ty {n : String} {u : Value} : ClsV (.ty n) u = (Value.type n = u) := by
  apply propext
  constructor
  · intro h
    cases h
    rfl
  · intro h
    subst h
    exact .ty n

/-! ### a def that is handed the error that is handled: its promise speaks of the pinned object -/
structure FnE (P : Program) (w : World) (K : PySem.W.Frag) (mg : Str → Option Value) (base : Heap) (CXx : CXT) (k : Nat) (f : Addr) (fd : FuncData) (ps : List Str) (sp : Addr × Obj → Sp) : Prop where
  len : ∀ p vs H Q E, sp p vs H Q E → vs.length = ps.length
  run : ∀ (p : Addr × Obj) (A : Around) (outer : List Env) (s : Shared) (H : Hp) (args : Args) (us : List Value) (vs : List V) (Q : VK) (E : XK), L2H.RoomH k A → L2H.Hot1 A p → L2H.PinOk outer H s p → Env0 P w K mg base A outer s H → BindsTo s fd args (ps.zip us) →
    Vals vs us → sp p vs H Q E → codeAny (model P w) A (.call (.ref f) args) (CR CXx outer P w H s Q E) s
theorem okE {P : Program} {w : World} {K : PySem.W.Frag} {mg : Str → Option Value} {base : Heap} {CXx : CXT} {x qual : Str} {st : Stmt} {f : Addr} {fd : FuncData} {N ps : List Str} {k : Nat} {sp : Addr × Obj → Sp} (F : Fun K x qual st f fd) (S : FnScope N ps (defScope st))
    (len : ∀ p vs H Q E, sp p vs H Q E → vs.length = ps.length)
    (body : ∀ (p : Addr × Obj) (cdv : Value) (A : Around) (outer : List Env) (s : Shared) (H : Hp) (vs : List V) (Q : VK) (E : XK), L2H.Hot1 A p → L2H.RoomH k (A.deeper (envOfC qual (defScope st) s.heap.objs.size f cdv)) → sp p vs H Q E →
      ∃ t, PSs (L2H.cxH CXx P w K mg base N qual (defScope st) f cdv A outer s H E p) (defBody st) t ∧ t { nx := fun _ H' => Q .non H', rt := Q } (L2.start N vs) H) : FnE P w K mg base CXx (k + 1) f fd ps sp := by
  obtain ⟨_, _, _, _, _, _, cdv, _, _, rfl, lk, hcd⟩ := F.ex
  refine ⟨len, fun p A outer s H args us vs Q E hr hot pin e0 bnd rv hsp => ?_⟩
  have kin : K.In s.heap := e0.mod.kin.keeps fun b o q => (e0.bs b o q).1
  have own : ∀ y ∈ ps.zip us, (defScope st).names.lookup y.1 = some .local ∨ ((defScope st).names.lookup y.1 = some .cell ∧ ((cellsFrom (s.heap.objs.size + 1) (defScope st).names []).lookup y.1).isSome = true) := by
    intro y hy
    rcases S.par y.1 (List.of_mem_zip (a := y.1) (b := y.2) hy).1 with h | h
    · exact .inl h
    · exact .inr ⟨h, PySem.W.cellsFrom_some _ _ _ (.inl h)⟩
  refine codeAny_call_function hr.depth (kin _ _ lk) rfl S.co S.gen rfl (PySem.W.codeRec_of kin hcd) (bnd _ _ _ _ (wpAny_newFunctionEnv_cells S.kind own fun env he s1 z => ?_))
  subst he
  refine ⟨(e0.mod.nolimit.keeps fun b o q => (e0.bs b o q).1).keeps z.toInCall.keep, codeAny_func ?_⟩
  obtain ⟨t, ht, hq⟩ := body p cdv A outer s H vs Q E hot (hr.deeper _) hsp
  have I := L2H.inv_startH (CX := CXx) (P := P) (w := w) (mg := mg) (base := base) (E := E) S pin e0 (len _ _ _ _ _ hsp) rv z
  refine wpAny_mono (ht.run [] s1 (L2.start N vs) H _ I hq) (fun fl s2 h2 => ?_) fun _ _ h2 => h2
  cases fl with
  | brk =>
    obtain ⟨_, _, _, h2⟩ := h2
    exact h2.elim
  | cont =>
    obtain ⟨_, _, _, h2⟩ := h2
    exact h2.elim
  | next =>
    obtain ⟨_, H2, J, q⟩ := h2
    exact ⟨V.non, H2, J.os, J.bare, J.base, J.hok, rfl, q⟩
  | ret u =>
    obtain ⟨v, _, H2, J, r, q⟩ := h2
    exact ⟨v, H2, J.os, J.bare, J.base, J.hok, r, q⟩
def tCallZ (sp : Addr × Obj → Sp) (a : Addr) (cls : Value) (d : Option Addr) (t : TA) : TE := fun σ H Q => t σ H fun vs H1 => ∀ oe, L2N.Zn cls d oe → (∃ ws, oe.data = .fields ws) → sp (a, oe) vs H1 Q E0
theorem pe_callE {X : Cx} {k : Nat} {f : Addr} {fd : FuncData} {ps : List Str} {sp : Addr × Obj → Sp} {x : Str} {q pos : Pos} {e : Expr} {es : List Expr} {t : TA} {a : Addr} {oe : Obj} {cls : Value} {d : Option Addr} (F : FnE X.prog X.w X.K X.mg X.base CX0 k f fd ps sp) (hr : L2H.RoomH k X.A) (hot : L2H.Hot1 X.A (a, oe)) (hp : (a, oe) ∈ X.pn) (hz : L2N.Zn cls d oe) (hf : ∃ ws, oe.data = .fields ws)
    (hg : Gl X x) (hm : X.mg x = some (.ref f)) (hk : PySem.W.keepIn X.K (.ref f) = true) (hb : Binds X.K fd ps []) (ha : PA X (e :: es) t) (hdb : (x == ("__debug__" : Str)) = false := by decide)
    (he : starEach (e :: es) X.env = (false, eval e X.env) :: starEach es X.env := by rfl) (hpl : (backTo pos (starEach es X.env)).any (·.1) = false := by rfl) : PE X (.Call (.Name x q) (e :: es) [] pos) (tCallZ sp a cls d t) := by
  refine ⟨fun pins s σ H Q I h => ?_⟩
  refine wpAny_Call_Name_kw (ld_glob I hg hm ?_ hdb)
  refine PySem.W.callWith_K (h₀ := X.base) I.ok.mod.kin hk (thn (ha.run pos pins s σ H _ I h) fun us s1 z => ?_) he hpl
  obtain ⟨vs, H1, I1, r, hsp0⟩ := z
  have hsp := hsp0 oe hz hf
  refine ⟨I1.kIn, ?_⟩
  have n : us.length = ps.length := r.length.symm.trans (F.len _ _ _ _ _ hsp)
  have b := hb s1 us I1.kIn (by rw [List.append_nil]; exact n)
  rw [List.append_nil] at b
  have at1 := I1.pin (a, oe) (List.mem_append_left _ hp)
  have pin : L2H.PinOk X.stack H1 s1 (a, oe) := ⟨at1.1, at1.2.1, fun hx => (List.mem_cons.mp (I1.stkSub a hx)).elim at1.2.2.1 at1.2.2.2.1, at1.2.2.2.2⟩
  refine wpAny_call (codeAny_mono (F.run (a, oe) X.A X.stack s1 H1 ⟨us, []⟩ us vs Q E0 hr hot pin I1.env0 b r hsp) fun res s2 hres => ?_)
  cases res with
  | error er => exact hres.elim
  | ok fl =>
    cases fl with
    | ret u => exact I1.after hres
    | next => exact hres.elim
    | brk => exact hres.elim
    | cont => exact hres.elim
theorem hot_suite {X : Cx} {a : Addr} {oe : Obj} {cls : Value} {d : Option Addr} {pn : List (Addr × Obj)} (hz : L2N.Zn cls d oe) (hf : ∃ vs, oe.data = .fields vs) : L2H.Hot1 (X.suite a ((a, oe) :: pn)).A (a, oe) := by
  obtain ⟨vs, hv⟩ := hf
  exact ⟨rfl, vs, hv, hz.2.2 vs hv⟩

/-! ### more small rules -/
theorem passN0 {P : Program} {w : World} {X : Cx} : Passes (L2N.CX P w) X E0 := fun _ _ _ _ _ _ _ ⟨_, _, _, _, _, _, _, _, _, _, _, _, h⟩ => h.elim
theorem isTy_si {x : Str} : isTy (.str x) "int" = some false := by
  show L2.kitB "str" "int" = some false
  decide +kernel
theorem isTy_is {i : Int} : isTy (.int i) "str" = some false := by
  show L2.kitB "int" "str" = some false
  decide +kernel
theorem isTy_sb {x : Str} : isTy (.str x) "bool" = some false := by
  show L2.kitB "str" "bool" = some false
  decide +kernel
/-- isinstance(x, list), x a tracked list -/
def rIsL : List V → Hp → VK → Prop := fun xs H Q => ∃ p, xs = [.ref p, .ty "list"] ∧ lstAt H p fun _ => Q (.bl true) H
theorem call_isL {X : Cx} : CallR X (.builtin "isinstance") rIsL := by
  intro pins s σ H xs us Q I r h
  obtain ⟨p, rfl, h⟩ := h
  obtain ⟨ys, hp, q⟩ := lstAt_get h
  exact call_isi pins s σ H _ us Q I r ⟨.ref p, .ty "list", .type "list", .type "list", true, rfl, .ty "list", .base (.lst hp), kit_ty rfl, q⟩
/-- a str times an int that is more than one -/
def rRepS : R2 := fun x y H Q => ∃ (i : Str) (n : Int), x = .str i ∧ y = .int n ∧ 1 < n ∧ n ≤ 100000 ∧ 0 < i.length ∧ i.length ≤ 10 ∧ ∀ z : Str, z.length = i.length * n.toNat → Q (.str z) H
theorem size_foldl_rep (b : Array Nat) : ∀ (n : Nat) (a : Array Nat), (List.foldl (fun x1 x2 => x1 ++ x2) a (List.replicate n b)).size = a.size + b.size * n
  | 0, a => by simp
  | n + 1, a => by
    rw [List.replicate_succ, List.foldl_cons, size_foldl_rep b n, Array.size_append, Nat.mul_succ]
    omega
theorem op_repS {X : Cx} : OpR X (binaryOp .Mult) rRepS := by
  intro pins s σ H x y v u Q I rx ry h
  obtain ⟨i, n, rfl, rfl, h1, h2, h3, h4, q⟩ := h
  obtain ⟨t, rfl⟩ := rx
  obtain ⟨t', rfl⟩ := ry
  have hl : i.length * n.toNat ≤ 1000000 := by
    have := Nat.mul_le_mul h4 (show n.toNat ≤ 100000 by omega)
    omega
  have c0 : ¬ n < 1 := by omega
  have c1 : (n == 1 || i.length == 0) = false := by
    have a1 : (n == 1) = false := by simp; omega
    have a2 : (i.length == 0) = false := by simp; omega
    rw [a1, a2] <;> rfl
  have hs : (⟨(List.replicate n.toNat i.cps).foldl (· ++ ·) #[]⟩ : Str).length = i.length * n.toNat := by
    show Array.size _ = _
    rw [size_foldl_rep]
    simp [Str.length]
  have hsl : i.length * n.toNat ≤ sizeLine := Nat.le_trans hl (by decide)
  have ns : PySem.Builtin.Str.tooLong (i.length * n.toNat) = false := decide_eq_false (by omega)
  refine PySem.P.mul_str ?_ (fun _ _ => ?_) (fun _ _ => ns) ?_
  · have a1 : ¬ n < -(2 ^ 63 : Int) := by omega
    have a2 : ¬ n ≥ 2 ^ 63 := by omega
    rw [decide_eq_false a1, decide_eq_false a2] <;> rfl
  · have a1 : (100 : Int) ≤ (2 ^ 63 - 1) / n := by
      refine Int.le_ediv_of_mul_le (by omega) ?_
      omega
    omega
  · rw [if_neg c0, if_neg (by rw [c1]; decide)]
    exact ⟨by rw [hs]; exact hsl, ⟨.str _, H, I.tok _, ⟨_, rfl⟩, q _ hs⟩⟩
/-- a loop over a list that is made for it -/
theorem for_lstN {K : PySem.W.Frag} {tl : TE} {g : TG} {tb : TS} {D : Ends} {σ : L2.St} {H : Hp} (xs : List V) (htl : ∀ R : V → Hp → Prop, (∀ p, H p = none → R (.ref p) (upd H p (.lst xs))) → tl σ H R) (Pv : Addr → Nat → L2.St → Hp → Prop)
    (hp : ∀ p, H p = none → Pv p 0 σ (upd H p (.lst xs))) (hl : ∀ p i σ' H', H p = none → Pv p i σ' H' → H' p = some (.lst xs))
    (hs : ∀ p i x σ' H', H p = none → xs[i]? = some x → Pv p i σ' H' → g x σ' H' fun σ2 H2 => tb { D with nx := Pv p (i + 1), ct := Pv p (i + 1), bk := D.nx } σ2 H2) (hd : ∀ p σ' H', H p = none → Pv p xs.length σ' H' → D.nx σ' H') : tFor (iList K tl) g tb D σ H :=
  htl _ fun p h0 => ⟨p, rfl, ⟨xs, .inl (.inl upd_same)⟩, L2.for_list (K := K) (a := p) (xs := xs) (Pv p) (hp p h0) (fun i σ' H' _ h => .inl (.inl (hl p i σ' H' h0 h))) (fun i x σ' H' hx h => hs p i x σ' H' h0 hx h) (fun σ' H' h => hd p σ' H' h0 h)⟩
theorem cutV_from {xs : List V} {c : Nat} : cutV xs (some (c : Int)) none = xs.drop c := by
  unfold cutV
  rw [HT.sIx_none, HT.sIx_nat]
  by_cases h : c ≤ xs.length
  · rw [Nat.min_eq_left h]
    exact List.take_of_length_le (by rw [List.length_drop]; exact Nat.le_refl _)
  · rw [Nat.min_eq_right (by omega), List.drop_length, List.take_nil, List.drop_eq_nil_of_le (by omega)]
theorem cutV_to {xs : List V} {c : Nat} : cutV xs none (some (c : Int)) = xs.take c := by
  unfold cutV
  rw [HT.sIx_none, HT.sIx_nat, List.drop_zero, Nat.sub_zero]
  by_cases h : c ≤ xs.length
  · rw [Nat.min_eq_left h]
  · rw [Nat.min_eq_right (by omega), List.take_length, List.take_of_length_le (by omega)]
theorem suite_mem {X : Cx} {a : Addr} {oe : Obj} {pn : List (Addr × Obj)} : (a, oe) ∈ (X.suite a ((a, oe) :: pn)).pn := List.mem_cons_self ..
theorem call_isXs {X : Cx} {a : Addr} {oe : Obj} {pn : List (Addr × Obj)} {cls : Value} {d : Option Addr} (hz : L2N.Zn cls d oe) (hf : ∃ vs, oe.data = .fields vs) : CallR (X.suite a ((a, oe) :: pn)) (.builtin "isinstance") (rIsX X.K a cls d) :=
  call_isX (X := X.suite a ((a, oe) :: pn)) suite_mem (L2N.Zn.zc hz) hf
theorem pe_fxs {X : Cx} {a : Addr} {oe : Obj} {pn : List (Addr × Obj)} {cls : Value} {d : Option Addr} {e : Expr} {te : TE} {pos : Pos} {n : Str} (hz : L2N.Zn cls d oe) (hf : ∃ vs, oe.data = .fields vs) (he : PE (X.suite a ((a, oe) :: pn)) e te)
    (hb : attributeBase e n (X.suite a ((a, oe) :: pn)).env (eval e (X.suite a ((a, oe) :: pn)).env) = eval e (X.suite a ((a, oe) :: pn)).env := by rfl) : PE (X.suite a ((a, oe) :: pn)) (.Attribute e n pos) (tFx a cls d n X.K te) :=
  pe_fx (X := X.suite a ((a, oe) :: pn)) suite_mem (L2N.Zn.zc hz) hf he hb
/-- for k in range(j), j maybe less than nothing -/
theorem for_rngT {ta : TA} {g : TG} {tb : TS} {D : Ends} {σ : L2.St} {H : Hp} (j : Int) (hta : ∀ R : List V → Hp → Prop, R [.int j] H → ta σ H R) (h0 : -(2 ^ 62) ≤ j) (h1 : j < 2 ^ 62) (Pv : Nat → L2.St → Hp → Prop) (hp : Pv 0 σ H)
    (hs : ∀ (i : Nat) σ H, (i : Int) < j → Pv i σ H → g (.int (i : Int)) σ H fun σ2 H2 => tb { D with nx := Pv (i + 1), ct := Pv (i + 1), bk := D.nx } σ2 H2) (hd : ∀ σ H, Pv j.toNat σ H → D.nx σ H) : tFor (iRng1 ta) g tb D σ H :=
  hta _ ⟨j, rfl, h0, h1, for_range (lo := 0) (n := j.toNat) Pv hp (fun i σ H hi pv => by
    rw [Int.zero_add]
    exact hs i σ H (by omega) pv) hd⟩

/-! ### heappush, heappop over lists of ints -/
section
open PySem.AutoSeq1 PySem.MeetsSeq
def vals (ps : Array (Int × Tok)) : Array Value := ps.map fun p => Value.int p.1 p.2
theorem vals_size {ps : Array (Int × Tok)} : (vals ps).size = ps.size := Array.size_map ..
theorem vals_get {ps : Array (Int × Tok)} {i : Nat} (h : i < ps.size) : (vals ps)[i]? = some (Value.int ps[i].1 ps[i].2) := by
  unfold vals
  rw [Array.getElem?_map, Array.getElem?_eq_getElem h]
  rfl
theorem plain_sift : plainId "_heapq.heapify.sift" = true := by decide +kernel
theorem entry_sift : entryFor table "_heapq.heapify.sift" = some Builtin.«_heapq.heapify.sift» := entryFor_of_fast (by kernel_rfl)
def upS (l : Addr) (r : Value) (ps qs : Array (Int × Tok)) (n : Nat) : PySem.Spec := fun _ R s => s.heap.get? l = some { cls := .type "list", dict := none, data := .seq (vals ps) n, slots := #[] } ∧
  ∀ h' n' t', h'.get? l = some { cls := .type "list", dict := none, data := .seq (vals qs) n', slots := #[] } → (∀ b u, b ≠ l → s.heap.get? b = some u → h'.get? b = some u) → h'.objs.size = s.heap.objs.size → R (.ok (.ret r)) { s with heap := h', toks := t' }
def up (ps : Array (Int × Tok)) (pos : Nat) : Array (Int × Tok) :=
  if h : 0 < pos ∧ pos < ps.size then
    if ps[pos].1 < (ps[(pos - 1) / 2]'(by omega)).1 then up ((ps.setIfInBounds ((pos - 1) / 2) ps[pos]).setIfInBounds pos (ps[(pos - 1) / 2]'(by omega))) ((pos - 1) / 2) else ps
  else ps
termination_by pos
decreasing_by omega
theorem rc_lt {prog : Program} {w : World} {A : Around} {Q : Value → Shared → Prop} {E : Value → Shared → Prop} {s : Shared} {a b : Int} {t u : Tok} (h : Q (.bool (decide (a < b))) s) : wpAny (model prog w) A (richCompare .Lt (.int a t) (.int b u)) Q E s := PySem.P.lt_int h
theorem sift_up (l : Addr) (r : Value) (pos : Nat) : ∀ (ps : Array (Int × Tok)) (n : Nat), pos < ps.size → ps.size ≤ 100001 → Meets (Builtin.«_heapq.heapify.sift» ⟨[.ref l, .bool false, .bool false, rawInt (pos : Nat), rawInt (0 : Nat), r, rawInt (-1)], []⟩) (upS l r ps (up ps pos) n) := by
  induction pos using Nat.strongRecOn with
  | ind pos ih =>
    intro ps n hps hz prog w A R s h
    obtain ⟨hp, g, d, tk, os⟩ := s
    obtain ⟨hl, h⟩ := h
    have hz2 : (vals ps).size ≤ sizeLine := by rw [vals_size, sizeLine_eq]; omega
    wp_walk using wpAny_loadPart' hl
    by_cases hpos : 0 < pos
    · rw [if_pos (show ((pos : Nat) : Int).toNat > ((0 : Nat) : Int).toNat by rw [Int.toNat_natCast, Int.toNat_natCast]; exact hpos)]
      have hpar : (pos - 1) / 2 < ps.size := by omega
      simp only [Int.toNat_natCast]
      wp_walk
      rw [vals_get hps]
      wp_walk
      rw [vals_get hpar]
      wp_walk using rc_lt, wpAny_loadPart' hl
      by_cases c : ps[pos].1 < (ps[(pos - 1) / 2]).1
      · rw [if_pos (decide_eq_true c)]
        have e : up ps pos = up ((ps.setIfInBounds ((pos - 1) / 2) ps[pos]).setIfInBounds pos ps[(pos - 1) / 2]) ((pos - 1) / 2) := by
          rw [up, dif_pos ⟨hpos, hps⟩, if_pos c]
        have hz3 : (((vals ps).setIfInBounds ((pos - 1) / 2) (Value.int ps[pos].1 ps[pos].2)).setIfInBounds pos (Value.int (ps[(pos - 1) / 2]).1 (ps[(pos - 1) / 2]).2)).size ≤ sizeLine + 1 := by
          rw [Array.size_setIfInBounds, Array.size_setIfInBounds]
          omega
        wp_walk using wpAny_loadPart' hl
        rw [vals_get hpar]
        wp_walk
        rw [vals_get hps]
        wp_walk using (wpAny_updateSeq hl rfl (hz := hz2) (_hz' := hz3))
        have ev : vals ((ps.setIfInBounds ((pos - 1) / 2) ps[pos]).setIfInBounds pos ps[(pos - 1) / 2]) = ((vals ps).setIfInBounds ((pos - 1) / 2) (Value.int ps[pos].1 ps[pos].2)).setIfInBounds pos (Value.int (ps[(pos - 1) / 2]).1 (ps[(pos - 1) / 2]).2) := by
          unfold vals
          rw [Array.map_setIfInBounds, Array.map_setIfInBounds]
        have g1 := PySem.IsL.update hl (fun xs => (xs.setIfInBounds ((pos - 1) / 2) (Value.int ps[pos].1 ps[pos].2)).setIfInBounds pos (Value.int (ps[(pos - 1) / 2]).1 (ps[(pos - 1) / 2]).2))
        rw [← ev] at g1
        rw [e] at h
        exact ⟨plainId_quiet plain_sift _, codeAny_builtin entry_sift (by
          rw [Around.under_plainId plain_sift _]
          exact ih ((pos - 1) / 2) (by omega) _ _ (by rw [Array.size_setIfInBounds, Array.size_setIfInBounds]; exact hpar) (by rw [Array.size_setIfInBounds, Array.size_setIfInBounds]; exact hz) prog w A R _
            ⟨g1, fun h' n' t' a1 a2 a3 => h h' n' t' a1 (fun b u hb hu => a2 b u hb ((Heap.get?_update_other hp _ (Ne.symm hb)).trans hu)) (a3.trans (by simp [Heap.update]))⟩)⟩
      · rw [if_neg (by rw [decide_eq_true_eq]; exact c)]
        have e : up ps pos = ps := by
          rw [up, dif_pos ⟨hpos, hps⟩, if_neg c]
        rw [e] at h
        wp_walk
        exact h hp n tk hl (fun _ _ _ z => z) rfl
    · rw [if_neg (show ¬ ((pos : Nat) : Int).toNat > ((0 : Nat) : Int).toNat by rw [Int.toNat_natCast, Int.toNat_natCast]; exact hpos)]
      have e : up ps pos = ps := by
        unfold up
        rw [dif_neg (by omega)]
      rw [e] at h
      wp_walk
      exact h hp n tk hl (fun _ _ _ z => z) rfl
/-- the key at a place -/
def key (ps : Array (Int × Tok)) (i : Nat) : Int := (ps.getD i (0, 0)).1
theorem key_get {ps : Array (Int × Tok)} {i : Nat} (h : i < ps.size) : ps[i].1 = key ps i := by
  unfold key
  rw [Array.getD_eq_getD_getElem?, Array.getElem?_eq_getElem h]
  rfl
theorem key_set {ps : Array (Int × Tok)} {j : Nat} {y : Int × Tok} (h : j < ps.size) (i : Nat) : key (ps.setIfInBounds j y) i = if i = j then y.1 else key ps i := by
  unfold key
  rw [Array.getD_eq_getD_getElem?, Array.getD_eq_getD_getElem?, Array.getElem?_setIfInBounds]
  by_cases e : i = j
  · subst e
    rw [if_pos rfl, if_pos rfl, if_pos h]
    rfl
  · rw [if_neg (Ne.symm e), if_neg e]
def HpBut (ps : Array (Int × Tok)) (pos : Nat) : Prop := ∀ i, 0 < i → i < ps.size → i ≠ pos → key ps ((i - 1) / 2) ≤ key ps i
def IsHp (ps : Array (Int × Tok)) : Prop := ∀ i, 0 < i → i < ps.size → key ps ((i - 1) / 2) ≤ key ps i
theorem up_heap (pos : Nat) : ∀ ps : Array (Int × Tok), pos < ps.size → HpBut ps pos → (0 < pos → ∀ i, i < ps.size → 0 < i → (i - 1) / 2 = pos → key ps ((pos - 1) / 2) ≤ key ps i) → IsHp (up ps pos) := by
  induction pos using Nat.strongRecOn with
  | ind pos ih =>
    intro ps hps h1 h2
    by_cases hpos : 0 < pos
    · have hpar : (pos - 1) / 2 < ps.size := by omega
      by_cases c : ps[pos].1 < (ps[(pos - 1) / 2]).1
      · rw [up, dif_pos ⟨hpos, hps⟩, if_pos c]
        rw [key_get, key_get] at c
        have k1 : ∀ i, key ((ps.setIfInBounds ((pos - 1) / 2) ps[pos]).setIfInBounds pos ps[(pos - 1) / 2]) i = if i = pos then key ps ((pos - 1) / 2) else if i = (pos - 1) / 2 then key ps pos else key ps i := fun i => by
          rw [key_set (by rw [Array.size_setIfInBounds]; exact hps), key_set hpar, key_get, key_get]
        have sz : ((ps.setIfInBounds ((pos - 1) / 2) ps[pos]).setIfInBounds pos ps[(pos - 1) / 2]).size = ps.size := by rw [Array.size_setIfInBounds, Array.size_setIfInBounds]
        refine ih ((pos - 1) / 2) (by omega) _ (by rw [sz]; exact hpar) (fun i i0 i1 i2 => ?_) (fun p0 i i1 i0 i2 => ?_)
        · rw [sz] at i1
          rw [k1, k1]
          by_cases e : i = pos
          · subst e
            rw [if_neg (by omega), if_pos rfl, if_pos rfl]
            exact Int.le_of_lt c
          · rw [if_neg e, if_neg i2]
            have g := h1 i i0 i1 e
            by_cases e2 : (i - 1) / 2 = pos
            · rw [if_pos e2]
              exact h2 hpos i i1 i0 e2
            · rw [if_neg e2]
              by_cases e3 : (i - 1) / 2 = (pos - 1) / 2
              · rw [if_pos e3]
                rw [e3] at g
                omega
              · rw [if_neg e3]
                exact g
        · rw [sz] at i1
          rw [k1, k1, if_neg (by omega), if_neg (by omega)]
          have g := h1 ((pos - 1) / 2) p0 hpar (by omega)
          by_cases e : i = pos
          · rw [if_pos e]
            exact g
          · rw [if_neg e, if_neg (by omega)]
            have g2 := h1 i i0 i1 e
            rw [i2] at g2
            omega
      · rw [up, dif_pos ⟨hpos, hps⟩, if_neg c]
        rw [key_get, key_get] at c
        intro i i0 i1
        by_cases e : i = pos
        · subst e
          omega
        · exact h1 i i0 i1 e
    · rw [up, dif_neg (by omega)]
      exact fun i i0 i1 => h1 i i0 i1 (by omega)
theorem up_perm (pos : Nat) : ∀ ps : Array (Int × Tok), (up ps pos).toList.Perm ps.toList := by
  induction pos using Nat.strongRecOn with
  | ind pos ih =>
    intro ps
    by_cases h : 0 < pos ∧ pos < ps.size
    · have hpar : (pos - 1) / 2 < ps.size := by omega
      by_cases c : ps[pos].1 < (ps[(pos - 1) / 2]).1
      · rw [up, dif_pos h, if_pos c]
        refine (ih ((pos - 1) / 2) (by omega) _).trans ?_
        have e : (ps.setIfInBounds ((pos - 1) / 2) ps[pos]).setIfInBounds pos ps[(pos - 1) / 2] = ps.swap ((pos - 1) / 2) pos hpar h.2 := by
          simp [Array.swap_def, Array.setIfInBounds, hpar, h.2]
        rw [e]
        exact (Array.swap_perm hpar h.2).toList
      · rw [up, dif_pos h, if_neg c]
    · rw [up, dif_neg h]
theorem sub_tt : isSubtype (.type "tuple") (.type "tuple") = pure true := PySem.AutoSeq1.sub_tuple_tuple
theorem push_meets (l : Addr) (x : Int) (t : Tok) (ps : Array (Int × Tok)) (n : Nat) (hz : ps.size ≤ 100000) : Meets (Builtin.«_heapq.heappush» ⟨[.ref l, .int x t], []⟩) (upS l .none ps (up (ps.push (x, t)) ps.size) n) := by
  intro prog w A R s h
  obtain ⟨hp, g, d, tk, os⟩ := s
  obtain ⟨hl, h⟩ := h
  have f1 := idx_int
  have f2 := sub_tt
  have f3 := PySem.AutoSeq1.sub_list_list
  have f4 := PySem.AutoSeq1.sub_tuple_list
  have f5 := PySem.AutoSeq1.sub_list_tuple
  have hz' : ((vals ps).push (.int x t)).size ≤ sizeLine + 1 := by rw [Array.size_push, sizeLine_eq, vals_size]; omega
  have hz2 : (vals ps).size ≤ sizeLine := by rw [sizeLine_eq, vals_size]; omega
  have ev : vals (ps.push (x, t)) = (vals ps).push (.int x t) := by
    unfold vals
    rw [Array.map_push]
  have g1 := PySem.IsL.update hl (fun xs => xs.push (.int x t))
  rw [← ev] at g1
  wp_walk using (wpAny_updateSeq hl rfl (hz := hz2) (_hz' := hz')), wpAny_loadPart' hl, wpAny_loadPart' g1
  refine ⟨plainId_quiet plain_sift _, codeAny_builtin entry_sift ?_⟩
  rw [Around.under_plainId plain_sift _]
  have e : (vals (ps.push (x, t))).size - 1 = ps.size := by rw [vals_size, Array.size_push]; rfl
  rw [e]
  exact sift_up l _ ps.size (ps.push (x, t)) _ (by rw [Array.size_push]; omega) (by rw [Array.size_push]; omega) prog w A R _
    ⟨g1, fun h' n' t' a1 a2 a3 => h h' n' t' a1 (fun b u hb hu => a2 b u hb ((Heap.get?_update_other hp _ (Ne.symm hb)).trans hu)) (a3.trans (by simp [Heap.update]))⟩
/-- two places change -/
def sw (ps : Array (Int × Tok)) (i j : Nat) : Array (Int × Tok) := (ps.setIfInBounds i (ps.getD j (0, 0))).setIfInBounds j (ps.getD i (0, 0))
theorem sw_size {ps : Array (Int × Tok)} {i j : Nat} : (sw ps i j).size = ps.size := by
  unfold sw
  rw [Array.size_setIfInBounds, Array.size_setIfInBounds]
theorem getD_get {ps : Array (Int × Tok)} {i : Nat} (h : i < ps.size) : ps.getD i (0, 0) = ps[i] := by
  rw [Array.getD_eq_getD_getElem?, Array.getElem?_eq_getElem h]
  rfl
theorem sw_key {ps : Array (Int × Tok)} {i j : Nat} (hi : i < ps.size) (hj : j < ps.size) (k : Nat) : key (sw ps i j) k = if k = j then key ps i else if k = i then key ps j else key ps k := by
  unfold sw
  rw [key_set (by rw [Array.size_setIfInBounds]; exact hj), key_set hi]
  rfl
theorem sw_perm {ps : Array (Int × Tok)} {i j : Nat} (hi : i < ps.size) (hj : j < ps.size) : (sw ps i j).toList.Perm ps.toList := by
  have e : sw ps i j = ps.swap i j hi hj := by
    unfold sw
    rw [getD_get hi, getD_get hj]
    simp [Array.swap_def, Array.setIfInBounds, hi, hj]
  rw [e]
  exact (Array.swap_perm hi hj).toList
theorem sw_vals {ps : Array (Int × Tok)} {i j : Nat} (hi : i < ps.size) (hj : j < ps.size) : vals (sw ps i j) = ((vals ps).setIfInBounds i (Value.int ps[j].1 ps[j].2)).setIfInBounds j (Value.int ps[i].1 ps[i].2) := by
  unfold sw vals
  rw [getD_get hi, getD_get hj, Array.map_setIfInBounds, Array.map_setIfInBounds]
def dnC (ps : Array (Int × Tok)) (pos : Nat) : Nat := if 2 * pos + 1 + 1 < ps.size ∧ ¬ key ps (2 * pos + 1) < key ps (2 * pos + 1 + 1) then 2 * pos + 1 + 1 else 2 * pos + 1
theorem dnC_lt {ps : Array (Int × Tok)} {pos : Nat} (h : pos < ps.size / 2) : dnC ps pos < ps.size ∧ pos < dnC ps pos := by
  unfold dnC
  split <;> omega
def dn (ps : Array (Int × Tok)) (pos : Nat) : Array (Int × Tok) := if h : pos < ps.size / 2 then dn (sw ps (dnC ps pos) pos) (dnC ps pos) else up ps pos
termination_by ps.size - pos
decreasing_by
  have := dnC_lt h
  rw [sw_size]
  omega
theorem dn_perm (k : Nat) : ∀ (ps : Array (Int × Tok)) (pos : Nat), ps.size - pos = k → (dn ps pos).toList.Perm ps.toList := by
  induction k using Nat.strongRecOn with
  | ind k ih =>
    intro ps pos hk
    by_cases h : pos < ps.size / 2
    · have hc := dnC_lt h
      rw [dn, dif_pos h]
      exact (ih (ps.size - dnC ps pos) (by omega) (sw ps (dnC ps pos) pos) (dnC ps pos) (by rw [sw_size])).trans (sw_perm hc.1 (by omega))
    · rw [dn, dif_neg h]
      exact up_perm pos ps
theorem dn_heap (k : Nat) : ∀ (ps : Array (Int × Tok)) (pos : Nat), ps.size - pos = k → pos < ps.size → (∀ i, 0 < i → i < ps.size → i ≠ pos → (i - 1) / 2 ≠ pos → key ps ((i - 1) / 2) ≤ key ps i) →
    (0 < pos → ∀ i, i < ps.size → 0 < i → (i - 1) / 2 = pos → key ps ((pos - 1) / 2) ≤ key ps i) → IsHp (dn ps pos) := by
  induction k using Nat.strongRecOn with
  | ind k ih =>
    intro ps pos hk hp h1 h2
    by_cases h : pos < ps.size / 2
    · have hc := dnC_lt h
      have sm : ∀ i, i < ps.size → 0 < i → (i - 1) / 2 = pos → key ps (dnC ps pos) ≤ key ps i := fun i i1 i0 e => by
        have e2 : i = 2 * pos + 1 ∨ i = 2 * pos + 1 + 1 := by omega
        unfold dnC
        rcases e2 with rfl | rfl
        · split <;> omega
        · split
          · exact Int.le_refl _
          · rename_i g
            have g2 : key ps (2 * pos + 1) < key ps (2 * pos + 1 + 1) := Classical.byContradiction fun z => g ⟨i1, z⟩
            omega
      have pc : (dnC ps pos - 1) / 2 = pos := by
        unfold dnC
        split <;> omega
      rw [dn, dif_pos h]
      refine ih (ps.size - dnC ps pos) (by omega) (sw ps (dnC ps pos) pos) (dnC ps pos) (by rw [sw_size]) (by rw [sw_size]; exact hc.1) (fun i i0 i1 i2 i3 => ?_) (fun p0 i i1 i0 i2 => ?_)
      · rw [sw_size] at i1
        rw [sw_key hc.1 hp, sw_key hc.1 hp, if_neg i3, if_neg i2]
        by_cases e : i = pos
        · subst e
          rw [if_neg (by omega), if_pos rfl]
          exact h2 i0 _ hc.1 (by omega) pc
        · rw [if_neg e]
          by_cases e2 : (i - 1) / 2 = pos
          · rw [if_pos e2]
            exact sm i i1 i0 e2
          · rw [if_neg e2]
            exact h1 i i0 i1 e e2
      · rw [sw_size] at i1
        rw [sw_key hc.1 hp, sw_key hc.1 hp, pc, if_pos rfl, if_neg (by omega), if_neg (by omega)]
        have g := h1 i i0 i1 (by omega) (by omega)
        rw [i2] at g
        exact g
    · rw [dn, dif_neg h]
      exact up_heap pos ps hp (fun i i0 i1 i2 => h1 i i0 i1 i2 (by omega)) (fun p0 i i1 i0 i2 => by omega)
theorem sift_dn (l : Addr) (r : Value) (k : Nat) : ∀ (ps : Array (Int × Tok)) (pos : Nat) (n : Nat), ps.size - pos = k → pos < ps.size → ps.size ≤ 100001 →
    Meets (Builtin.«_heapq.heapify.sift» ⟨[.ref l, .bool false, .bool true, rawInt (pos : Nat), rawInt (0 : Nat), r, rawInt (-1)], []⟩) (upS l r ps (dn ps pos) n) := by
  induction k using Nat.strongRecOn with
  | ind k ih =>
    intro ps pos n hk hps hz prog w A R s h
    obtain ⟨hp, g, d, tk, os⟩ := s
    obtain ⟨hl, h⟩ := h
    have hz2 : (vals ps).size ≤ sizeLine := by rw [vals_size, sizeLine_eq]; omega
    wp_walk using wpAny_loadPart' hl
    by_cases hpos : pos < ps.size / 2
    · rw [if_pos (show ((pos : Nat) : Int).toNat < (vals ps).size / 2 by rw [Int.toNat_natCast, vals_size]; exact hpos)]
      simp only [Int.toNat_natCast]
      have hl2 : 2 * pos + 1 < ps.size := by omega
      wp_walk
      by_cases c1 : 2 * pos + 1 + 1 < ps.size
      · rw [if_pos (show 2 * pos + 1 + 1 < (vals ps).size by rw [vals_size]; exact c1)]
        wp_walk
        rw [vals_get hl2]
        wp_walk
        rw [vals_get c1]
        wp_walk using rc_lt, wpAny_loadPart' hl
        by_cases c2 : ¬ key ps (2 * pos + 1) < key ps (2 * pos + 1 + 1)
        · have c3 : (!decide ((ps[2 * pos + 1]).1 < (ps[2 * pos + 1 + 1]).1)) = true := by
            rw [key_get, key_get, decide_eq_false c2] <;> rfl
          rw [if_pos c3]
          have ec : dnC ps pos = 2 * pos + 1 + 1 := by
            unfold dnC
            rw [if_pos ⟨c1, c2⟩]
          have hc1 : 2 * pos + 1 + 1 < ps.size := by omega
          have g1 := PySem.IsL.update hl (fun xs => (xs.setIfInBounds (2 * pos + 1 + 1) (Value.int ps[pos].1 ps[pos].2)).setIfInBounds pos (Value.int (ps[2 * pos + 1 + 1]).1 (ps[2 * pos + 1 + 1]).2))
          rw [← sw_vals hc1 hps] at g1
          rw [dn, dif_pos hpos] at h
          have hz3 : (((vals ps).setIfInBounds (2 * pos + 1 + 1) (Value.int ps[pos].1 ps[pos].2)).setIfInBounds pos (Value.int (ps[2 * pos + 1 + 1]).1 (ps[2 * pos + 1 + 1]).2)).size ≤ sizeLine + 1 := by
            rw [Array.size_setIfInBounds, Array.size_setIfInBounds]
            omega
          wp_walk using wpAny_loadPart' hl
          rw [vals_get hc1]
          wp_walk
          rw [vals_get hps]
          wp_walk using (wpAny_updateSeq hl rfl (hz := hz2) (_hz' := hz3))
          refine ⟨plainId_quiet plain_sift _, codeAny_builtin entry_sift ?_⟩
          rw [Around.under_plainId plain_sift _]
          have key2 := fun n2 => ih (ps.size - dnC ps pos) (by have := dnC_lt hpos; omega) (sw ps (dnC ps pos) pos) (dnC ps pos) n2 (by rw [sw_size]) (by rw [sw_size]; exact (dnC_lt hpos).1) (by rw [sw_size]; exact hz) prog w A R
          rw [ec] at key2 h
          exact key2 _ _ ⟨g1, fun h' n' t' a1 a2 a3 => h h' n' t' a1 (fun b u hb hu => a2 b u hb ((Heap.get?_update_other hp _ (Ne.symm hb)).trans hu)) (a3.trans (by simp [Heap.update]))⟩
        · have c3 : ¬ (!decide ((ps[2 * pos + 1]).1 < (ps[2 * pos + 1 + 1]).1)) = true := by
            rw [key_get, key_get, decide_eq_true (Classical.not_not.mp c2)]
            decide
          rw [if_neg c3]
          have ec : dnC ps pos = 2 * pos + 1 := by
            unfold dnC
            rw [if_neg (fun z => z.2 (Classical.not_not.mp c2))]
          have hc1 : 2 * pos + 1 < ps.size := by omega
          have g1 := PySem.IsL.update hl (fun xs => (xs.setIfInBounds (2 * pos + 1) (Value.int ps[pos].1 ps[pos].2)).setIfInBounds pos (Value.int (ps[2 * pos + 1]).1 (ps[2 * pos + 1]).2))
          rw [← sw_vals hc1 hps] at g1
          rw [dn, dif_pos hpos] at h
          have hz3 : (((vals ps).setIfInBounds (2 * pos + 1) (Value.int ps[pos].1 ps[pos].2)).setIfInBounds pos (Value.int (ps[2 * pos + 1]).1 (ps[2 * pos + 1]).2)).size ≤ sizeLine + 1 := by
            rw [Array.size_setIfInBounds, Array.size_setIfInBounds]
            omega
          wp_walk using wpAny_loadPart' hl
          rw [vals_get hc1]
          wp_walk
          rw [vals_get hps]
          wp_walk using (wpAny_updateSeq hl rfl (hz := hz2) (_hz' := hz3))
          refine ⟨plainId_quiet plain_sift _, codeAny_builtin entry_sift ?_⟩
          rw [Around.under_plainId plain_sift _]
          have key2 := fun n2 => ih (ps.size - dnC ps pos) (by have := dnC_lt hpos; omega) (sw ps (dnC ps pos) pos) (dnC ps pos) n2 (by rw [sw_size]) (by rw [sw_size]; exact (dnC_lt hpos).1) (by rw [sw_size]; exact hz) prog w A R
          rw [ec] at key2 h
          exact key2 _ _ ⟨g1, fun h' n' t' a1 a2 a3 => h h' n' t' a1 (fun b u hb hu => a2 b u hb ((Heap.get?_update_other hp _ (Ne.symm hb)).trans hu)) (a3.trans (by simp [Heap.update]))⟩
      · rw [if_neg (show ¬ 2 * pos + 1 + 1 < (vals ps).size by rw [vals_size]; exact c1)]
        have ec : dnC ps pos = 2 * pos + 1 := by
          unfold dnC
          rw [if_neg (fun z => c1 z.1)]
        have hc1 : 2 * pos + 1 < ps.size := by omega
        have g1 := PySem.IsL.update hl (fun xs => (xs.setIfInBounds (2 * pos + 1) (Value.int ps[pos].1 ps[pos].2)).setIfInBounds pos (Value.int (ps[2 * pos + 1]).1 (ps[2 * pos + 1]).2))
        rw [← sw_vals hc1 hps] at g1
        rw [dn, dif_pos hpos] at h
        have hz3 : (((vals ps).setIfInBounds (2 * pos + 1) (Value.int ps[pos].1 ps[pos].2)).setIfInBounds pos (Value.int (ps[2 * pos + 1]).1 (ps[2 * pos + 1]).2)).size ≤ sizeLine + 1 := by
          rw [Array.size_setIfInBounds, Array.size_setIfInBounds]
          omega
        wp_walk using wpAny_loadPart' hl
        rw [vals_get hc1]
        wp_walk
        rw [vals_get hps]
        wp_walk using (wpAny_updateSeq hl rfl (hz := hz2) (_hz' := hz3))
        refine ⟨plainId_quiet plain_sift _, codeAny_builtin entry_sift ?_⟩
        rw [Around.under_plainId plain_sift _]
        have key2 := fun n2 => ih (ps.size - dnC ps pos) (by have := dnC_lt hpos; omega) (sw ps (dnC ps pos) pos) (dnC ps pos) n2 (by rw [sw_size]) (by rw [sw_size]; exact (dnC_lt hpos).1) (by rw [sw_size]; exact hz) prog w A R
        rw [ec] at key2 h
        exact key2 _ _ ⟨g1, fun h' n' t' a1 a2 a3 => h h' n' t' a1 (fun b u hb hu => a2 b u hb ((Heap.get?_update_other hp _ (Ne.symm hb)).trans hu)) (a3.trans (by simp [Heap.update]))⟩
    · rw [if_neg (show ¬ ((pos : Nat) : Int).toNat < (vals ps).size / 2 by rw [Int.toNat_natCast, vals_size]; exact hpos)]
      rw [dn, dif_neg hpos] at h
      wp_walk
      refine ⟨plainId_quiet plain_sift _, codeAny_builtin entry_sift ?_⟩
      rw [Around.under_plainId plain_sift _]
      exact sift_up l r pos ps n hps hz prog w A R _ ⟨hl, h⟩
end
section
open PySem.AutoSeq1 PySem.MeetsSeq
theorem pop_meets1 (l : Addr) (x : Int) (t : Tok) (n : Nat) : Meets (Builtin.«_heapq.heappop» ⟨[.ref l], []⟩) (upS l (.int x t) #[(x, t)] #[] n) := by
  intro prog w A R s h
  obtain ⟨hp, g, d, tk, os⟩ := s
  obtain ⟨hl, h⟩ := h
  have f2 := sub_tt
  have f3 := PySem.AutoSeq1.sub_list_list
  have f4 := PySem.AutoSeq1.sub_tuple_list
  have f5 := PySem.AutoSeq1.sub_list_tuple
  have eb : (vals #[(x, t)]).back? = some (.int x t) := by
    unfold vals
    simp
  have g1 := PySem.IsL.update hl (fun xs => xs.pop)
  have hz2 : (vals #[(x, t)]).size ≤ sizeLine := by rw [vals_size, sizeLine_eq]; simp
  have hz3 : ((vals #[(x, t)]).pop).size ≤ sizeLine + 1 := by rw [Array.size_pop, vals_size, sizeLine_eq]; simp
  have ep : (vals #[(x, t)]).pop = vals #[] := by
    unfold vals
    simp
  rw [ep] at g1
  wp_walk using wpAny_loadPart' hl
  rw [eb]
  wp_walk using (wpAny_updateSeq hl rfl (hz := hz2) (_hz' := hz3)), wpAny_loadPart' hl
  rw [if_pos (show ((vals #[(x, t)]).size == 1) = true by rw [vals_size]; rfl)]
  wp_walk
  exact h _ _ _ g1 (fun b u hb hu => (Heap.get?_update_other hp _ (Ne.symm hb)).trans hu) (by simp [Heap.update])
theorem pop_meets (l : Addr) (x y : Int) (t u : Tok) (ps : Array (Int × Tok)) (n : Nat) (hz : ps.size ≤ 100000) :
    Meets (Builtin.«_heapq.heappop» ⟨[.ref l], []⟩) (upS l (.int x t) (#[(x, t)] ++ ps ++ #[(y, u)]) (dn (#[(y, u)] ++ ps) 0) n) := by
  intro prog w A R s h
  obtain ⟨hp, g, d, tk, os⟩ := s
  obtain ⟨hl, h⟩ := h
  have f2 := sub_tt
  have f3 := PySem.AutoSeq1.sub_list_list
  have f4 := PySem.AutoSeq1.sub_tuple_list
  have f5 := PySem.AutoSeq1.sub_list_tuple
  have eb : (vals (#[(x, t)] ++ ps ++ #[(y, u)])).back? = some (.int y u) := by
    unfold vals
    simp
  have e0 : (vals (#[(x, t)] ++ ps ++ #[(y, u)]))[0]? = some (.int x t) := by
    unfold vals
    rw [Array.map_append, Array.map_append, Array.append_assoc, Array.getElem?_append_left (by simp)]
    simp
  have ep : (vals (#[(x, t)] ++ ps ++ #[(y, u)])).pop = vals (#[(x, t)] ++ ps) := by
    unfold vals
    simp
  have es : (vals (#[(x, t)] ++ ps)).setIfInBounds 0 (.int y u) = vals (#[(y, u)] ++ ps) := by
    unfold vals
    apply Array.ext'
    simp [Array.toList_setIfInBounds]
  have sz : (vals (#[(x, t)] ++ ps ++ #[(y, u)])).size = ps.size + 2 := by
    rw [vals_size]
    simp
    omega
  have sz2 : (vals (#[(x, t)] ++ ps)).size = ps.size + 1 := by
    rw [vals_size]
    simp
    omega
  have sz3 : (vals (#[(y, u)] ++ ps)).size = ps.size + 1 := by
    rw [vals_size]
    simp
    omega
  have g1 := PySem.IsL.update hl (fun xs => xs.pop)
  rw [ep] at g1
  have g2 := PySem.IsL.update g1 (fun xs => xs.setIfInBounds 0 (.int y u))
  rw [es] at g2
  have hz2 : (vals (#[(x, t)] ++ ps ++ #[(y, u)])).size ≤ sizeLine := by rw [sz, sizeLine_eq]; omega
  have hz3 : ((vals (#[(x, t)] ++ ps ++ #[(y, u)])).pop).size ≤ sizeLine + 1 := by rw [ep, sz2, sizeLine_eq]; omega
  have hz4 : (vals (#[(x, t)] ++ ps)).size ≤ sizeLine := by rw [sz2, sizeLine_eq]; omega
  have hz5 : ((vals (#[(x, t)] ++ ps)).setIfInBounds 0 (.int y u)).size ≤ sizeLine + 1 := by rw [es, sz3, sizeLine_eq]; omega
  have ne1 : ((vals (#[(x, t)] ++ ps ++ #[(y, u)])).size == 1) = false := by
    rw [sz]
    simp
  wp_walk using wpAny_loadPart' hl
  rw [eb]
  wp_walk using (wpAny_updateSeq hl rfl (hz := hz2) (_hz' := hz3)), wpAny_loadPart' hl
  rw [ne1]
  rw [if_neg (by decide)]
  wp_walk
  rw [e0]
  wp_walk using (wpAny_updateSeq g1 rfl (hz := hz4) (_hz' := hz5)), wpAny_loadPart' hl
  refine ⟨plainId_quiet plain_sift _, codeAny_builtin entry_sift ?_⟩
  rw [Around.under_plainId plain_sift _]
  exact sift_dn l (.int x t) ((#[(y, u)] ++ ps).size - 0) (#[(y, u)] ++ ps) 0 _ rfl (by simp; omega) (by simp; omega) prog w A R _
    ⟨g2, fun h' n' t' a1 a2 a3 => h h' n' t' a1 (fun b v hb hv => a2 b v hb ((Heap.get?_update_other _ _ (Ne.symm hb)).trans ((Heap.get?_update_other hp _ (Ne.symm hb)).trans hv))) (a3.trans (by simp [Heap.update]))⟩
end
/-- a heap, as a list of ints -/
def HpL (xs : List Int) : Prop := ∀ i, 0 < i → i < xs.length → xs.getD ((i - 1) / 2) 0 ≤ xs.getD i 0
theorem HpL.nil : HpL [] := fun i _ h => absurd h (by simp)
theorem key_getD {ps : Array (Int × Tok)} {xs : List Int} (h : ps.toList.map (·.1) = xs) (i : Nat) : key ps i = xs.getD i 0 := by
  subst h
  unfold key
  by_cases e : i < ps.size
  · rw [getD_get e]
    simp [List.getD_eq_getElem?_getD, e]
  · simp [Array.getD_eq_getD_getElem?, List.getD_eq_getElem?_getD, e]
theorem hpL_iff {ps : Array (Int × Tok)} {xs : List Int} (h : ps.toList.map (·.1) = xs) : IsHp ps ↔ HpL xs := by
  have sz : xs.length = ps.size := by
    rw [← h]
    simp
  unfold IsHp HpL
  rw [sz]
  constructor
  · intro q i i0 i1
    have := q i i0 i1
    rwa [key_getD h, key_getD h] at this
  · intro q i i0 i1
    have := q i i0 i1
    rwa [key_getD h, key_getD h]
theorem HpL.least : ∀ {xs : List Int}, HpL xs → ∀ (i : Nat), i < xs.length → xs.getD 0 0 ≤ xs.getD i 0 := by
  intro xs h i
  induction i using Nat.strongRecOn with
  | ind i ih =>
    intro hi
    by_cases e : i = 0
    · rw [e]
      exact Int.le_refl _
    · have a := ih ((i - 1) / 2) (by omega) (by omega)
      have b := h i (by omega) hi
      omega
theorem HpL.head {x : Int} {xs : List Int} (h : HpL (x :: xs)) : ∀ y ∈ xs, x ≤ y := by
  intro y hy
  obtain ⟨i, hi⟩ := List.mem_iff_getElem?.mp hy
  have := h.least (i + 1) (by have := (List.getElem?_eq_some_iff.mp hi).1; simp; omega)
  simpa [List.getD_eq_getElem?_getD, hi] using this
/-- a list of ints as it stands on the heap -/
theorem ints_arr : ∀ {its : List Value} {ns : List Int}, Vals (ns.map V.int) its → ∃ ps : List (Int × Tok), its = (ps.map fun p => Value.int p.1 p.2) ∧ ps.map (·.1) = ns
  | [], [], _ => ⟨[], rfl, rfl⟩
  | u :: us, n :: ns, h => by
    cases h with
    | cons a b =>
      obtain ⟨t, rfl⟩ := a
      obtain ⟨ps, e1, e2⟩ := ints_arr b
      exact ⟨(n, t) :: ps, by rw [e1]; rfl, by simp [e2]⟩
  | [], n :: ns, h => by cases h
  | u :: us, [], h => by cases h
theorem arr_ints {ps : List (Int × Tok)} : Vals ((ps.map (·.1)).map V.int) (ps.map fun p => Value.int p.1 p.2) := by
  induction ps with
  | nil => exact .nil
  | cons p ps ih => exact .cons ⟨p.2, rfl⟩ ih
def rPush : List V → Hp → VK → Prop := fun vs H Q => ∃ (l : Addr) (x : Int) (xs : List Int), vs = [.ref l, .int x] ∧ H l = some (.lst (xs.map V.int)) ∧ xs.length ≤ 100000 ∧
  ∀ ys : List Int, ys.Perm (x :: xs) → (HpL xs → HpL ys) → Q .non (upd H l (.lst (ys.map V.int)))
def rPopH : List V → Hp → VK → Prop := fun vs H Q => ∃ (l : Addr) (x : Int) (xs : List Int), vs = [.ref l] ∧ H l = some (.lst ((x :: xs).map V.int)) ∧ xs.length ≤ 100000 ∧
  ∀ ys : List Int, ys.Perm xs → (HpL (x :: xs) → HpL ys) → Q (.int x) (upd H l (.lst (ys.map V.int)))
theorem kind_push : builtinKind "_heapq.heappush" = none := by decide +kernel
theorem plain_push : plainId "_heapq.heappush" = true := by decide +kernel
theorem entry_push : entryFor table "_heapq.heappush" = some Builtin.«_heapq.heappush» := entryFor_of_fast (by kernel_rfl)
theorem kind_popH : builtinKind "_heapq.heappop" = none := by decide +kernel
theorem plain_popH : plainId "_heapq.heappop" = true := by decide +kernel
theorem entry_popH : entryFor table "_heapq.heappop" = some Builtin.«_heapq.heappop» := entryFor_of_fast (by kernel_rfl)
theorem args_push (a b : Value) : argsOk "_heapq.heappush" ⟨[a, b], []⟩ := by
  unfold argsOk
  first | rfl | kernel_rfl
theorem args_popH (a : Value) : argsOk "_heapq.heappop" ⟨[a], []⟩ := by
  unfold argsOk
  first | rfl | kernel_rfl
section
variable {X : Cx}
theorem inv_frame {pins : List (Addr × Obj)} {σ : L2.St} {H : Hp} {s : Shared} {l : Addr} {xs : List V} {ys : List Int} {qs : Array (Int × Tok)} {h' : Heap} {n' t' : Nat} (I : Inv X pins σ H s) (hH : H l = some (.lst xs))
    (a1 : h'.get? l = some { cls := .type "list", dict := none, data := .seq (vals qs) n', slots := #[] }) (a2 : ∀ b u, b ≠ l → s.heap.get? b = some u → h'.get? b = some u) (e : qs.toList.map (·.1) = ys) (hz : ys.length ≤ sizeLine) :
    Inv X pins σ (upd H l (.lst (ys.map V.int))) { s with heap := h', toks := t' } := by
  refine I.write (x := l) (e := l) (by rw [hH]; exact trivial) (.inl rfl) a2 ⟨_, a1⟩ ?_
  refine ⟨by rw [List.length_map]; exact hz, qs.toList.map fun p => Value.int p.1 p.2, n', ?_, ?_⟩
  · subst e
    exact arr_ints
  · rw [a1]
    have : (qs.toList.map fun p => Value.int p.1 p.2).toArray = vals qs := by
      unfold vals
      apply Array.ext'
      simp
    rw [this]
theorem call_push : CallR X (.builtin "_heapq.heappush") rPush := by
  intro pins s σ H vs us Q I r h
  obtain ⟨l, x, xs, rfl, hH, hz, q⟩ := h
  obtain ⟨u1, u2, rfl, r1, r2⟩ := vals2 r
  cases r1
  obtain ⟨t, rfl⟩ := r2
  obtain ⟨z, its, n, rv, hl, e⟩ := I.lstM hH
  obtain ⟨ps, e1, e2⟩ := ints_arr rv
  subst e1
  have ev : (ps.map fun p => Value.int p.1 p.2).toArray = vals ps.toArray := by
    unfold vals
    simp
  rw [ev] at e
  have sz : ps.toArray.size = xs.length := by
    rw [← e2]
    simp
  refine call_function_meets kind_push plain_push entry_push (args_push _ _) (push_meets l x t ps.toArray n (by omega)) ⟨e, fun h' n' t' a1 a2 a3 => ?_⟩
  have hp := up_perm ps.toArray.size (ps.toArray.push (x, t))
  have hp2 : ((up (ps.toArray.push (x, t)) ps.toArray.size).toList.map (·.1)).Perm (x :: xs) := by
    refine (hp.map (·.1)).trans ?_
    rw [Array.toList_push, List.map_append, e2]
    exact List.perm_append_comm
  refine ⟨.non, _, inv_frame I hH a1 a2 rfl ?_, rfl, q _ hp2 fun h => ?_⟩
  · rw [hp2.length_eq, List.length_cons, sizeLine_eq]
    omega
  · refine (hpL_iff rfl).mp (up_heap _ _ (by rw [Array.size_push]; omega) (fun i i0 i1 i2 => ?_) (fun p0 i i1 i0 i2 => ?_))
    · rw [Array.size_push] at i1
      have ps2 : (ps.toArray.push (x, t)).toList.map (·.1) = xs ++ [x] := by
        rw [Array.toList_push, List.map_append, e2]
        rfl
      rw [key_getD ps2, key_getD ps2]
      have := h i i0 (by omega)
      have a1 : (xs ++ [x]).getD ((i - 1) / 2) 0 = xs.getD ((i - 1) / 2) 0 := by
        rw [List.getD_eq_getElem?_getD, List.getElem?_append_left (by omega), List.getD_eq_getElem?_getD]
      have a2 : (xs ++ [x]).getD i 0 = xs.getD i 0 := by
        rw [List.getD_eq_getElem?_getD, List.getElem?_append_left (by omega), List.getD_eq_getElem?_getD]
      rw [a1, a2]
      exact this
    · rw [Array.size_push] at i1
      omega
theorem call_popH : CallR X (.builtin "_heapq.heappop") rPopH := by
  intro pins s σ H vs us Q I r h
  obtain ⟨l, x, xs, rfl, hH, hz, q⟩ := h
  have er := Vals.ref1 r
  subst er
  obtain ⟨z, its, n, rv, hl, e⟩ := I.lstM hH
  obtain ⟨ps, e1, e2⟩ := ints_arr rv
  subst e1
  have ev : (ps.map fun p => Value.int p.1 p.2).toArray = vals ps.toArray := by
    unfold vals
    simp
  rw [ev] at e
  rcases List.eq_nil_or_concat xs with hx | ⟨zs, y, hx⟩
  · subst hx
    match ps, e2 with
    | [(x', t)], e2 =>
      have : x' = x := by simpa using e2
      subst this
      refine call_function_meets kind_popH plain_popH entry_popH (args_popH _) (pop_meets1 l x' t n) ⟨e, fun h' n' t' a1 a2 a3 => ?_⟩
      exact ⟨.int x', _, inv_frame I hH a1 a2 (ys := []) rfl (Nat.zero_le _), ⟨_, rfl⟩, q [] (List.Perm.refl _) fun _ => HpL.nil⟩
  · rw [List.concat_eq_append] at hx
    subst hx
    have : ∃ t qs u, ps = (x, t) :: qs ++ [(y, u)] ∧ qs.map (·.1) = zs := by
      match ps, e2 with
      | (x', t) :: ps', e2 =>
        rw [List.map_cons, List.cons.injEq] at e2
        obtain ⟨e3, e4⟩ := e2
        rcases List.eq_nil_or_concat ps' with h | ⟨qs, w, h⟩
        · subst h
          simp at e4
        · rw [List.concat_eq_append] at h
          subst h
          rw [List.map_append] at e4
          have h1 := List.append_inj' e4 (by simp)
          have h2 : w.1 = y := by simpa using h1.2
          subst e3
          subst h2
          exact ⟨t, qs, w.2, rfl, h1.1⟩
    obtain ⟨t, qs, u, rfl, eq⟩ := this
    have ea : ((x, t) :: qs ++ [(y, u)]).toArray = #[(x, t)] ++ qs.toArray ++ #[(y, u)] := by
      apply Array.ext'
      simp
    rw [ea] at e
    have sq : qs.toArray.size = zs.length := by
      rw [← eq]
      simp
    rw [List.length_append] at hz
    have hz1 : zs.length + 1 ≤ 100000 := hz
    refine call_function_meets kind_popH plain_popH entry_popH (args_popH _) (pop_meets l x y t u qs.toArray n (by omega)) ⟨e, fun h' n' t' a1 a2 a3 => ?_⟩
    have hp := dn_perm _ (#[(y, u)] ++ qs.toArray) 0 rfl
    have hp2 : ((dn (#[(y, u)] ++ qs.toArray) 0).toList.map (·.1)).Perm (zs ++ [y]) := by
      refine (hp.map (·.1)).trans ?_
      rw [Array.toList_append, List.map_append, List.toList_toArray, eq]
      exact List.perm_append_comm
    refine ⟨.int x, _, inv_frame I hH a1 a2 rfl ?_, ⟨_, rfl⟩, q _ hp2 fun h => ?_⟩
    · rw [hp2.length_eq, List.length_append, sizeLine_eq]
      show zs.length + 1 ≤ _
      omega
    · have ps2 : (#[(y, u)] ++ qs.toArray).toList.map (·.1) = y :: zs := by
        simp [eq]
      have sz2 : (#[(y, u)] ++ qs.toArray).size = zs.length + 1 := by
        simp
        rw [← eq]
        simp
      refine (hpL_iff rfl).mp (dn_heap _ _ 0 rfl (by omega) (fun i i0 i1 i2 i3 => ?_) (fun p0 => absurd p0 (by omega)))
      rw [key_getD ps2, key_getD ps2]
      rw [sz2] at i1
      have g : ∀ j, 0 < j → j < zs.length + 1 → (y :: zs).getD j 0 = (x :: (zs ++ [y])).getD j 0 := fun j j0 j1 => by
        obtain ⟨k, rfl⟩ : ∃ k, j = k + 1 := ⟨j - 1, by omega⟩
        rw [List.getD_cons_succ, List.getD_cons_succ, List.getD_eq_getElem?_getD, List.getD_eq_getElem?_getD, List.getElem?_append_left (by omega)]
      rw [g _ (by omega) (by omega), g _ i0 i1]
      exact h i i0 (by simp; omega)
end

/-! ### xs[:] = ys, sorted of a dict, d.get(k) -/
theorem PE.by {X : Cx} {e : Expr} {t t' : TE} (h : PE X e t) (w : ∀ σ H Q, t' σ H Q → t σ H Q) : PE X e t' := ⟨fun pins s σ H Q I q => h.run pins s σ H Q I (w σ H Q q)⟩
section
variable {pg : Program} {wd : World} {Ar : Around} {Er : Value → Shared → Prop} {sh : Shared}
/-- where a whole list is replaced: from its beginning to its end, by ones -/
theorem whole_bounds {k : Nat} : sliceBounds none none none k = ((0 : Int), (k : Int), 1) := by simp [sliceBounds]
theorem set_whole {p q c : Addr} {old fresh : Array Value} {e1 e2 : Nat} {u v : Value} {R : Unit → Shared → Prop}
    (hp : sh.heap.get? p = some { cls := .type "list", data := .seq old e1 }) (hq : sh.heap.get? q = some { cls := .type "list", data := .seq fresh e2 }) (pq : p ≠ q)
    (hc : sh.heap.IsSliceOf c u v .none) (hu : IsPart u none) (hv : IsPart v none) (fits : old.size + fresh.size ≤ sizeLine)
    (k : R () { sh with heap := sh.heap.update p (Obj.mapSeq fun xs => xs.extract 0 0 ++ fresh ++ xs.extract old.size xs.size) }) : wpAny (model pg wd) Ar (setItem (.ref p) (.ref c) (.ref q)) R Er sh := by
  have lp := PySem.IsL.isList hp
  have lq := PySem.IsL.isList hq
  obtain ⟨oc, gc, cc, dc⟩ := id hc
  have tc : sh.TypeIs (.ref c) "slice" := ⟨oc, gc, cc⟩
  have other : Builtin.List.listSameRef (.ref p) (.ref q) = false := by unfold Builtin.List.listSameRef; exact beq_eq_false_iff_ne.mpr pq
  have upTo : (max ((0 : Nat) : Int) (old.size : Int)).toNat = old.size := by omega
  have grows : ((fun xs : Array Value => xs.extract 0 0 ++ fresh ++ xs.extract old.size xs.size) old).size ≤ sizeLine + 1 := by simp only [Array.size_append, Array.size_extract]; omega
  unfold setItem
  with_reducible refine wpAny_holding (wpAny_bind (wpAny_sequenceKey lp.typeIs (by decide) (wpAny_bind (wpAny_callSpecial?_slot (name := Str.ofString "__setitem__") lp.typeIs slot_list_setitem (wpAny_call_entry slot_list_setitem lp.typeIs entry_list_setitem ?_ (args_list_setitem _ _ _))))))
  show wpAny _ _ (Builtin.List.listSubscript? (.ref c) >>= _) _ _ sh; refine wpAny_bind ?_
  unfold Builtin.List.listSubscript?; refine wpAny_bind (wpAny_specialOf tc slice_no_index ?_)
  simp only [Option.isNone_none, if_true]; refine wpAny_pure ?_
  show wpAny _ _ (typeOf (.ref c) >>= _) _ _ sh; refine wpAny_bind (wpAny_typeOf tc (PySem.W.KFB.if_not (by decide) ?_))
  rw [listSliceParts_eq]; refine wpAny_bind (wpAny_bind (wpAny_field gc dc (x := .none) rfl (wpAny_bind (wpAny_listPart .none ?_)))); rw [if_neg (show ¬ (rawPart none == rawInt 0) = true from Bool.false_ne_true)]
  refine wpAny_bind (wpAny_field gc dc (x := u) rfl (wpAny_bind (wpAny_listPart hu (wpAny_bind (wpAny_field gc dc (x := v) rfl (wpAny_bind (wpAny_listPart hv (wpAny_pure ?_))))))))
  refine PySem.W.KFB.if_not other (wpAny_bind (m := Builtin.List.listAllItems (.ref q) _) ?_)
  unfold Builtin.List.listAllItems; refine wpAny_bind (wpAny_typeOf lq.typeIs (PySem.W.KFB.if_so (by decide) ?_))
  unfold Builtin.List.listItems; refine wpAny_bind (wpAny_seqItems hq rfl (wpAny_pure (wpAny_bind (wpAny_bind (wpAny_seqItems hp rfl (wpAny_pure ?_))))))
  refine wpAny_bind (wpAny_of_eq ((sliceIndices_raw none none none old.size (by simp)).trans (congrArg (pure : Int × Int × Int → Sem (Int × Int × Int)) whole_bounds)) ?_)
  show wpAny _ _ (if ((1 : Int) == 1) = true then _ else _) _ _ sh; rw [if_pos (by decide)]
  refine wpAny_bind (wpAny_rule (PySem.W.KFB.if_not (notLongL fits) ?_))
  first | refine wpAny_bind (wpAny_pure ?_) | (skip; skip)
  show wpAny _ _ (updateSeq p (fun xs => xs.extract 0 (((0 : Nat) : Int)).toNat ++ fresh ++ xs.extract (max ((0 : Nat) : Int) (old.size : Int)).toNat xs.size) >>= _) _ _ sh; rw [upTo, Int.toNat_natCast]
  refine wpAny_bind (wpAny_updateSeq (hz := Nat.le_trans (Nat.le_add_right _ _) fits) (_hz' := grows) hp rfl (wpAny_bind (wpAny_letGo ?_)))
  first | exact wpAny_bind (wpAny_pure (wpAny_pure ⟨.none, rfl, wpAny_pure k⟩)) | exact wpAny_pure ⟨.none, rfl, wpAny_pure k⟩
end
def gAll (to : TE) : TG := fun v σ H Q => to σ H fun x H1 => ∃ l b, x = .ref l ∧ v = .ref b ∧ l ≠ b ∧ lstAt H1 l fun xs => lstAt H1 b fun ys => xs.length + ys.length ≤ sizeLine ∧ Q σ (upd H1 l (.lst ys))
section
variable {X : Cx}
theorem pg_all {o : Expr} {to : TE} {p2 pos : Pos} (ho : PE X o to)
    (shape : ∀ v, assign (.Subscript o (.Slice none none none p2) pos) X.env v = (do let ov ← holding [v] (eval o X.env); let iv ← holding [v, ov] (eval (.Slice none none none p2) X.env); standAt pos; holding [v, ov, iv] (setItem ov iv v); release [iv, v, ov] []) := by intro _; rfl) : PG X (.Subscript o (.Slice none none none p2) pos) (gAll to) := by
  refine ⟨fun pins sh σ H v u Q inv rel ask => ?_⟩
  rw [shape]; refine wpAny_bind (wpAny_holding (thn (ho.run pins sh σ H _ inv ask) fun ov s1 hh => ?_))
  obtain ⟨x, H1, I1, r1, l, b, rfl, rfl, hne, q1⟩ := hh
  obtain ⟨xs, hx, q1⟩ := lstAt_get q1
  obtain ⟨ys, hy, hz, q1⟩ := lstAt_get q1
  cases r1
  cases rel
  refine wpAny_bind (wpAny_holding (wpAny_Slice ?_)); rw [evalPart_none]
  refine wpAny_pure (wpAny_pure (wpAny_pure ?_))
  have I4 : Inv X pins σ H1 { s1 with heap := s1.heap.push { cls := .type "slice", data := .fields #[.none, .none, .none] } } := I1.kept (t' := s1.toks) fun b ob q => Heap.get?_push_of_some _ q
  obtain ⟨_, its, n, rv, hl, e⟩ := I4.lstM hx
  obtain ⟨z2, its2, n2, r2, hl2, e2⟩ := I4.lstM hy
  refine wpAny_bind (wpAny_standAt (wpAny_bind (wpAny_holding (set_whole e e2 hne (Heap.IsSliceOf.new ..) .none .none (by rw [List.size_toArray, List.size_toArray]; omega) ?_))))
  refine wpAny_release ⟨σ, _, I4.lset (its' := its2) (t' := s1.toks) hx e ?_ r2 z2, q1⟩
  apply Array.ext'; simp
/-- sorted(d), d a dict of int keys, of any length -/
def rSortD : List V → Hp → VK → Prop := fun xs H Q => ∃ (a : Addr), xs = [.ref a] ∧ dcAt H a fun kvs => ∃ (ks : List Int), kvs.map (·.1) = ks.map Sum.inl ∧
    ∀ (ys : List Int) (p : Addr), ys.Perm ks → ys.Pairwise (· ≤ ·) → H p = none → Q (.ref p) (upd H p (.lst (ys.map V.int)))
theorem keys_ints {acc : Array Value} {vs : List (Key × Value)} {ks : List Int} (hk : vs.map (·.1) = ks.map Sum.inl) (sz : acc.size = vs.length) (each : ∀ (j : Nat) (u : Value), acc[j]? = some u → ∃ (k : Key) (x : _), vs[j]? = some (k, x) ∧ keyIs k u = true) : IntsAre acc.toList ks := by
  have lens : vs.length = ks.length := by simpa using congrArg List.length hk
  refine ints_each (by rw [Array.length_toList, sz, lens]) fun j u hu => ?_
  obtain ⟨k, x, here, is⟩ := each j u (by rw [← Array.getElem?_toList]; exact hu)
  have at_j : (ks.map Sum.inl)[j]? = some k := by rw [← hk, List.getElem?_map, here]; rfl
  rw [List.getElem?_map] at at_j
  obtain ⟨y, hy, same⟩ := Option.map_eq_some_iff.mp at_j
  subst same
  rcases keyIs_shape is with ⟨i, t, c, d⟩ | ⟨z, t, c, d⟩ <;> cases c
  exact ⟨_, t, hy, d⟩
theorem call_sortD (calm : X.calm = true) : CallR X (.builtin "sorted") rSortD := by
  intro pins sh σ H xs us Q inv rel ask
  obtain ⟨a, rfl, ask⟩ := ask
  obtain ⟨kvs, here, ks, hks, ask⟩ := dcAt_get ask
  obtain ⟨u, rfl, ra⟩ := vals1 rel
  cases ra
  obtain ⟨small, lo, vs, kv, dd⟩ := dk_rd inv.hok (.inl here)
  obtain ⟨ep, hat⟩ := dd.dictAt
  have vk : vs.map (·.1) = ks.map Sum.inl := kv.keys.symm.trans hks
  have l1 : vs.length = ks.length := by simpa using congrArg List.length vk
  have l2 : kvs.length = ks.length := by simpa using congrArg List.length hks
  refine Calls.call_function_entry kind_sorted plain_sorted entry_sorted (args_sorted1 (.ref a)) ?_
  unfold Builtin.«sorted»; refine wpAny_bind (m := checkCount "sorted" 1 1 _) (wpAny_pure (wpAny_bind ?_))
  refine PySem.W.kdu_collect (A := X.A.in1) (PySem.W.kdl_dict (knd := mixKind X.prog X.w) (kvs := vs) (ep := ep) lo) (inv.ok.hd calm) hat (by omega) fun h' tk acc kept got => ?_
  have nums := keys_ints vk got.1 got.2
  have fits : acc.toList.length ≤ sizeLine := by rw [Array.length_toList, got.1]; omega
  have I1 : Inv X pins σ H { sh with heap := h', toks := tk } := inv.kept kept
  refine wpAny_bind (wpAny_newList (wpAny_bind (wpAny_holding ?_)) fits)
  have new : (h'.push (seqObj "list" acc.toList.toArray 0)).get? h'.objs.size = some (seqObj "list" acc.toList.toArray 0) := Heap.get?_push_size _ rfl
  refine wpAny_call_entry (s := { sh with heap := h'.push (seqObj "list" acc.toList.toArray 0), toks := tk }) slot_list_sort ⟨_, new, rfl⟩ entry_list_sort (SrtO.list_sort_ord SrtO.swo_int new fits (fun two => SrtO.ints_sortable nums two) fun out o1 o2 => ⟨_, rfl, ?_⟩) (args_list_sort _)
  obtain ⟨k1, k2, k3⟩ := SrtO.ints_out nums o1 o2
  obtain ⟨e', he'⟩ := sortedHeap_at (vs := acc.toList) (out := out.toArray) new
  refine wpAny_pure ⟨_, rfl, .ref h'.objs.size, upd H h'.objs.size (.lst ((out.map SrtO.iv).map V.int)), I1.laid (t' := tk) (fun b u e => ?_) (Nat.le_refl _) ⟨by rw [List.length_map, k2.length_eq, ← l2]; exact small, out, e', vals_of_ints k1, he'⟩, rfl, ask _ _ k2 k3 (I1.hok.fresh (Nat.le_refl _))⟩
  have lt : b < h'.objs.size := Heap.lt_size e
  rw [sortedHeap_old (Nat.ne_of_lt lt) (by rw [size_push']; exact Nat.lt_succ_of_lt lt)]; exact Heap.get?_push_of_some _ e
/-- d.get(k) -/
def tDGetM (td ty : TE) : TE := fun σ H Q => td σ H fun x H1 => ∃ a, x = .ref a ∧ (dcAt H1 a fun _ => True) ∧ ty σ H1 fun y H2 => ∃ k, keyOf y = some k ∧ dcAt H2 a fun kvs => Q ((valV kvs k).getD .non) H2
theorem pe_dgetM {o e : Expr} {apos cpos : Pos} {td ty : TE} (hu : X.A.units + 1 < cLine) (ho : PE X o td) (he : PE X e ty) (m : M1 X o "get" apos e cpos) : PE X (.Call (.Attribute o "get" apos) [e] [] cpos) (tDGetM td ty) := by
  refine ⟨fun pins sh σ H Q inv ask => wpAny_Call_method m.base m.few m.line PySem.F.plainAttrs_dict PySem.F.slot_dict_get PySem.F.type_dict_get (thn (ho.run pins sh σ H _ inv ask) fun u s1 hh => ?_)⟩
  obtain ⟨x, H1, I1, rx, a, rfl, d, q1⟩ := hh
  cases rx
  obtain ⟨kvs0, hd0, _⟩ := dcAt_get d
  obtain ⟨t1, t2, _⟩ := isD_at I1 (.inl ⟨kvs0, .inl hd0⟩)
  refine ⟨t1, t2, ?_⟩; rw [m.trees]
  refine Calls.callWith_builtin rfl (Calls.evalArgs_plain (Calls.spliced_cons (thn (he.run pins s1 σ H1 _ I1 q1) fun iv s2 hh => Calls.spliced_nil ?_)))
  obtain ⟨y, H2, I2, ry, k, hk, q2⟩ := hh
  obtain ⟨kvs, hd, q3⟩ := dcAt_get q2
  obtain rfl := keyOf_kV hk
  exact d_get1 hu I2 (.k hd) ry fun w' s3 I3 rw' => ⟨_, H2, I3, rw', q3⟩
end
/-- o.m() that may raise -/
def tMethE0 (C : Addr) (m : Str) (sp : Sp) (E : L2.St → XK) (ta : TE) : TE := fun σ H Q => ta σ H fun x H1 => ∃ a dx fs, x = .ref a ∧ H1 a = some (.ins C dx fs) ∧ fs.lookup m = none ∧ sp [x] H1 Q (E σ)
theorem pe_methE0 {X : Cx} {CX : CXT} {k : Nat} {C f : Addr} {fd : FuncData} {ps : List Str} {m : Str} {sp : Sp} {E : L2.St → XK} {o : Expr} {ta : TE} {apos pos : Pos} {pl : Sem Bool} (he : PE X o ta) (c : Cls X.K C) (hm : Meth X.K C m f)
    (F : FnOk X.prog X.w X.K X.mg X.base CX k f fd ps sp) (hr : Room k X.A) (hb : Binds X.K fd ps []) (hx : ∀ σ, PassesAt CX X σ (E σ))
    (ht : eval (.Call (.Attribute o m apos) [] [] pos) X.env = (do let ov ← eval o X.env; standAt apos.atName; let (f, first) ← holding [ov] (getMethod ov m pl); callWith pos f first (backTo pos (starEach [] X.env)) (backToKw pos (keywordEach [] X.env))) := by rfl) :
    PE X (.Call (.Attribute o m apos) [] [] pos) (tMethE0 C m sp E ta) := by
  refine ⟨fun pins sh σ H Q inv ask => PySem.W.methodCall_KW (pl := pl) (thn (he.run pins sh σ H _ inv ask) fun u1 s1 hh => ?_) ht⟩
  obtain ⟨x, H1, I1, rx, a, dx, fs, rfl, ea, l, q⟩ := hh
  cases rx
  exact getmeth_ok I1 ea c hm l (PySem.W.callWith_K0 (first := [.ref a]) I1.kIn hm.kp (run_fnS (us := [.ref a]) (vs := [.ref a]) F hr hb (hx σ) I1 (.cons rfl .nil) q))

/-! ### comprehensions and loops, whose parts leave the heap as it is -/
inductive LcR (b : Nat → Bool) (Y : Nat → V → Prop) : Nat → List V → Prop
  | nil : LcR b Y 0 []
  | yes {i ys y} : LcR b Y i ys → b i = true → Y i y → LcR b Y (i + 1) (ys ++ [y])
  | no {i ys} : LcR b Y i ys → b i = false → LcR b Y (i + 1) ys
theorem LcR.len {b Y n ys} (h : LcR b Y n ys) : ys.length ≤ n := by
  induction h with
  | nil => exact Nat.le_refl _
  | yes h _ _ ih =>
    rw [List.length_append]
    show _ + 1 ≤ _
    omega
  | no h _ ih => omega
theorem LcR.map {b : Nat → Bool} {f : Nat → V} {n ys} (h : LcR b (fun i y => y = f i) n ys) : ys = ((List.range n).filter b).map f := by
  induction h with
  | nil => rfl
  | yes h hb hy ih =>
    rw [List.range_succ, List.filter_append, List.map_append, ← ih, List.filter_cons, if_pos hb, hy]
    rfl
  | no h hb ih =>
    rw [List.range_succ, List.filter_append, List.map_append, ← ih, List.filter_cons, if_neg (by rw [hb]; decide)]
    simp
theorem LcR.all {Y : Nat → V → Prop} {n ys} (h : LcR (fun _ => true) Y n ys) : ys.length = n ∧ ∀ i y, ys[i]? = some y → Y i y := by
  generalize hb : (fun _ : Nat => true) = b at h
  induction h with
  | nil => exact ⟨rfl, fun i y h => by simp at h⟩
  | @yes i ys y h _ hy ih =>
    obtain ⟨e, g⟩ := ih
    refine ⟨by rw [List.length_append, e]; rfl, fun j z hz => ?_⟩
    by_cases c : j < ys.length
    · rw [List.getElem?_append_left c] at hz
      exact g j z hz
    · rw [List.getElem?_append_right (by omega)] at hz
      have : j - ys.length = 0 := by
        have := (List.getElem?_eq_some_iff.mp hz).1
        simp at this
        omega
      rw [this] at hz
      have e2 : y = z := by simpa using hz
      have e3 : j = i := by omega
      rw [e3, ← e2]
      exact hy
  | no h hb2 ih =>
    subst hb
    cases hb2
/-- all values are ints -/
theorem LcR.ints {P : Nat → Int → Prop} {b n ys} (h : LcR b (fun i y => ∃ z, y = .int z ∧ P i z) n ys) : ∃ zs : List Int, ys = zs.map V.int := by
  induction h with
  | nil => exact ⟨[], rfl⟩
  | yes h _ hy ih =>
    obtain ⟨zs, e⟩ := ih
    obtain ⟨z, e2, _⟩ := hy
    exact ⟨zs ++ [z], by rw [e, e2, List.map_append]; rfl⟩
  | no h _ ih => exact ih
theorem lc_rngI {ta : TA} {tt : TT} {te : TE} {c : Nat} {σ : L2.St} {H : Hp} {Q : VK} (n : Nat) (b : Nat → Bool) (Y : Nat → V → Prop) (hta : ∀ R : List V → Hp → Prop, R [.int (n : Int)] H → ta σ H R) (hn : n ≤ 100000)
    (hb : ∀ i H' (R : Bool → Hp → Prop), i < n → Same H H' → R (b i) H' → tt ((σ.set c none).set c (some (.int (i : Int)))) H' R) (he : ∀ i H' (R : VK), i < n → b i = true → Same H H' → (∀ y, Y i y → R y H') → te ((σ.set c none).set c (some (.int (i : Int)))) H' R)
    (k : ∀ D ys, H D = none → LcR b Y n ys → Q (.ref D) (upd H D (.lst ys))) : tLc (iRng1 ta) (gName c) tt te [c] σ H Q := by
  refine hta _ ⟨n, rfl, by omega, by omega, fun D hD => ?_⟩
  rw [Int.toNat_natCast]
  refine lc_range (fun i H' => ∃ ys, LcR b Y i ys ∧ H' = upd H D (.lst ys)) ⟨[], .nil, rfl⟩ ?_ ?_
  · rintro i H' hi ⟨ys, hr, rfl⟩
    rw [Int.zero_add]
    have sm : Same H (upd H D (.lst ys)) := same_new hD
    have szl : (100000 : Nat) < sizeLine := by decide
    have hl := hr.len
    refine ⟨?_, hb i _ _ hi sm ?_⟩
    · show List.set (List.set (List.set σ c none) c _) c none = List.set σ c none
      rw [List.set_set, List.set_set]
    · by_cases hc : b i = true
      · rw [if_pos hc]
        refine he i _ _ hi hc sm fun y hy => ⟨ys, upd_same, by omega, ys ++ [y], hr.yes hc hy, by rw [upd_upd]⟩
      · rw [if_neg hc]
        exact ⟨ys, hr.no (by simpa using hc), rfl⟩
  · rintro H' ⟨ys, hr, rfl⟩
    exact k D ys hD hr
theorem lc_lstI {K : PySem.W.Frag} {tl : TE} {tt : TT} {te : TE} {c : Nat} {σ : L2.St} {H : Hp} {Q : VK} {a : Addr} (xs : List V) (b : Nat → Bool) (Y : Nat → V → Prop) (htl : ∀ R : V → Hp → Prop, R (.ref a) H → tl σ H R) (ha : SqL K H a xs) (hn : xs.length ≤ 100000)
    (hb : ∀ i x H' (R : Bool → Hp → Prop), xs[i]? = some x → Same H H' → R (b i) H' → tt ((σ.set c none).set c (some x)) H' R) (he : ∀ i x H' (R : VK), xs[i]? = some x → b i = true → Same H H' → (∀ y, Y i y → R y H') → te ((σ.set c none).set c (some x)) H' R)
    (k : ∀ D ys, H D = none → LcR b Y xs.length ys → Q (.ref D) (upd H D (.lst ys))) : tLc (iList K tl) (gName c) tt te [c] σ H Q := by
  refine htl _ ⟨a, rfl, ⟨_, ha⟩, fun D hD => lc_list (K := K) (a := a) (xs := xs) (fun i H' => ∃ ys, LcR b Y i ys ∧ H' = upd H D (.lst ys)) ⟨[], .nil, rfl⟩ ?_ ?_ ?_⟩
  · rintro i H' _ ⟨ys, hr, rfl⟩
    exact (same_new hD).seq ha
  · rintro i x H' hx ⟨ys, hr, rfl⟩
    have sm : Same H (upd H D (.lst ys)) := same_new hD
    have szl : (100000 : Nat) < sizeLine := by decide
    have hl := hr.len
    have hi := (List.getElem?_eq_some_iff.mp hx).1
    refine ⟨?_, hb i x _ _ hx sm ?_⟩
    · show List.set (List.set (List.set σ c none) c _) c none = List.set σ c none
      rw [List.set_set, List.set_set]
    · by_cases hc : b i = true
      · rw [if_pos hc]
        refine he i x _ _ hx hc sm fun y hy => ⟨ys, upd_same, by omega, ys ++ [y], hr.yes hc hy, by rw [upd_upd]⟩
      · rw [if_neg hc]
        exact ⟨ys, hr.no (by simpa using hc), rfl⟩
  · rintro H' ⟨ys, hr, rfl⟩
    exact k D ys hD hr
/-- for x in reversed(xs) -/
theorem for_revL {K : PySem.W.Frag} {ta : TA} {g : TG} {tb : TS} {D : Ends} {σ : L2.St} {H H0 : Hp} {a : Addr} (xs : List V) (hta : ∀ R : List V → Hp → Prop, R [.ref a] H0 → ta σ H R) (Pv : Nat → L2.St → Hp → Prop) (hp : Pv 0 σ H0) (hl : ∀ i σ H, i ≤ xs.length → Pv i σ H → SqL K H a xs)
    (hs : ∀ i x σ H, i < xs.length → xs[xs.length - 1 - i]? = some x → Pv i σ H → g x σ H fun σ2 H2 => tb { D with nx := Pv (i + 1), ct := Pv (i + 1), bk := D.nx } σ2 H2) (hd : ∀ σ H, Pv xs.length σ H → D.nx σ H) : tFor (iRev K ta) g tb D σ H := by
  refine hta _ ⟨a, xs, rfl, hl 0 σ H0 (Nat.zero_le _) hp, fun i m σ H => m = xs.length - i ∧ i ≤ xs.length ∧ Pv i σ H, ⟨xs.length, by simp, Nat.zero_le _, hp⟩, ?_⟩
  rintro i m σ H ⟨rfl, hi, p⟩
  have q := hl i σ H hi p
  by_cases hlt : i < xs.length
  · have hx : xs[xs.length - 1 - i]? = some (xs[xs.length - 1 - i]'(by omega)) := List.getElem?_eq_getElem (by omega)
    refine .inr ⟨⟨hlt, xs, _, q, hx⟩, Pv (i + 1), fun σ' H' p' => ⟨xs.length - (i + 1), by omega, rfl, hlt, p'⟩, fun x H' y => ?_⟩
    obtain ⟨e, y⟩ := y
    subst e
    exact hs i x σ _ hlt (y xs q) p
  · have e : i = xs.length := by omega
    subst e
    exact .inl ⟨Nat.le_refl _, hd σ H p⟩
/-- list(xs), sorted(xs), sum(xs) of a tracked list -/
def rListM : List V → Hp → VK → Prop := fun vs H Q => ∃ p, vs = [.ref p] ∧ lstAt H p fun xs => ∀ l, H l = none → Q (.ref l) (upd H l (.lst xs))
def rSortM : List V → Hp → VK → Prop := fun vs H Q => ∃ p, vs = [.ref p] ∧ lstAt H p fun xs => ∃ ns : List Int, xs = ns.map V.int ∧ ∀ (ys : List Int) (q : Addr), ys.Perm ns → ys.Pairwise (· ≤ ·) → H q = none → Q (.ref q) (upd H q (.lst (ys.map V.int)))
section
variable {X : Cx}
theorem call_listM : CallR X (.type "list") rListM := by
  intro pins s σ H xs us Q I r h
  obtain ⟨p, e, h⟩ := h
  obtain ⟨ys, hp, q⟩ := lstAt_get h
  exact call_list_of pins s σ H xs us Q I r ⟨p, ys, e, .inl (.inl (.inl hp)), q⟩
theorem cr_sortM : CallR X (.builtin "sorted") rSortM := by
  intro pins s σ H xs us Q I r h
  obtain ⟨p, e, h⟩ := h
  obtain ⟨ys, hp, ns, e2, q⟩ := lstAt_get h
  subst e2
  exact cr_sortedI pins s σ H xs us Q I r ⟨p, ns, e, .inl (.inl hp), q⟩
end
/-- two ascending lists of the same ints are one -/
theorem sorted_eq : ∀ {xs ys : List Int}, xs.Perm ys → xs.Pairwise (· ≤ ·) → ys.Pairwise (· ≤ ·) → xs = ys
  | [], ys, h, _, _ => h.nil_eq
  | x :: xs, [], h, _, _ => by simpa using h.length_eq
  | x :: xs, y :: ys, h, hx, hy => by
    have e : x = y := by
      have h1 : x ∈ y :: ys := h.mem_iff.mp (List.mem_cons_self ..)
      have h2 : y ∈ x :: xs := h.mem_iff.mpr (List.mem_cons_self ..)
      have p1 := List.pairwise_cons.mp hx
      have p2 := List.pairwise_cons.mp hy
      rcases List.mem_cons.mp h1 with e | h1
      · exact e
      · rcases List.mem_cons.mp h2 with e | h2
        · exact e.symm
        · have a := p1.1 y h2
          have b := p2.1 x h1
          omega
    subst e
    rw [sorted_eq (List.Perm.cons_inv h) (List.pairwise_cons.mp hx).2 (List.pairwise_cons.mp hy).2]
theorem flat_ints (xs : List Int) : (xs.map V.int).all flatV = true := by
  rw [List.all_eq_true]
  intro x hx
  obtain ⟨n, _, rfl⟩ := List.mem_map.mp hx
  rfl
theorem inV_int {x : Int} {xs : List Int} : inV (.int x) (xs.map V.int) = decide (x ∈ xs) := by
  unfold inV
  induction xs with
  | nil => simp
  | cons y ys ih =>
    rw [List.map_cons, List.any_cons, ih]
    show (decide (y = x) || decide (x ∈ ys)) = _
    by_cases h : x = y
    · subst h
      simp
    · have h2 : ¬ y = x := fun e => h e.symm
      simp [h, h2]
def rSumM : List V → Hp → VK → Prop := fun vs H Q => ∃ p, vs = [.ref p] ∧ lstAt H p fun xs => ∃ ns : List Int, xs = ns.map V.int ∧ Q (.int ns.sum) H
theorem call_sumM {X : Cx} (hc : X.calm = true) : CallR X (.builtin "sum") rSumM := by
  intro pins sh σ H xs us Q inv rel ask
  obtain ⟨p, e, ask⟩ := ask
  obtain ⟨ys, hp, ns, e2, q⟩ := lstAt_get ask
  subst e2
  exact cr_sum hc pins sh σ H xs us Q inv rel ⟨p, ns, e, .inl (.inl hp), q⟩
/-- isinstance(x, dict), x a tracked dict -/
def rIsD : List V → Hp → VK → Prop := fun xs H Q => ∃ p, xs = [.ref p, .ty "dict"] ∧ dcAt H p fun _ => Q (.bl true) H
theorem call_isD {X : Cx} : CallR X (.builtin "isinstance") rIsD := by
  intro pins sh σ H xs us Q inv rel ask
  obtain ⟨p, rfl, ask⟩ := ask
  obtain ⟨kvs, hp, q⟩ := dcAt_get ask
  exact call_isi pins sh σ H _ us Q inv rel ⟨.ref p, .ty "dict", .type "dict", .type "dict", true, rfl, .ty "dict", .base (.dK hp), kit_ty rfl, q⟩
theorem lc_keysI {td : TE} {tt : TT} {te : TE} {c : Nat} {σ : L2.St} {H : Hp} {Q : VK} {d : Addr} {od : Obj} (kvs : List (Key × V)) (b : Nat → Bool) (Y : Nat → V → Prop) (htd : ∀ R : V → Hp → Prop, R (.ref d) H → td σ H R) (hd : H d = some (.frz od (.dK kvs))) (hn : kvs.length ≤ 100000)
    (hb : ∀ i k v H' (R : Bool → Hp → Prop), kvs[i]? = some (k, v) → Same H H' → R (b i) H' → tt ((σ.set c none).set c (some (kV k))) H' R) (he : ∀ i k v H' (R : VK), kvs[i]? = some (k, v) → b i = true → Same H H' → (∀ y, Y i y → R y H') → te ((σ.set c none).set c (some (kV k))) H' R)
    (k : ∀ D ys, H D = none → LcR b Y kvs.length ys → Q (.ref D) (upd H D (.lst ys))) : tLc (iKeys td) (gName c) tt te [c] σ H Q := by
  refine htd _ ⟨d, od, rfl, .inl ⟨kvs, hd, fun D hD => ?_⟩⟩
  have sm : ∀ ys, Same H (upd H D (.lst ys)) := fun ys => same_new hD
  refine ⟨fun i m H' => m = kvs.length - i ∧ i ≤ kvs.length ∧ ∃ ys, LcR b Y i ys ∧ H' = upd H D (.lst ys), ⟨_, rfl, Nat.zero_le _, [], .nil, rfl⟩, ?_⟩
  rintro i m H' ⟨rfl, hi, ys, hr, rfl⟩
  have hd' := sm ys _ _ hd
  by_cases hlt : i < kvs.length
  · refine .inr ⟨⟨hd', hlt⟩, fun H2 => ∃ ys, LcR b Y (i + 1) ys ∧ H2 = upd H D (.lst ys), fun H2 h2 => ⟨kvs.length - (i + 1), by omega, rfl, hlt, h2⟩, fun x H2 hy => ?_⟩
    obtain ⟨rfl, key, v, hkv, rfl⟩ := hy
    have szl : (100000 : Nat) < sizeLine := by decide
    have hl := hr.len
    refine ⟨?_, hb i key v _ _ hkv (sm ys) ?_⟩
    · show List.set (List.set (List.set σ c none) c _) c none = List.set σ c none
      rw [List.set_set, List.set_set]
    · by_cases hc : b i = true
      · rw [if_pos hc]
        refine he i key v _ _ hkv hc (sm ys) fun y hy => ⟨ys, upd_same, by omega, ys ++ [y], hr.yes hc hy, by rw [upd_upd]⟩
      · rw [if_neg hc]
        exact ⟨ys, hr.no (by simpa using hc), rfl⟩
  · have e : i = kvs.length := by omega
    subst e
    exact .inl ⟨⟨hd', Nat.le_refl _⟩, k D ys hD hr⟩
theorem lc_rng2I {ta : TA} {tt : TT} {te : TE} {c : Nat} {σ : L2.St} {H : Hp} {Q : VK} (lo hi : Int) (b : Nat → Bool) (Y : Nat → V → Prop) (hta : ∀ R : List V → Hp → Prop, R [.int lo, .int hi] H → ta σ H R) (h1 : -1000000 ≤ lo ∧ lo ≤ 1000000) (h2 : -1000000 ≤ hi ∧ hi ≤ 1000000) (hn : hi - lo ≤ 100000)
    (hb : ∀ (i : Nat) H' (R : Bool → Hp → Prop), lo + (i : Int) < hi → Same H H' → R (b i) H' → tt ((σ.set c none).set c (some (.int (lo + (i : Int))))) H' R) (he : ∀ (i : Nat) H' (R : VK), lo + (i : Int) < hi → b i = true → Same H H' → (∀ y, Y i y → R y H') → te ((σ.set c none).set c (some (.int (lo + (i : Int))))) H' R)
    (k : ∀ D ys, H D = none → LcR b Y (hi - lo).toNat ys → Q (.ref D) (upd H D (.lst ys))) : tLc (iRng2 ta) (gName c) tt te [c] σ H Q := by
  refine hta _ ⟨lo, hi, rfl, ⟨by omega, by omega, by omega, by omega⟩, fun D hD => ?_⟩
  refine lc_range (fun i H' => ∃ ys, LcR b Y i ys ∧ H' = upd H D (.lst ys)) ⟨[], .nil, rfl⟩ ?_ ?_
  · rintro i H' hi2 ⟨ys, hr, rfl⟩
    have sm : Same H (upd H D (.lst ys)) := same_new hD
    have szl : (100000 : Nat) < sizeLine := by decide
    have hl := hr.len
    refine ⟨?_, hb i _ _ (by omega) sm ?_⟩
    · show List.set (List.set (List.set σ c none) c _) c none = List.set σ c none
      rw [List.set_set, List.set_set]
    · by_cases hc : b i = true
      · rw [if_pos hc]
        refine he i _ _ (by omega) hc sm fun y hy => ⟨ys, upd_same, by omega, ys ++ [y], hr.yes hc hy, by rw [upd_upd]⟩
      · rw [if_neg hc]
        exact ⟨ys, hr.no (by simpa using hc), rfl⟩
  · rintro H' ⟨ys, hr, rfl⟩
    exact k D ys hD hr
theorem lc_lstN {K : PySem.W.Frag} {tl : TE} {tt : TT} {te : TE} {c : Nat} {σ : L2.St} {H : Hp} {Q : VK} (xs : List V) (b : Nat → Bool) (Y : Nat → V → Prop) (htl : ∀ R : V → Hp → Prop, (∀ p H0, Same H H0 → SqL K H0 p xs → R (.ref p) H0) → tl σ H R) (hn : xs.length ≤ 100000)
    (hb : ∀ i x H' (R : Bool → Hp → Prop), xs[i]? = some x → Same H H' → R (b i) H' → tt ((σ.set c none).set c (some x)) H' R) (he : ∀ i x H' (R : VK), xs[i]? = some x → b i = true → Same H H' → (∀ y, Y i y → R y H') → te ((σ.set c none).set c (some x)) H' R)
    (k : ∀ H0 D ys, Same H H0 → H0 D = none → LcR b Y xs.length ys → Q (.ref D) (upd H0 D (.lst ys))) : tLc (iList K tl) (gName c) tt te [c] σ H Q :=
  htl _ fun p H0 sm0 hq => lc_lstI (K := K) (tl := fun _ H Q => Q (.ref p) H) (a := p) xs b Y (fun R h => h) hq hn (fun i x H' R hx sm h => hb i x H' R hx (fun b u e => sm _ _ (sm0 _ _ e)) h) (fun i x H' R hx ht sm h => he i x H' R hx ht (fun b u e => sm _ _ (sm0 _ _ e)) h) (fun D ys hD hy => k H0 D ys sm0 hD hy)
theorem range_all {α : Type} (g : α → V) (bs : List α) : (List.range bs.length).map (fun i => (bs[i]?.map g).getD .non) = bs.map g := by
  apply List.ext_getElem
  · simp
  · intro i h1 h2
    simp at h1
    simp [h1]

/-! ### a dict copied by a comprehension over its items -/
theorem valV_take {kvs : List (Key × V)} (nd : (kvs.map (·.1)).Nodup) {i : Nat} {k : Key} {v : V} (h : kvs[i]? = some (k, v)) : valV (kvs.take i) k = none := by
  unfold valV
  rw [Option.map_eq_none_iff, List.find?_eq_none]
  intro p hp
  rw [decide_eq_true_eq]
  intro e
  obtain ⟨j, hj⟩ := List.mem_iff_getElem?.mp hp
  have jl := (List.getElem?_eq_some_iff.mp hj).1
  rw [List.length_take] at jl
  rw [List.getElem?_take, if_pos (by omega)] at hj
  have a1 : (kvs.map (·.1))[j]? = some k := by rw [List.getElem?_map, hj, ← e]; rfl
  have a2 : (kvs.map (·.1))[i]? = some k := by rw [List.getElem?_map, h]; rfl
  obtain ⟨l1, g1⟩ := List.getElem?_eq_some_iff.mp a1
  obtain ⟨l2, g2⟩ := List.getElem?_eq_some_iff.mp a2
  have := (List.getElem_inj nd).mp (g1.trans g2.symm)
  omega
theorem dc_items {K : PySem.W.Frag} {td : TE} {c1 c2 : Nat} {σ : L2.St} {H : Hp} {Q : VK} {d : Addr} (kvs : List (Key × V)) (htd : ∀ od (R : V → Hp → Prop), R (.ref d) (upd H d (.frz od (.dK kvs))) → td σ (upd H d (.frz od (.dK kvs))) R)
    (hd : H d = some (.dK kvs)) (nd : (kvs.map (·.1)).Nodup) (hn : kvs.length ≤ 100000) (h1 : c1 < σ.length) (h2 : c2 < σ.length) (ne : c1 ≠ c2)
    (k : ∀ D H', Same H H' → H D = none → H' D = some (.dK kvs) → Q (.ref D) H') :
    tLockE (tDc (iItems td) (gTup K 2 (gCons (gName c1) (gCons (gName c2) gNil))) tYes (tVar c1) (tVar c2) [c1, c2]) σ H Q := by
  refine ⟨d, .dK kvs, hd, trivial, fun od => ?_⟩
  refine htd od _ ⟨d, od, kvs, rfl, upd_same, fun D hD => ?_⟩
  have dD : D ≠ d := fun e => by
    rw [e, upd_same] at hD
    cases hD
  have hD0 : H D = none := by
    rw [upd_ne dD] at hD
    exact hD
  have szl : (100000 : Nat) < sizeLine := by decide
  refine ⟨fun i m H' => m = kvs.length - i ∧ i ≤ kvs.length ∧ H' d = some (.frz od (.dK kvs)) ∧ H' D = some (.dK (kvs.take i)) ∧ ∀ b u, H b = some u → b ≠ d → H' b = some u, ⟨_, rfl, Nat.zero_le _, by rw [upd_ne (Ne.symm dD), upd_same], by rw [upd_same]; rfl, fun b u hb hbd => ?_⟩, ?_⟩
  · have : b ≠ D := fun e => by
      rw [e, hD0] at hb
      cases hb
    rw [upd_ne this, upd_ne hbd]
    exact hb
  rintro i m H' ⟨rfl, hi, e1, e2, sm⟩
  by_cases hlt : i < kvs.length
  · refine .inr ⟨⟨e1, hlt⟩, fun H2 => H2 d = some (.frz od (.dK kvs)) ∧ H2 D = some (.dK (kvs.take (i + 1))) ∧ ∀ b u, H b = some u → b ≠ d → H2 b = some u, fun H2 h => ⟨kvs.length - (i + 1), by omega, rfl, hlt, h⟩, fun x H2 hy => ?_⟩
    obtain ⟨T, key, v, hkv, rfl, hT, rfl⟩ := hy
    have nT : ∀ b u, H' b = some u → b ≠ T := fun b u hb e => by
      rw [e, hT] at hb
      cases hb
    have w1 : c1 < (wipe σ [c1, c2]).length := by rw [wipe_length]; exact h1
    have w2 : c2 < (wipe σ [c1, c2]).length := by rw [wipe_length]; exact h2
    refine ⟨T, [kV key, v], rfl, .inl (.inl upd_same), rfl, _, _, rfl, ?_⟩
    refine ⟨_, _, rfl, rfl, ?_, ?_⟩
    · show (((((σ.set c2 none).set c1 none).set c1 (some (kV key))).set c2 (some v)).set c2 none).set c1 none = (σ.set c2 none).set c1 none
      apply List.ext_getElem?
      intro j
      simp only [List.getElem?_set, List.length_set]
      repeat' split
      all_goals first | rfl | simp_all
    · simp only [tYes, if_true]
      refine ⟨kV key, ?_, v, ?_, kvs.take i, key, rfl, ?_, ?_, ?_, ?_, ?_⟩
      · rw [List.getElem?_set_ne (Ne.symm ne), List.getElem?_set_self w1]
      · rw [List.getElem?_set_self (by rw [List.length_set]; exact w2)]
      · rw [upd_ne (nT _ _ e2)]
        exact e2
      · have := List.length_take_le i kvs
        rw [List.length_take]
        omega
      · rw [upd_ne (Ne.symm dD), upd_ne (nT _ _ e1)]
        exact e1
      · rw [upd_same, putK_new _ (valV_take nd hkv), List.take_add_one, hkv]
        rfl
      · intro b u hb hbd
        have : b ≠ D := fun e => by
          rw [e, hD0] at hb
          cases hb
        rw [upd_ne this, upd_ne (nT _ _ (sm b u hb hbd))]
        exact sm b u hb hbd
  · have e : i = kvs.length := by omega
    subst e
    refine .inl ⟨⟨e1, Nat.le_refl _⟩, e1, k D _ (fun b u hb => ?_) hD0 ?_⟩
    · by_cases c : b = d
      · subst c
        rw [upd_same, ← hd, hb]
      · rw [upd_ne c]
        exact sm b u hb c
    · rw [upd_ne dD, e2, List.take_length]

/-! ### name = {..} by a dict comprehension -/
section
variable {X : Cx}
theorem sw_trueD {kx vx : Expr} {gs : List Comprehension} {scope : Scope} {pos py : Pos} {y : Str} {l : Nat} {env : Env} (hk : env.scope.kind = .function) (hy : env.scope.names.lookup y = some .local) (hl : (py.line == pos.line) = true)
    (ha : (scope.names.any fun (n, k) => n == y && (k == .local || k == .cell)) = false) : swapsWith (.DictComp kx vx gs scope pos) (some (.Name y py)) l env = pure true := by
  have ky : env.kindOf y = some .local := hy
  have hb : env.blockKind = .function := by unfold Env.blockKind; rw [hk]; rfl
  unfold swapsWith
  simp only [hb, ky, ha, Expr.pos, hl]
  rfl
theorem ps_setDc {i : Nat} {y : Str} {py : Pos} {kx vx tg iter : Expr} {ifs : List Expr} {scope : Scope} {own : List (Str × Nat)} {pos spos : Pos} {wi : TI} {g : TG} {tt : TT} {tk tv : TE} (hc : X.calm = true) (hN : X.N.Nodup) (hy : X.N[i]? = some y) (hyl : X.env.scope.names.lookup y = some .local)
    (hsw : swapsWith (.DictComp kx vx [⟨tg, iter, ifs, 0⟩] scope pos) (some (.Name y py)) spos.line X.env = pure true) (hi : PI X tg iter wi) (ok : BlkOk X.N X.env.scope scope own)
    (hg : ∀ (s : Shared) (H : Hp) (C : Addr) (cl : List (Str × Addr)) (fp : List Addr), PG (X.blk s H scope (compEnvC scope cl C X.env) fp) tg g) (ht : ∀ (s : Shared) (H : Hp) (C : Addr) (cl : List (Str × Addr)) (fp : List Addr), PTs (X.blk s H scope (compEnvC scope cl C X.env) fp) ifs tt)
    (hk : ∀ (s : Shared) (H : Hp) (C : Addr) (cl : List (Str × Addr)) (fp : List Addr), PE (X.blk s H scope (compEnvC scope cl C X.env) fp) kx tk)
    (he : ∀ (s : Shared) (H : Hp) (C : Addr) (cl : List (Str × Addr)) (fp : List Addr), PE (X.blk s H scope (compEnvC scope cl C X.env) fp) vx tv) (hs : ∀ x, foldedSetIterable iter X.env x = pure x := by intro _; rfl) :
    PS X (.Assign [.Name y py] (.DictComp kx vx [⟨tg, iter, ifs, 0⟩] scope pos) spos) (tAsg (tDc wi g tt tk tv (own.map (·.2))) (gName i)) := by
  refine ⟨fun pins s σ H D I h => ?_⟩
  rw [exec_Assign_Name_used _ _ _ _ hsw]
  refine wpAny_bind (wpAny_standAt (wpAny_bind ?_))
  show wpAny _ X.A (do let _ ← comprehension (.DictComp kx vx [⟨tg, iter, ifs, 0⟩] scope pos) scope X.env (firstIterPos [⟨tg, iter, ifs, 0⟩] pos) newDict false (eval iter X.env) (some (assign (.Name y py) X.env))) _ _ s
  have h : tDc wi g tt tk tv (own.map (·.2)) σ H (fun x H1 => gName i x σ H1 D.nx) := h
  refine wpAny_bind (thn (dc_core (Qf := fun _ s' => SP X pins D .next s') hc hN I hi ok hg ht hk he hs h fun L C s' m H' I' q hn f => ?_) fun _ s' hq => wpAny_pure (wpAny_pure hq))
  show wpAny _ _ (assign (.Name y py) X.env (.ref L)) _ _ _
  refine wpAny_assign_Name (store_ok2 (v := V.ref L) I' hN hy (.inl hyl) rfl (fun s2 I2 ⟨a, sb, ha⟩ => ?_) (.inr hyl))
  obtain ⟨f0, f1, f2, f3, f4, f5⟩ := f
  have haC : C ≠ a := by
    rcases ha with z | z
    · rw [z]; exact f1
    · exact fun e => f4 y a z e.symm
  refine ⟨m, hn.sameBut sb haC, fun h3 sb3 => ?_⟩
  exact ⟨_, H', I2.turned (t' := s2.toks) (fun b o hb e => (sb3.2 b hb).trans e) f0 f1 f3 f4 f5, q⟩
end
/-- the whole statement, the dict that is walked being locked -/
theorem t_lock_set {te : TE} {i : Nat} {D : Ends} {σ : L2.St} {H : Hp} (h : tLockE te σ H fun x H1 => D.nx (σ.set i (some x)) H1) : tLock (tAsg te (gName i)) D σ H := h
/-- a loop over a list that is made for it, of which something is known -/
theorem for_lstP {K : PySem.W.Frag} {tl : TE} {g : TG} {tb : TS} {D : Ends} {σ : L2.St} {H : Hp} (P : List V → Prop) (htl : ∀ R : V → Hp → Prop, (∀ p xs, P xs → H p = none → R (.ref p) (upd H p (.lst xs))) → tl σ H R) (Pv : Addr → List V → Nat → L2.St → Hp → Prop)
    (hp : ∀ p xs, P xs → H p = none → Pv p xs 0 σ (upd H p (.lst xs))) (hl : ∀ p xs i σ' H', H p = none → Pv p xs i σ' H' → H' p = some (.lst xs))
    (hs : ∀ p xs i x σ' H', P xs → H p = none → xs[i]? = some x → Pv p xs i σ' H' → g x σ' H' fun σ2 H2 => tb { D with nx := Pv p xs (i + 1), ct := Pv p xs (i + 1), bk := D.nx } σ2 H2) (hd : ∀ p xs σ' H', P xs → H p = none → Pv p xs xs.length σ' H' → D.nx σ' H') : tFor (iList K tl) g tb D σ H :=
  htl _ fun p xs hx h0 => ⟨p, rfl, ⟨xs, .inl (.inl upd_same)⟩, L2.for_list (K := K) (a := p) (xs := xs) (Pv p xs) (hp p xs hx h0) (fun i σ' H' _ h => .inl (.inl (hl p xs i σ' H' h0 h))) (fun i x σ' H' hx2 h => hs p xs i x σ' H' hx h0 hx2 h) (fun σ' H' h => hd p xs σ' H' hx h0 h)⟩
/-- a dict that is walked, or handed on, is locked from then on, if it is not yet -/
def tFrz (td : TE) : TE := fun σ H Q => td σ H fun x H1 => ∃ d, x = .ref d ∧ ((∃ u, H1 d = some u ∧ Mut (some u) ∧ ∀ od, Q x (upd H1 d (.frz od u))) ∨ Q x H1)
theorem pe_frz {X : Cx} {e : Expr} {td : TE} (h : PE X e td) : PE X e (tFrz td) := by
  refine ⟨fun pins s σ H Q I hw => ?_⟩
  refine thn (h.run pins s σ H _ I hw) fun v s1 ⟨x, H1, I1, r, d, ex, hh⟩ => ?_
  rcases hh with ⟨u, hd, mu, q⟩ | q
  · obtain ⟨od, I2⟩ := I1.lock hd mu
    exact ⟨x, _, I2, r, q od⟩
  · exact ⟨x, _, I1, r, q⟩
/-- for k in d: d a dict with int keys, which stays locked -/
theorem for_keysF {td : TE} {c : Nat} {tb : TS} {D : Ends} {σ : L2.St} {H : Hp} {d : Addr} {od : Obj} (kvs : List (Key × V)) (hd : H d = some (.frz od (.dK kvs))) (htd : ∀ (R : V → Hp → Prop), R (.ref d) H → td σ H R) (Pv : Nat → L2.St → Hp → Prop)
    (hp : Pv 0 σ H) (hl : ∀ i σ' H', Pv i σ' H' → H' d = some (.frz od (.dK kvs)))
    (hs : ∀ i k v σ' H', kvs[i]? = some (k, v) → Pv i σ' H' → tb { D with nx := Pv (i + 1), ct := Pv (i + 1), bk := D.nx } (σ'.set c (some (kV k))) H')
    (hx : ∀ σ' H', Pv kvs.length σ' H' → D.nx σ' H') : tFor (iKeys td) (gName c) tb D σ H := by
  refine htd _ ⟨d, od, rfl, .inl ⟨kvs, hd, ?_⟩⟩
  refine ⟨fun i m σ' H' => m = kvs.length - i ∧ i ≤ kvs.length ∧ Pv i σ' H', ⟨_, rfl, Nat.zero_le _, hp⟩, ?_⟩
  rintro i m σ' H' ⟨rfl, hi, p⟩
  have hd' := hl i σ' H' p
  by_cases hlt : i < kvs.length
  · refine .inr ⟨⟨hd', hlt⟩, Pv (i + 1), fun σ2 H2 q => ⟨kvs.length - (i + 1), by omega, rfl, hlt, q⟩, fun x H2 hy => ?_⟩
    obtain ⟨rfl, key, v, hkv, rfl⟩ := hy
    exact hs i key v σ' _ hkv p
  · have e : i = kvs.length := by omega
    subst e
    exact .inl ⟨⟨hd', Nat.le_refl _⟩, hx σ' H' p⟩

structure Ad where
  C_SaggarError : Addr
  C_NoRoom : Addr
  C_NoNumber : Addr
  C_Store : Addr
  C_Space : Addr
  f__wall : Addr
  d__wall : FuncData
  f_NoRoom___init__ : Addr
  d_NoRoom___init__ : FuncData
  f_NoNumber___init__ : Addr
  d_NoNumber___init__ : FuncData
  f_is_ref : Addr
  d_is_ref : FuncData
  f_Store___init__ : Addr
  d_Store___init__ : FuncData
  f_Store_used : Addr
  d_Store_used : FuncData
  f_Store_exists : Addr
  d_Store_exists : FuncData
  f_Store_numbers : Addr
  d_Store_numbers : FuncData
  f_Store_free_number : Addr
  d_Store_free_number : FuncData
  f_Store_allocate : Addr
  d_Store_allocate : FuncData
  f_Store_size : Addr
  d_Store_size : FuncData
  f_Store_kind : Addr
  d_Store_kind : FuncData
  f_Store_set_kind : Addr
  d_Store_set_kind : FuncData
  f_Store_get : Addr
  d_Store_get : FuncData
  f_Store_put : Addr
  d_Store_put : FuncData
  f_Store_slots : Addr
  d_Store_slots : FuncData
  f_Store_drop : Addr
  d_Store_drop : FuncData
  f_Store_close_up : Addr
  d_Store_close_up : FuncData
  f_Store_snapshot : Addr
  d_Store_snapshot : FuncData
  f_Store_restore : Addr
  d_Store_restore : FuncData
  f_Store_exchange : Addr
  d_Store_exchange : FuncData
  f_reached : Addr
  d_reached : FuncData
  f_collect : Addr
  d_collect : FuncData
  f_target : Addr
  d_target : FuncData
  f_row_of : Addr
  d_row_of : FuncData
  f_word_at : Addr
  d_word_at : FuncData
  f_paths : Addr
  d_paths : FuncData
  f_garbage : Addr
  d_garbage : FuncData
  f_Space___init__ : Addr
  d_Space___init__ : FuncData
  f_Space_root : Addr
  d_Space_root : FuncData
  f_Space_set_root : Addr
  d_Space_set_root : FuncData
  f_Space_hold : Addr
  d_Space_hold : FuncData
  f_Space_drop : Addr
  d_Space_drop : FuncData
  f_Space_held : Addr
  d_Space_held : FuncData
  f_Space_all_roots : Addr
  d_Space_all_roots : FuncData
  f_Space_collect : Addr
  d_Space_collect : FuncData
  f_Space_live_words : Addr
  d_Space_live_words : FuncData
  f_Space_new : Addr
  d_Space_new : FuncData
  f_Space_begin : Addr
  d_Space_begin : FuncData
  f_Space_commit : Addr
  d_Space_commit : FuncData
  f_Space_abort : Addr
  d_Space_abort : FuncData
  f_Space__collect_beside : Addr
  d_Space__collect_beside : FuncData
  f__law_number : Addr
  d__law_number : FuncData
  f__law_word : Addr
  d__law_word : FuncData
  f__law_is : Addr
  d__law_is : FuncData
  f__law_same : Addr
  d__law_same : FuncData
  f__law_sizes : Addr
  d__law_sizes : FuncData
  f__law_rows : Addr
  d__law_rows : FuncData
  f__law_roots : Addr
  d__law_roots : FuncData
  f__law_space : Addr
  d__law_space : FuncData
  f__law_walk : Addr
  d__law_walk : FuncData
  f__law_extended : Addr
  d__law_extended : FuncData
  f__law_best : Addr
  d__law_best : FuncData
  f__law_path_is : Addr
  d__law_path_is : FuncData
  f__law_told : Addr
  d__law_told : FuncData
  f__law_drawn : Addr
  d__law_drawn : FuncData
  f__law_kept : Addr
  d__law_kept : FuncData
  f_law : Addr
  d_law : FuncData
  t_NIL : Tok
  t_HEADER : Tok
  t_ROOTS : Tok
structure Txt (K : PySem.W.Frag) (mg : Str → Option Value) (A : Ad) : Prop where
  m_SaggarError : mg "SaggarError" = some (.ref A.C_SaggarError)
  m_NoRoom : mg "NoRoom" = some (.ref A.C_NoRoom)
  x_NoRoom : ExF K A.C_NoRoom A.f_NoRoom___init__
  no_NoRoom_need : PySem.W.findIn K (.ref A.C_NoRoom) "need" = some none
  ex_NoRoom_NoNumber : PySem.W.exmOne K (.ref A.C_NoRoom) (.ref A.C_NoNumber) = some false
  ex_NoRoom_NoRoom : PySem.W.exmOne K (.ref A.C_NoRoom) (.ref A.C_NoRoom) = some true
  m_NoNumber : mg "NoNumber" = some (.ref A.C_NoNumber)
  x_NoNumber : ExF K A.C_NoNumber A.f_NoNumber___init__
  no_NoNumber_limit : PySem.W.findIn K (.ref A.C_NoNumber) "limit" = some none
  ex_NoNumber_NoNumber : PySem.W.exmOne K (.ref A.C_NoNumber) (.ref A.C_NoNumber) = some true
  ex_NoNumber_NoRoom : PySem.W.exmOne K (.ref A.C_NoNumber) (.ref A.C_NoRoom) = some false
  m_Store : mg "Store" = some (.ref A.C_Store)
  cl_Store : Cls K A.C_Store
  mk_Store : Mk K A.C_Store A.f_Store___init__
  no_Store_room : NoAttr K A.C_Store "room"
  no_Store_entries : NoAttr K A.C_Store "entries"
  no_Store_words : NoAttr K A.C_Store "words"
  no_Store__places : NoAttr K A.C_Store "_places"
  no_Store__free : NoAttr K A.C_Store "_free"
  no_Store__fresh : NoAttr K A.C_Store "_fresh"
  m_Space : mg "Space" = some (.ref A.C_Space)
  cl_Space : Cls K A.C_Space
  mk_Space : Mk K A.C_Space A.f_Space___init__
  no_Space_store : NoAttr K A.C_Space "store"
  no_Space_always : NoAttr K A.C_Space "always"
  no_Space_pressure : NoAttr K A.C_Space "pressure"
  no_Space_allocations : NoAttr K A.C_Space "allocations"
  no_Space_collections : NoAttr K A.C_Space "collections"
  no_Space__roots : NoAttr K A.C_Space "_roots"
  no_Space__held : NoAttr K A.C_Space "_held"
  no_Space__moments : NoAttr K A.C_Space "_moments"
  no_Space__work : NoAttr K A.C_Space "_work"
  g__wall : mg "_wall" = some (.ref A.f__wall)
  k__wall : PySem.W.keepIn K (.ref A.f__wall) = true
  F__wall : Fun K "_wall" "_wall" s__wall A.f__wall A.d__wall
  b__wall : Binds K A.d__wall ["k"] []
  k_NoRoom___init__ : PySem.W.keepIn K (.ref A.f_NoRoom___init__) = true
  F_NoRoom___init__ : Fun K "__init__" "NoRoom.__init__" s_NoRoom___init__ A.f_NoRoom___init__ A.d_NoRoom___init__
  b_NoRoom___init__ : Binds K A.d_NoRoom___init__ ["self", "need"] []
  k_NoNumber___init__ : PySem.W.keepIn K (.ref A.f_NoNumber___init__) = true
  F_NoNumber___init__ : Fun K "__init__" "NoNumber.__init__" s_NoNumber___init__ A.f_NoNumber___init__ A.d_NoNumber___init__
  b_NoNumber___init__ : Binds K A.d_NoNumber___init__ ["self", "limit"] []
  g_is_ref : mg "is_ref" = some (.ref A.f_is_ref)
  k_is_ref : PySem.W.keepIn K (.ref A.f_is_ref) = true
  F_is_ref : Fun K "is_ref" "is_ref" s_is_ref A.f_is_ref A.d_is_ref
  b_is_ref : Binds K A.d_is_ref ["word"] []
  k_Store___init__ : PySem.W.keepIn K (.ref A.f_Store___init__) = true
  F_Store___init__ : Fun K "__init__" "Store.__init__" s_Store___init__ A.f_Store___init__ A.d_Store___init__
  b_Store___init__ : Binds K A.d_Store___init__ ["self", "room", "entries"] []
  me_Store_used : Meth K A.C_Store "used" A.f_Store_used
  k_Store_used : PySem.W.keepIn K (.ref A.f_Store_used) = true
  F_Store_used : Fun K "used" "Store.used" s_Store_used A.f_Store_used A.d_Store_used
  b_Store_used : Binds K A.d_Store_used ["self"] []
  me_Store_exists : Meth K A.C_Store "exists" A.f_Store_exists
  k_Store_exists : PySem.W.keepIn K (.ref A.f_Store_exists) = true
  F_Store_exists : Fun K "exists" "Store.exists" s_Store_exists A.f_Store_exists A.d_Store_exists
  b_Store_exists : Binds K A.d_Store_exists ["self", "number"] []
  me_Store_numbers : Meth K A.C_Store "numbers" A.f_Store_numbers
  k_Store_numbers : PySem.W.keepIn K (.ref A.f_Store_numbers) = true
  F_Store_numbers : Fun K "numbers" "Store.numbers" s_Store_numbers A.f_Store_numbers A.d_Store_numbers
  b_Store_numbers : Binds K A.d_Store_numbers ["self"] []
  me_Store_free_number : Meth K A.C_Store "free_number" A.f_Store_free_number
  k_Store_free_number : PySem.W.keepIn K (.ref A.f_Store_free_number) = true
  F_Store_free_number : Fun K "free_number" "Store.free_number" s_Store_free_number A.f_Store_free_number A.d_Store_free_number
  b_Store_free_number : Binds K A.d_Store_free_number ["self"] []
  me_Store_allocate : Meth K A.C_Store "allocate" A.f_Store_allocate
  k_Store_allocate : PySem.W.keepIn K (.ref A.f_Store_allocate) = true
  F_Store_allocate : Fun K "allocate" "Store.allocate" s_Store_allocate A.f_Store_allocate A.d_Store_allocate
  b_Store_allocate : Binds K A.d_Store_allocate ["self", "kind", "size"] []
  me_Store_size : Meth K A.C_Store "size" A.f_Store_size
  k_Store_size : PySem.W.keepIn K (.ref A.f_Store_size) = true
  F_Store_size : Fun K "size" "Store.size" s_Store_size A.f_Store_size A.d_Store_size
  b_Store_size : Binds K A.d_Store_size ["self", "number"] []
  me_Store_kind : Meth K A.C_Store "kind" A.f_Store_kind
  k_Store_kind : PySem.W.keepIn K (.ref A.f_Store_kind) = true
  F_Store_kind : Fun K "kind" "Store.kind" s_Store_kind A.f_Store_kind A.d_Store_kind
  b_Store_kind : Binds K A.d_Store_kind ["self", "number"] []
  me_Store_set_kind : Meth K A.C_Store "set_kind" A.f_Store_set_kind
  k_Store_set_kind : PySem.W.keepIn K (.ref A.f_Store_set_kind) = true
  F_Store_set_kind : Fun K "set_kind" "Store.set_kind" s_Store_set_kind A.f_Store_set_kind A.d_Store_set_kind
  b_Store_set_kind : Binds K A.d_Store_set_kind ["self", "number", "word"] []
  me_Store_get : Meth K A.C_Store "get" A.f_Store_get
  k_Store_get : PySem.W.keepIn K (.ref A.f_Store_get) = true
  F_Store_get : Fun K "get" "Store.get" s_Store_get A.f_Store_get A.d_Store_get
  b_Store_get : Binds K A.d_Store_get ["self", "number", "at"] []
  me_Store_put : Meth K A.C_Store "put" A.f_Store_put
  k_Store_put : PySem.W.keepIn K (.ref A.f_Store_put) = true
  F_Store_put : Fun K "put" "Store.put" s_Store_put A.f_Store_put A.d_Store_put
  b_Store_put : Binds K A.d_Store_put ["self", "number", "at", "word"] []
  me_Store_slots : Meth K A.C_Store "slots" A.f_Store_slots
  k_Store_slots : PySem.W.keepIn K (.ref A.f_Store_slots) = true
  F_Store_slots : Fun K "slots" "Store.slots" s_Store_slots A.f_Store_slots A.d_Store_slots
  b_Store_slots : Binds K A.d_Store_slots ["self", "number"] []
  me_Store_drop : Meth K A.C_Store "drop" A.f_Store_drop
  k_Store_drop : PySem.W.keepIn K (.ref A.f_Store_drop) = true
  F_Store_drop : Fun K "drop" "Store.drop" s_Store_drop A.f_Store_drop A.d_Store_drop
  b_Store_drop : Binds K A.d_Store_drop ["self", "number"] []
  me_Store_close_up : Meth K A.C_Store "close_up" A.f_Store_close_up
  k_Store_close_up : PySem.W.keepIn K (.ref A.f_Store_close_up) = true
  F_Store_close_up : Fun K "close_up" "Store.close_up" s_Store_close_up A.f_Store_close_up A.d_Store_close_up
  b_Store_close_up : Binds K A.d_Store_close_up ["self"] []
  me_Store_snapshot : Meth K A.C_Store "snapshot" A.f_Store_snapshot
  k_Store_snapshot : PySem.W.keepIn K (.ref A.f_Store_snapshot) = true
  F_Store_snapshot : Fun K "snapshot" "Store.snapshot" s_Store_snapshot A.f_Store_snapshot A.d_Store_snapshot
  b_Store_snapshot : Binds K A.d_Store_snapshot ["self"] []
  me_Store_restore : Meth K A.C_Store "restore" A.f_Store_restore
  k_Store_restore : PySem.W.keepIn K (.ref A.f_Store_restore) = true
  F_Store_restore : Fun K "restore" "Store.restore" s_Store_restore A.f_Store_restore A.d_Store_restore
  b_Store_restore : Binds K A.d_Store_restore ["self", "snapshot"] []
  me_Store_exchange : Meth K A.C_Store "exchange" A.f_Store_exchange
  k_Store_exchange : PySem.W.keepIn K (.ref A.f_Store_exchange) = true
  F_Store_exchange : Fun K "exchange" "Store.exchange" s_Store_exchange A.f_Store_exchange A.d_Store_exchange
  b_Store_exchange : Binds K A.d_Store_exchange ["self", "first", "second"] []
  g_reached : mg "reached" = some (.ref A.f_reached)
  k_reached : PySem.W.keepIn K (.ref A.f_reached) = true
  F_reached : Fun K "reached" "reached" s_reached A.f_reached A.d_reached
  b_reached : Binds K A.d_reached ["store", "roots"] []
  g_collect : mg "collect" = some (.ref A.f_collect)
  k_collect : PySem.W.keepIn K (.ref A.f_collect) = true
  F_collect : Fun K "collect" "collect" s_collect A.f_collect A.d_collect
  b_collect : Binds K A.d_collect ["store", "roots"] []
  g_target : mg "target" = some (.ref A.f_target)
  k_target : PySem.W.keepIn K (.ref A.f_target) = true
  F_target : Fun K "target" "target" s_target A.f_target A.d_target
  b_target : Binds K A.d_target ["store", "word"] []
  g_row_of : mg "row_of" = some (.ref A.f_row_of)
  k_row_of : PySem.W.keepIn K (.ref A.f_row_of) = true
  F_row_of : Fun K "row_of" "row_of" s_row_of A.f_row_of A.d_row_of
  b_row_of : Binds K A.d_row_of ["store", "number"] []
  g_word_at : mg "word_at" = some (.ref A.f_word_at)
  k_word_at : PySem.W.keepIn K (.ref A.f_word_at) = true
  F_word_at : Fun K "word_at" "word_at" s_word_at A.f_word_at A.d_word_at
  b_word_at : Binds K A.d_word_at ["space", "path"] []
  g_paths : mg "paths" = some (.ref A.f_paths)
  k_paths : PySem.W.keepIn K (.ref A.f_paths) = true
  F_paths : Fun K "paths" "paths" s_paths A.f_paths A.d_paths
  b_paths : Binds K A.d_paths ["space"] []
  g_garbage : mg "garbage" = some (.ref A.f_garbage)
  k_garbage : PySem.W.keepIn K (.ref A.f_garbage) = true
  F_garbage : Fun K "garbage" "garbage" s_garbage A.f_garbage A.d_garbage
  b_garbage : Binds K A.d_garbage ["space"] []
  k_Space___init__ : PySem.W.keepIn K (.ref A.f_Space___init__) = true
  F_Space___init__ : Fun K "__init__" "Space.__init__" s_Space___init__ A.f_Space___init__ A.d_Space___init__
  b_Space___init__ : Binds K A.d_Space___init__ ["self", "room", "entries"] []
  me_Space_root : Meth K A.C_Space "root" A.f_Space_root
  k_Space_root : PySem.W.keepIn K (.ref A.f_Space_root) = true
  F_Space_root : Fun K "root" "Space.root" s_Space_root A.f_Space_root A.d_Space_root
  b_Space_root : Binds K A.d_Space_root ["self", "k"] []
  me_Space_set_root : Meth K A.C_Space "set_root" A.f_Space_set_root
  k_Space_set_root : PySem.W.keepIn K (.ref A.f_Space_set_root) = true
  F_Space_set_root : Fun K "set_root" "Space.set_root" s_Space_set_root A.f_Space_set_root A.d_Space_set_root
  b_Space_set_root : Binds K A.d_Space_set_root ["self", "k", "word"] []
  me_Space_hold : Meth K A.C_Space "hold" A.f_Space_hold
  k_Space_hold : PySem.W.keepIn K (.ref A.f_Space_hold) = true
  F_Space_hold : Fun K "hold" "Space.hold" s_Space_hold A.f_Space_hold A.d_Space_hold
  b_Space_hold : Binds K A.d_Space_hold ["self", "word"] []
  me_Space_drop : Meth K A.C_Space "drop" A.f_Space_drop
  k_Space_drop : PySem.W.keepIn K (.ref A.f_Space_drop) = true
  F_Space_drop : Fun K "drop" "Space.drop" s_Space_drop A.f_Space_drop A.d_Space_drop
  b_Space_drop : Binds K A.d_Space_drop ["self", "count"] []
  me_Space_held : Meth K A.C_Space "held" A.f_Space_held
  k_Space_held : PySem.W.keepIn K (.ref A.f_Space_held) = true
  F_Space_held : Fun K "held" "Space.held" s_Space_held A.f_Space_held A.d_Space_held
  b_Space_held : Binds K A.d_Space_held ["self"] []
  me_Space_all_roots : Meth K A.C_Space "all_roots" A.f_Space_all_roots
  k_Space_all_roots : PySem.W.keepIn K (.ref A.f_Space_all_roots) = true
  F_Space_all_roots : Fun K "all_roots" "Space.all_roots" s_Space_all_roots A.f_Space_all_roots A.d_Space_all_roots
  b_Space_all_roots : Binds K A.d_Space_all_roots ["self"] []
  me_Space_collect : Meth K A.C_Space "collect" A.f_Space_collect
  k_Space_collect : PySem.W.keepIn K (.ref A.f_Space_collect) = true
  F_Space_collect : Fun K "collect" "Space.collect" s_Space_collect A.f_Space_collect A.d_Space_collect
  b_Space_collect : Binds K A.d_Space_collect ["self"] []
  me_Space_live_words : Meth K A.C_Space "live_words" A.f_Space_live_words
  k_Space_live_words : PySem.W.keepIn K (.ref A.f_Space_live_words) = true
  F_Space_live_words : Fun K "live_words" "Space.live_words" s_Space_live_words A.f_Space_live_words A.d_Space_live_words
  b_Space_live_words : Binds K A.d_Space_live_words ["self"] []
  me_Space_new : Meth K A.C_Space "new" A.f_Space_new
  k_Space_new : PySem.W.keepIn K (.ref A.f_Space_new) = true
  F_Space_new : Fun K "new" "Space.new" s_Space_new A.f_Space_new A.d_Space_new
  b_Space_new : Binds K A.d_Space_new ["self", "kind", "size"] []
  me_Space_begin : Meth K A.C_Space "begin" A.f_Space_begin
  k_Space_begin : PySem.W.keepIn K (.ref A.f_Space_begin) = true
  F_Space_begin : Fun K "begin" "Space.begin" s_Space_begin A.f_Space_begin A.d_Space_begin
  b_Space_begin : Binds K A.d_Space_begin ["self"] []
  me_Space_commit : Meth K A.C_Space "commit" A.f_Space_commit
  k_Space_commit : PySem.W.keepIn K (.ref A.f_Space_commit) = true
  F_Space_commit : Fun K "commit" "Space.commit" s_Space_commit A.f_Space_commit A.d_Space_commit
  b_Space_commit : Binds K A.d_Space_commit ["self"] []
  me_Space_abort : Meth K A.C_Space "abort" A.f_Space_abort
  k_Space_abort : PySem.W.keepIn K (.ref A.f_Space_abort) = true
  F_Space_abort : Fun K "abort" "Space.abort" s_Space_abort A.f_Space_abort A.d_Space_abort
  b_Space_abort : Binds K A.d_Space_abort ["self"] []
  me_Space__collect_beside : Meth K A.C_Space "_collect_beside" A.f_Space__collect_beside
  k_Space__collect_beside : PySem.W.keepIn K (.ref A.f_Space__collect_beside) = true
  F_Space__collect_beside : Fun K "_collect_beside" "Space._collect_beside" s_Space__collect_beside A.f_Space__collect_beside A.d_Space__collect_beside
  b_Space__collect_beside : Binds K A.d_Space__collect_beside ["self", "words"] []
  g__law_number : mg "_law_number" = some (.ref A.f__law_number)
  k__law_number : PySem.W.keepIn K (.ref A.f__law_number) = true
  F__law_number : Fun K "_law_number" "_law_number" s__law_number A.f__law_number A.d__law_number
  b__law_number : Binds K A.d__law_number ["cell", "k"] []
  g__law_word : mg "_law_word" = some (.ref A.f__law_word)
  k__law_word : PySem.W.keepIn K (.ref A.f__law_word) = true
  F__law_word : Fun K "_law_word" "_law_word" s__law_word A.f__law_word A.d__law_word
  b__law_word : Binds K A.d__law_word ["x", "many"] []
  g__law_is : mg "_law_is" = some (.ref A.f__law_is)
  k__law_is : PySem.W.keepIn K (.ref A.f__law_is) = true
  F__law_is : Fun K "_law_is" "_law_is" s__law_is A.f__law_is A.d__law_is
  b__law_is : Binds K A.d__law_is ["actual", "due"] []
  g__law_same : mg "_law_same" = some (.ref A.f__law_same)
  k__law_same : PySem.W.keepIn K (.ref A.f__law_same) = true
  F__law_same : Fun K "_law_same" "_law_same" s__law_same A.f__law_same A.d__law_same
  b__law_same : Binds K A.d__law_same ["actual", "due"] []
  g__law_sizes : mg "_law_sizes" = some (.ref A.f__law_sizes)
  k__law_sizes : PySem.W.keepIn K (.ref A.f__law_sizes) = true
  F__law_sizes : Fun K "_law_sizes" "_law_sizes" s__law_sizes A.f__law_sizes A.d__law_sizes
  b__law_sizes : Binds K A.d__law_sizes ["x"] []
  g__law_rows : mg "_law_rows" = some (.ref A.f__law_rows)
  k__law_rows : PySem.W.keepIn K (.ref A.f__law_rows) = true
  F__law_rows : Fun K "_law_rows" "_law_rows" s__law_rows A.f__law_rows A.d__law_rows
  b__law_rows : Binds K A.d__law_rows ["sizes", "x"] []
  g__law_roots : mg "_law_roots" = some (.ref A.f__law_roots)
  k__law_roots : PySem.W.keepIn K (.ref A.f__law_roots) = true
  F__law_roots : Fun K "_law_roots" "_law_roots" s__law_roots A.f__law_roots A.d__law_roots
  b__law_roots : Binds K A.d__law_roots ["many", "x"] []
  g__law_space : mg "_law_space" = some (.ref A.f__law_space)
  k__law_space : PySem.W.keepIn K (.ref A.f__law_space) = true
  F__law_space : Fun K "_law_space" "_law_space" s__law_space A.f__law_space A.d__law_space
  b__law_space : Binds K A.d__law_space ["rows", "words"] []
  g__law_walk : mg "_law_walk" = some (.ref A.f__law_walk)
  k__law_walk : PySem.W.keepIn K (.ref A.f__law_walk) = true
  F__law_walk : Fun K "_law_walk" "_law_walk" s__law_walk A.f__law_walk A.d__law_walk
  b__law_walk : Binds K A.d__law_walk ["rows", "words", "path"] []
  g__law_extended : mg "_law_extended" = some (.ref A.f__law_extended)
  k__law_extended : PySem.W.keepIn K (.ref A.f__law_extended) = true
  F__law_extended : Fun K "_law_extended" "_law_extended" s__law_extended A.f__law_extended A.d__law_extended
  b__law_extended : Binds K A.d__law_extended ["rows", "found", "paths_here"] []
  g__law_best : mg "_law_best" = some (.ref A.f__law_best)
  k__law_best : PySem.W.keepIn K (.ref A.f__law_best) = true
  F__law_best : Fun K "_law_best" "_law_best" s__law_best A.f__law_best A.d__law_best
  b__law_best : Binds K A.d__law_best ["rows", "words"] []
  g__law_path_is : mg "_law_path_is" = some (.ref A.f__law_path_is)
  k__law_path_is : PySem.W.keepIn K (.ref A.f__law_path_is) = true
  F__law_path_is : Fun K "_law_path_is" "_law_path_is" s__law_path_is A.f__law_path_is A.d__law_path_is
  b__law_path_is : Binds K A.d__law_path_is ["told", "due"] []
  g__law_told : mg "_law_told" = some (.ref A.f__law_told)
  k__law_told : PySem.W.keepIn K (.ref A.f__law_told) = true
  F__law_told : Fun K "_law_told" "_law_told" s__law_told A.f__law_told A.d__law_told
  b__law_told : Binds K A.d__law_told ["space", "rows", "words", "path"] []
  g__law_drawn : mg "_law_drawn" = some (.ref A.f__law_drawn)
  k__law_drawn : PySem.W.keepIn K (.ref A.f__law_drawn) = true
  F__law_drawn : Fun K "_law_drawn" "_law_drawn" s__law_drawn A.f__law_drawn A.d__law_drawn
  b__law_drawn : Binds K A.d__law_drawn ["x", "rows", "words"] []
  g__law_kept : mg "_law_kept" = some (.ref A.f__law_kept)
  k__law_kept : PySem.W.keepIn K (.ref A.f__law_kept) = true
  F__law_kept : Fun K "_law_kept" "_law_kept" s__law_kept A.f__law_kept A.d__law_kept
  b__law_kept : Binds K A.d__law_kept ["space", "rows", "words"] []
  g_law : mg "law" = some (.ref A.f_law)
  k_law : PySem.W.keepIn K (.ref A.f_law) = true
  F_law : Fun K "law" "law" s_law A.f_law A.d_law
  b_law : Binds K A.d_law ["script"] []
  c_NIL : mg "NIL" = some (.int (0) A.t_NIL)
  c_HEADER : mg "HEADER" = some (.int (3) A.t_HEADER)
  c_ROOTS : mg "ROOTS" = some (.int (16) A.t_ROOTS)
  al_collect_collecting : mg "collect_collecting" = some (.ref A.f_collect)
  z_ValueError : mg "ValueError" = none
  z_bool : mg "bool" = none
  z_dict : mg "dict" = none
  z_enumerate : mg "enumerate" = none
  z_int : mg "int" = none
  z_isinstance : mg "isinstance" = none
  z_len : mg "len" = none
  z_list : mg "list" = none
  z_range : mg "range" = none
  z_sorted : mg "sorted" = none
  z_tuple : mg "tuple" = none
  h_heappop : mg "heappop" = some (.builtin "_heapq.heappop")
  h_heappush : mg "heappush" = some (.builtin "_heapq.heappush")

theorem exf_NoRoom {K : PySem.W.Frag} {mg : Str → Option Value} {A : Ad} (T : Txt K mg A) : (∃ x, ExF K A.C_NoRoom x) = True := tt_true ⟨_, T.x_NoRoom⟩
theorem exf_NoNumber {K : PySem.W.Frag} {mg : Str → Option Value} {A : Ad} (T : Txt K mg A) : (∃ x, ExF K A.C_NoNumber x) = True := tt_true ⟨_, T.x_NoNumber⟩
theorem sne_Store_room_entries : ((Str.ofString "room") = Str.ofString "entries") = False := eq_false (by decide)
theorem sne_Store_room_words : ((Str.ofString "room") = Str.ofString "words") = False := eq_false (by decide)
theorem sne_Store_entries_words : ((Str.ofString "entries") = Str.ofString "words") = False := eq_false (by decide)
theorem sne_Store_room__places : ((Str.ofString "room") = Str.ofString "_places") = False := eq_false (by decide)
theorem sne_Store_entries__places : ((Str.ofString "entries") = Str.ofString "_places") = False := eq_false (by decide)
theorem sne_Store_words__places : ((Str.ofString "words") = Str.ofString "_places") = False := eq_false (by decide)
theorem sne_Store_room__free : ((Str.ofString "room") = Str.ofString "_free") = False := eq_false (by decide)
theorem sne_Store_entries__free : ((Str.ofString "entries") = Str.ofString "_free") = False := eq_false (by decide)
theorem sne_Store_words__free : ((Str.ofString "words") = Str.ofString "_free") = False := eq_false (by decide)
theorem sne_Store__places__free : ((Str.ofString "_places") = Str.ofString "_free") = False := eq_false (by decide)
theorem sne_Store_room__fresh : ((Str.ofString "room") = Str.ofString "_fresh") = False := eq_false (by decide)
theorem sne_Store_entries__fresh : ((Str.ofString "entries") = Str.ofString "_fresh") = False := eq_false (by decide)
theorem sne_Store_words__fresh : ((Str.ofString "words") = Str.ofString "_fresh") = False := eq_false (by decide)
theorem sne_Store__places__fresh : ((Str.ofString "_places") = Str.ofString "_fresh") = False := eq_false (by decide)
theorem sne_Store__free__fresh : ((Str.ofString "_free") = Str.ofString "_fresh") = False := eq_false (by decide)
theorem sne_Space_store_always : ((Str.ofString "store") = Str.ofString "always") = False := eq_false (by decide)
theorem sne_Space_store_pressure : ((Str.ofString "store") = Str.ofString "pressure") = False := eq_false (by decide)
theorem sne_Space_always_pressure : ((Str.ofString "always") = Str.ofString "pressure") = False := eq_false (by decide)
theorem sne_Space_store_allocations : ((Str.ofString "store") = Str.ofString "allocations") = False := eq_false (by decide)
theorem sne_Space_always_allocations : ((Str.ofString "always") = Str.ofString "allocations") = False := eq_false (by decide)
theorem sne_Space_pressure_allocations : ((Str.ofString "pressure") = Str.ofString "allocations") = False := eq_false (by decide)
theorem sne_Space_store_collections : ((Str.ofString "store") = Str.ofString "collections") = False := eq_false (by decide)
theorem sne_Space_always_collections : ((Str.ofString "always") = Str.ofString "collections") = False := eq_false (by decide)
theorem sne_Space_pressure_collections : ((Str.ofString "pressure") = Str.ofString "collections") = False := eq_false (by decide)
theorem sne_Space_allocations_collections : ((Str.ofString "allocations") = Str.ofString "collections") = False := eq_false (by decide)
theorem sne_Space_store__roots : ((Str.ofString "store") = Str.ofString "_roots") = False := eq_false (by decide)
theorem sne_Space_always__roots : ((Str.ofString "always") = Str.ofString "_roots") = False := eq_false (by decide)
theorem sne_Space_pressure__roots : ((Str.ofString "pressure") = Str.ofString "_roots") = False := eq_false (by decide)
theorem sne_Space_allocations__roots : ((Str.ofString "allocations") = Str.ofString "_roots") = False := eq_false (by decide)
theorem sne_Space_collections__roots : ((Str.ofString "collections") = Str.ofString "_roots") = False := eq_false (by decide)
theorem sne_Space_store__held : ((Str.ofString "store") = Str.ofString "_held") = False := eq_false (by decide)
theorem sne_Space_always__held : ((Str.ofString "always") = Str.ofString "_held") = False := eq_false (by decide)
theorem sne_Space_pressure__held : ((Str.ofString "pressure") = Str.ofString "_held") = False := eq_false (by decide)
theorem sne_Space_allocations__held : ((Str.ofString "allocations") = Str.ofString "_held") = False := eq_false (by decide)
theorem sne_Space_collections__held : ((Str.ofString "collections") = Str.ofString "_held") = False := eq_false (by decide)
theorem sne_Space__roots__held : ((Str.ofString "_roots") = Str.ofString "_held") = False := eq_false (by decide)
theorem sne_Space_store__moments : ((Str.ofString "store") = Str.ofString "_moments") = False := eq_false (by decide)
theorem sne_Space_always__moments : ((Str.ofString "always") = Str.ofString "_moments") = False := eq_false (by decide)
theorem sne_Space_pressure__moments : ((Str.ofString "pressure") = Str.ofString "_moments") = False := eq_false (by decide)
theorem sne_Space_allocations__moments : ((Str.ofString "allocations") = Str.ofString "_moments") = False := eq_false (by decide)
theorem sne_Space_collections__moments : ((Str.ofString "collections") = Str.ofString "_moments") = False := eq_false (by decide)
theorem sne_Space__roots__moments : ((Str.ofString "_roots") = Str.ofString "_moments") = False := eq_false (by decide)
theorem sne_Space__held__moments : ((Str.ofString "_held") = Str.ofString "_moments") = False := eq_false (by decide)
theorem sne_Space_store__work : ((Str.ofString "store") = Str.ofString "_work") = False := eq_false (by decide)
theorem sne_Space_always__work : ((Str.ofString "always") = Str.ofString "_work") = False := eq_false (by decide)
theorem sne_Space_pressure__work : ((Str.ofString "pressure") = Str.ofString "_work") = False := eq_false (by decide)
theorem sne_Space_allocations__work : ((Str.ofString "allocations") = Str.ofString "_work") = False := eq_false (by decide)
theorem sne_Space_collections__work : ((Str.ofString "collections") = Str.ofString "_work") = False := eq_false (by decide)
theorem sne_Space__roots__work : ((Str.ofString "_roots") = Str.ofString "_work") = False := eq_false (by decide)
theorem sne_Space__held__work : ((Str.ofString "_held") = Str.ofString "_work") = False := eq_false (by decide)
theorem sne_Space__moments__work : ((Str.ofString "_moments") = Str.ofString "_work") = False := eq_false (by decide)
section
variable {P : Program} {w : World} {K : PySem.W.Frag} {mg : Str → Option Value} {base : Heap} {A : Ad}
theorem ok_NoRoom___init__ (T : Txt K mg A) : FnOk P w K mg base CX0 1 A.f_NoRoom___init__ A.d_NoRoom___init__ ["self", "need"] (sp_ex1 A.C_NoRoom "need") := by
  refine Fun.ok T.F_NoRoom___init__ sc_NoRoom___init__ (fun vs H Q E h => ?_) (fun cdv Ar outer s H vs Q E hr h => ?_)
  · obtain ⟨_, _, rfl, _⟩ := h
    rfl
  · obtain ⟨a, v, rfl, ha, k⟩ := h
    refine ⟨_, pss_one (ps_ost (pv 0) (pv 1)), ?_⟩
    exact ⟨v, rfl, .ref a, rfl, a, A.C_NoRoom, rfl, T.x_NoRoom.o, T.no_NoRoom_need, .inl ⟨ha, fun dx hdx ne => k dx hdx ne⟩⟩
theorem ok_NoNumber___init__ (T : Txt K mg A) : FnOk P w K mg base CX0 1 A.f_NoNumber___init__ A.d_NoNumber___init__ ["self", "limit"] (sp_ex1 A.C_NoNumber "limit") := by
  refine Fun.ok T.F_NoNumber___init__ sc_NoNumber___init__ (fun vs H Q E h => ?_) (fun cdv Ar outer s H vs Q E hr h => ?_)
  · obtain ⟨_, _, rfl, _⟩ := h
    rfl
  · obtain ⟨a, v, rfl, ha, k⟩ := h
    refine ⟨_, pss_one (ps_ost (pv 0) (pv 1)), ?_⟩
    exact ⟨v, rfl, .ref a, rfl, a, A.C_NoNumber, rfl, T.x_NoNumber.o, T.no_NoNumber_limit, .inl ⟨ha, fun dx hdx ne => k dx hdx ne⟩⟩
end

set_option hygiene false in
local macro_rules
  | `(tactic| simp! only [$xs,*]) => `(tactic| simp (config := { maxSteps := 4000000 }) only [tSeq, tNext, tDrop, tRet, tRetN, tIfS, tAsg, tTest, tAnd, tOr, tNot, tAndV, tOrV, tNotV, tIf, tOp, tUn, tVar, tC, tCB, tCons, tNil, tCall, tPart, tNoPart, tM0, tM1, tTup, tLst, tB, tIsN, tNotN, rI0, rI, rU, rEq, rNe, rAdd, gName, gTup, gCons, gNil, gSub, rSetL, rIxL, rIxT, rIxS, L2.start,
      List.map_cons, List.map_nil, List.cons_append, List.nil_append, List.append_nil, List.length_cons, List.length_nil, List.replicate, List.getElem?_cons_zero, List.getElem?_cons_succ, List.set_cons_zero, List.set_cons_succ, Nat.reduceAdd, Nat.reduceSub, Nat.sub_self, Nat.zero_add,
      Option.some.injEq, V.int.injEq, V.str.injEq, V.bl.injEq, V.ref.injEq, V.ty.injEq, List.cons.injEq, and_true, true_and, exists_eq_left, exists_eq_left', exists_eq_right, exists_and_left, exists_and_right, exists_const, decide_eq_true_eq, decide_eq_false_iff_not, if_true, if_false, reduceIte, Bool.false_eq_true, Bool.not_eq_true', sc_ii, sc_ss, sc_bb, str1, cx_K, lstAt, rIxM, rSetM, rLenM, atI_0, atI_1, atI_2, atI_3, setI_0, setI_1, setI_2, setI_3, upd_same, upd_upd, ite_true, ite_false, exists_eq', eq_self, and_assoc, rIsS, isTy_bb, isTy_bi, isTy_ib, isTy_ii, isTy_ss, isTy_nb, isTy_ni, Bool.not_true, Bool.not_false, not_true_eq_false, not_false_eq_true, tChain, tRz1, tRz2, rIsX, tFx, tMethE, tCallS, tCallZ, tMeth, tMake, tFld, sFld, HO.ins.injEq, HO.lst.injEq, HO.dK.injEq, HO.tup.injEq, dcAt, dcRd, rDInM, rDGetM, rDSetM, rDLenM, keyOf_int, keyOf_str, rIsBM, plainV_b, plainV_i, plainV_n, plainV_s, rInM, rListM, rSortM, rSumM, rIsD, tBMM, tBM0M, tSl, rSlM, rAppend, rPop, rClear, wAs, reduceCtorEq, false_implies, true_implies, implies_true, forall_const, cxH_K, clsV_ref, clsV_ty, HO.xd.injEq, Value.ref.injEq, lkc, lkn, pfn, pfc, List.map_nil, rExtend, rCat, rRep, tMethE0, rSortD, rPush, rPopH, tDGetM, gAll, iRev, tCB, sDDel, exf_NoRoom T, exf_NoNumber T, sne_Store_room_entries, sne_Store_room_words, sne_Store_entries_words, sne_Store_room__places, sne_Store_entries__places, sne_Store_words__places, sne_Store_room__free, sne_Store_entries__free, sne_Store_words__free, sne_Store__places__free, sne_Store_room__fresh, sne_Store_entries__fresh, sne_Store_words__fresh, sne_Store__places__fresh, sne_Store__free__fresh, sne_Space_store_always, sne_Space_store_pressure, sne_Space_always_pressure, sne_Space_store_allocations, sne_Space_always_allocations, sne_Space_pressure_allocations, sne_Space_store_collections, sne_Space_always_collections, sne_Space_pressure_collections, sne_Space_allocations_collections, sne_Space_store__roots, sne_Space_always__roots, sne_Space_pressure__roots, sne_Space_allocations__roots, sne_Space_collections__roots, sne_Space_store__held, sne_Space_always__held, sne_Space_pressure__held, sne_Space_allocations__held, sne_Space_collections__held, sne_Space__roots__held, sne_Space_store__moments, sne_Space_always__moments, sne_Space_pressure__moments, sne_Space_allocations__moments, sne_Space_collections__moments, sne_Space__roots__moments, sne_Space__held__moments, sne_Space_store__work, sne_Space_always__work, sne_Space_pressure__work, sne_Space_allocations__work, sne_Space_collections__work, sne_Space__roots__work, sne_Space__held__work, sne_Space__moments__work, T.no_NoRoom_need, T.ex_NoRoom_NoNumber, T.ex_NoRoom_NoRoom, T.no_NoNumber_limit, T.ex_NoNumber_NoNumber, T.ex_NoNumber_NoRoom, $xs,*])
set_option hygiene false in
local macro_rules
  | `(tactic| dsimp! only [$xs,*]) => `(tactic| simp (config := { maxSteps := 4000000 }) only [tSeq, tNext, tDrop, tRet, tRetN, tIfS, tAsg, tTest, tAnd, tOr, tNot, tAndV, tOrV, tNotV, tIf, tOp, tUn, tVar, tC, tCB, tCons, tNil, tCall, tPart, tNoPart, tM0, tM1, tTup, tLst, tB, tIsN, tNotN, rI0, rI, rU, rEq, rNe, rAdd, gName, gTup, gCons, gNil, gSub, rSetL, rIxL, rIxT, rIxS, L2.start,
      List.map_cons, List.map_nil, List.cons_append, List.nil_append, List.append_nil, List.length_cons, List.length_nil, List.replicate, List.getElem?_cons_zero, List.getElem?_cons_succ, List.set_cons_zero, List.set_cons_succ, Nat.reduceAdd, Nat.reduceSub, Nat.sub_self, Nat.zero_add,
      Option.some.injEq, V.int.injEq, V.str.injEq, V.bl.injEq, V.ref.injEq, V.ty.injEq, List.cons.injEq, and_true, true_and, exists_eq_left, exists_eq_left', exists_eq_right, exists_and_left, exists_and_right, exists_const, decide_eq_true_eq, decide_eq_false_iff_not, if_true, if_false, reduceIte, Bool.false_eq_true, Bool.not_eq_true', sc_ii, sc_ss, sc_bb, str1, cx_K, lstAt, rIxM, rSetM, rLenM, atI_0, atI_1, atI_2, atI_3, setI_0, setI_1, setI_2, setI_3, upd_same, upd_upd, ite_true, ite_false, exists_eq', eq_self, and_assoc, rIsS, isTy_bb, isTy_bi, isTy_ib, isTy_ii, isTy_ss, isTy_nb, isTy_ni, Bool.not_true, Bool.not_false, not_true_eq_false, not_false_eq_true, tChain, tRz1, tRz2, rIsX, tFx, tMethE, tCallS, tCallZ, tMeth, tMake, tFld, sFld, HO.ins.injEq, HO.lst.injEq, HO.dK.injEq, HO.tup.injEq, dcAt, dcRd, rDInM, rDGetM, rDSetM, rDLenM, keyOf_int, keyOf_str, rIsBM, plainV_b, plainV_i, plainV_n, plainV_s, rInM, rListM, rSortM, rSumM, rIsD, tBMM, tBM0M, tSl, rSlM, rAppend, rPop, rClear, wAs, reduceCtorEq, false_implies, true_implies, implies_true, forall_const, cxH_K, clsV_ref, clsV_ty, HO.xd.injEq, Value.ref.injEq, lkc, lkn, pfn, pfc, List.map_nil, rExtend, rCat, rRep, tMethE0, rSortD, rPush, rPopH, tDGetM, gAll, iRev, tCB, sDDel, exf_NoRoom T, exf_NoNumber T, sne_Store_room_entries, sne_Store_room_words, sne_Store_entries_words, sne_Store_room__places, sne_Store_entries__places, sne_Store_words__places, sne_Store_room__free, sne_Store_entries__free, sne_Store_words__free, sne_Store__places__free, sne_Store_room__fresh, sne_Store_entries__fresh, sne_Store_words__fresh, sne_Store__places__fresh, sne_Store__free__fresh, sne_Space_store_always, sne_Space_store_pressure, sne_Space_always_pressure, sne_Space_store_allocations, sne_Space_always_allocations, sne_Space_pressure_allocations, sne_Space_store_collections, sne_Space_always_collections, sne_Space_pressure_collections, sne_Space_allocations_collections, sne_Space_store__roots, sne_Space_always__roots, sne_Space_pressure__roots, sne_Space_allocations__roots, sne_Space_collections__roots, sne_Space_store__held, sne_Space_always__held, sne_Space_pressure__held, sne_Space_allocations__held, sne_Space_collections__held, sne_Space__roots__held, sne_Space_store__moments, sne_Space_always__moments, sne_Space_pressure__moments, sne_Space_allocations__moments, sne_Space_collections__moments, sne_Space__roots__moments, sne_Space__held__moments, sne_Space_store__work, sne_Space_always__work, sne_Space_pressure__work, sne_Space_allocations__work, sne_Space_collections__work, sne_Space__roots__work, sne_Space__held__work, sne_Space__moments__work, T.no_NoRoom_need, T.ex_NoRoom_NoNumber, T.ex_NoRoom_NoRoom, T.no_NoNumber_limit, T.ex_NoNumber_NoNumber, T.ex_NoNumber_NoRoom, T.cl_Space, T.no_Space_store, T.no_Space_always, T.no_Space_pressure, T.no_Space_allocations, T.no_Space_collections, T.no_Space__roots, T.no_Space__held, T.no_Space__moments, T.no_Space__work, spF_store, spF_always, spF_alloc, spF_coll, spF_roots, spF_held, spF_mom, spF_work, spF_mset, spF_mhold, spF_mall, spF_mcoll, spF_mbes, spF_mnew, spF_len, spF_pal, spF_pco, $xs,*])
set_option hygiene false in
local macro_rules
  | `(tactic| simp_all! only [$xs,*]) => `(tactic| simp (config := { maxSteps := 4000000 }) only [tSeq, tNext, tDrop, tRet, tRetN, tIfS, tAsg, tTest, tAnd, tOr, tNot, tAndV, tOrV, tNotV, tIf, tOp, tUn, tVar, tC, tCB, tCons, tNil, tCall, tPart, tNoPart, tM0, tM1, tTup, tLst, tB, tIsN, tNotN, rI0, rI, rU, rEq, rNe, rAdd, gName, gTup, gCons, gNil, gSub, rSetL, rIxL, rIxT, rIxS, L2.start,
      List.map_cons, List.map_nil, List.cons_append, List.nil_append, List.append_nil, List.length_cons, List.length_nil, List.replicate, List.getElem?_cons_zero, List.getElem?_cons_succ, List.set_cons_zero, List.set_cons_succ, Nat.reduceAdd, Nat.reduceSub, Nat.sub_self, Nat.zero_add,
      Option.some.injEq, V.int.injEq, V.str.injEq, V.bl.injEq, V.ref.injEq, V.ty.injEq, List.cons.injEq, and_true, true_and, exists_eq_left, exists_eq_left', exists_eq_right, exists_and_left, exists_and_right, exists_const, decide_eq_true_eq, decide_eq_false_iff_not, if_true, if_false, reduceIte, Bool.false_eq_true, Bool.not_eq_true', sc_ii, sc_ss, sc_bb, str1, cx_K, lstAt, rIxM, rSetM, rLenM, atI_0, atI_1, atI_2, atI_3, setI_0, setI_1, setI_2, setI_3, upd_same, upd_upd, ite_true, ite_false, exists_eq', eq_self, and_assoc, rIsS, isTy_bb, isTy_bi, isTy_ib, isTy_ii, isTy_ss, isTy_nb, isTy_ni, Bool.not_true, Bool.not_false, not_true_eq_false, not_false_eq_true, tChain, tRz1, tRz2, rIsX, tFx, tMethE, tCallS, tCallZ, tMeth, tMake, tFld, sFld, HO.ins.injEq, HO.lst.injEq, HO.dK.injEq, HO.tup.injEq, dcAt, dcRd, rDInM, rDGetM, rDSetM, rDLenM, keyOf_int, keyOf_str, rIsBM, plainV_b, plainV_i, plainV_n, plainV_s, rInM, rListM, rSortM, rSumM, rIsD, tBMM, tBM0M, tSl, rSlM, rAppend, rPop, rClear, wAs, reduceCtorEq, false_implies, true_implies, implies_true, forall_const, cxH_K, clsV_ref, clsV_ty, HO.xd.injEq, Value.ref.injEq, lkc, lkn, pfn, pfc, List.map_nil, rExtend, rCat, rRep, tMethE0, rSortD, rPush, rPopH, tDGetM, gAll, iRev, tCB, sDDel, exf_NoRoom T, exf_NoNumber T, sne_Store_room_entries, sne_Store_room_words, sne_Store_entries_words, sne_Store_room__places, sne_Store_entries__places, sne_Store_words__places, sne_Store_room__free, sne_Store_entries__free, sne_Store_words__free, sne_Store__places__free, sne_Store_room__fresh, sne_Store_entries__fresh, sne_Store_words__fresh, sne_Store__places__fresh, sne_Store__free__fresh, sne_Space_store_always, sne_Space_store_pressure, sne_Space_always_pressure, sne_Space_store_allocations, sne_Space_always_allocations, sne_Space_pressure_allocations, sne_Space_store_collections, sne_Space_always_collections, sne_Space_pressure_collections, sne_Space_allocations_collections, sne_Space_store__roots, sne_Space_always__roots, sne_Space_pressure__roots, sne_Space_allocations__roots, sne_Space_collections__roots, sne_Space_store__held, sne_Space_always__held, sne_Space_pressure__held, sne_Space_allocations__held, sne_Space_collections__held, sne_Space__roots__held, sne_Space_store__moments, sne_Space_always__moments, sne_Space_pressure__moments, sne_Space_allocations__moments, sne_Space_collections__moments, sne_Space__roots__moments, sne_Space__held__moments, sne_Space_store__work, sne_Space_always__work, sne_Space_pressure__work, sne_Space_allocations__work, sne_Space_collections__work, sne_Space__roots__work, sne_Space__held__work, sne_Space__moments__work, T.no_NoRoom_need, T.ex_NoRoom_NoNumber, T.ex_NoRoom_NoRoom, T.no_NoNumber_limit, T.ex_NoNumber_NoNumber, T.ex_NoNumber_NoRoom, T.cl_Store, T.no_Store_room, T.no_Store_entries, T.no_Store_words, T.no_Store__places, T.no_Store__free, T.no_Store__fresh, stF_room, stF_entries, stF_words, stF_places, stF_free, stF_fresh, stF_mused, stF_mexists, stF_mnumbers, stF_mfree, stF_malloc, stF_msize, stF_mkind, stF_mskind, stF_mget, stF_mput, stF_mslots, stF_mdrop, stF_mclose, stF_msnap, stF_mrest, stF_mexch, stF_len, stF_pf, stF_pd, stF_pl, $xs,*])

/-! ### a store as a row of objects -/
structure OB where
  num : Int
  kind : Int
  sl : List Int
  al : Bool
def flatO (o : OB) : List Int := o.num :: (o.sl.length : Int) :: o.kind :: o.sl
def flat : List OB → List Int
  | [] => []
  | o :: r => flatO o ++ flat r
theorem flatO_len {o : OB} : (flatO o).length = 3 + o.sl.length := by
  simp [flatO]
  omega
theorem flat_app : ∀ (r q : List OB), flat (r ++ q) = flat r ++ flat q
  | [], _ => rfl
  | o :: r, q => by rw [List.cons_append, flat, flat, flat_app r q, List.append_assoc]
theorem flat_one {o : OB} : flat [o] = flatO o := by simp [flat]
theorem flat_rows : ∀ (r : List OB), 3 * r.length ≤ (flat r).length
  | [] => Nat.le_refl _
  | o :: r => by
    have := flat_rows r
    rw [flat, List.length_append, flatO_len, List.length_cons]
    omega
def hasN (n : Int) (o : OB) : Bool := o.al && decide (o.num = n)
theorem hasN_iff {n : Int} {o : OB} : hasN n o = true ↔ o.al = true ∧ o.num = n := by simp [hasN]
def getO (row : List OB) (n : Int) : Option OB := row.find? (hasN n)
def pos : List OB → Int → Option Nat
  | [], _ => none
  | o :: r, n => if hasN n o = true then some 0 else (pos r n).map (· + (3 + o.sl.length))
def nums (row : List OB) : List Int := (row.filter (·.al)).map (·.num)
theorem nums_cons {o : OB} {r : List OB} : nums (o :: r) = if o.al = true then o.num :: nums r else nums r := by
  unfold nums
  rw [List.filter_cons]
  split <;> rfl
theorem nums_app {r q : List OB} : nums (r ++ q) = nums r ++ nums q := by
  unfold nums
  rw [List.filter_append, List.map_append]
theorem mem_nums {row : List OB} {n : Int} : n ∈ nums row ↔ ∃ o ∈ row, hasN n o = true := by
  unfold nums
  rw [List.mem_map]
  constructor
  · rintro ⟨o, ho, e⟩
    rw [List.mem_filter] at ho
    exact ⟨o, ho.1, hasN_iff.mpr ⟨ho.2, e⟩⟩
  · rintro ⟨o, ho, e⟩
    have := hasN_iff.mp e
    exact ⟨o, List.mem_filter.mpr ⟨ho, this.1⟩, this.2⟩
theorem nums_len {row : List OB} : (nums row).length ≤ row.length := by
  unfold nums
  rw [List.length_map]
  exact List.length_filter_le ..
theorem getO_cons {o : OB} {r : List OB} {n : Int} : getO (o :: r) n = if hasN n o = true then some o else getO r n := by
  unfold getO
  rw [List.find?_cons]
  cases hasN n o <;> rfl
theorem pos_none : ∀ {row : List OB} {n : Int}, n ∉ nums row → pos row n = none
  | [], _, _ => rfl
  | o :: r, n, h => by
    have h1 : ¬ hasN n o = true := fun e => h (mem_nums.mpr ⟨o, List.mem_cons_self .., e⟩)
    have h2 : n ∉ nums r := fun e => by
      obtain ⟨q, hq, e⟩ := mem_nums.mp e
      exact h (mem_nums.mpr ⟨q, List.mem_cons_of_mem _ hq, e⟩)
    rw [pos, if_neg h1, pos_none h2]
    rfl
theorem pos_some : ∀ {row : List OB} {n : Int}, (pos row n).isSome = decide (n ∈ nums row)
  | [], _ => by simp [pos, nums]
  | o :: r, n => by
    by_cases h : hasN n o = true
    · rw [pos, if_pos h, decide_eq_true (mem_nums.mpr ⟨o, List.mem_cons_self .., h⟩)] <;> rfl
    · rw [pos, if_neg h, Option.isSome_map, pos_some]
      congr 1
      apply propext
      rw [mem_nums, mem_nums]
      constructor
      · rintro ⟨q, hq, e⟩
        exact ⟨q, List.mem_cons_of_mem _ hq, e⟩
      · rintro ⟨q, hq, e⟩
        rcases List.mem_cons.mp hq with rfl | hq
        · exact absurd e h
        · exact ⟨q, hq, e⟩
theorem getO_split : ∀ {row : List OB} {n : Int} {o : OB}, getO row n = some o → ∃ r1 r2, row = r1 ++ o :: r2 ∧ hasN n o = true ∧ (∀ q ∈ r1, ¬ hasN n q = true) ∧ pos row n = some (flat r1).length
  | [], _, _, h => by cases h
  | q :: r, n, o, h => by
    rw [getO_cons] at h
    by_cases c : hasN n q = true
    · rw [if_pos c] at h
      cases h
      exact ⟨[], r, rfl, c, by simp, by rw [pos, if_pos c]; rfl⟩
    · rw [if_neg c] at h
      obtain ⟨r1, r2, rfl, h1, h2, h3⟩ := getO_split h
      refine ⟨q :: r1, r2, rfl, h1, fun x hx => ?_, ?_⟩
      · rcases List.mem_cons.mp hx with rfl | hx
        · exact c
        · exact h2 x hx
      · rw [pos, if_neg c, h3, flat, List.length_append, flatO_len]
        simp
        omega
theorem getO_mem {row : List OB} {n : Int} {o : OB} (h : getO row n = some o) : o ∈ row ∧ hasN n o = true := by
  obtain ⟨r1, r2, rfl, h1, _⟩ := getO_split h
  exact ⟨by simp, h1⟩
theorem getO_of_mem : ∀ {row : List OB} {n : Int}, n ∈ nums row → ∃ o, getO row n = some o
  | [], n, h => by simp [nums] at h
  | q :: r, n, h => by
    rw [getO_cons]
    by_cases c : hasN n q = true
    · exact ⟨q, by rw [if_pos c]⟩
    · rw [if_neg c]
      refine getO_of_mem ?_
      obtain ⟨x, hx, e⟩ := mem_nums.mp h
      rcases List.mem_cons.mp hx with rfl | hx
      · exact absurd e c
      · exact mem_nums.mpr ⟨x, hx, e⟩
theorem getO_nums {row : List OB} {n : Int} {o : OB} (h : getO row n = some o) : n ∈ nums row := mem_nums.mpr ⟨o, getO_mem h⟩
/-- the words of an object that is there -/
theorem word_at {row : List OB} {n : Int} {o : OB} (h : getO row n = some o) : ∃ i : Nat, pos row n = some i ∧ i + (3 + o.sl.length) ≤ (flat row).length ∧ (flat row)[i]? = some n ∧ (flat row)[i + 1]? = some (o.sl.length : Int) ∧ (flat row)[i + 2]? = some o.kind ∧ ∀ j, j < o.sl.length → (flat row)[i + (3 + j)]? = o.sl[j]? := by
  obtain ⟨r1, r2, rfl, h1, _, h3⟩ := getO_split h
  have e := (hasN_iff.mp h1).2
  refine ⟨_, h3, ?_, ?_, ?_, ?_, fun j hj => ?_⟩
  · rw [flat_app, flat, List.length_append, List.length_append, flatO_len]
    omega
  · rw [flat_app, List.getElem?_append_right (Nat.le_refl _), Nat.sub_self, flat, flatO, ← e]
    rfl
  · rw [flat_app, List.getElem?_append_right (by omega), show (flat r1).length + 1 - (flat r1).length = 1 by omega, flat, flatO]
    rfl
  · rw [flat_app, List.getElem?_append_right (by omega), show (flat r1).length + 2 - (flat r1).length = 2 by omega, flat, flatO]
    rfl
  · rw [flat_app, List.getElem?_append_right (by omega), show (flat r1).length + (3 + j) - (flat r1).length = j + 3 by omega, flat, flatO]
    show (o.sl ++ flat r2)[j]? = _
    rw [List.getElem?_append_left hj]
theorem slots_at {row : List OB} {n : Int} {o : OB} {i : Nat} (h : getO row n = some o) (hi : pos row n = some i) : ((flat row).drop (i + 3)).take o.sl.length = o.sl := by
  obtain ⟨r1, r2, rfl, h1, _, h3⟩ := getO_split h
  rw [h3] at hi
  cases hi
  rw [flat_app, List.drop_append, flat, flatO]
  rw [List.drop_eq_nil_of_le (by omega), List.nil_append, show (flat r1).length + 3 - (flat r1).length = 3 by omega]
  show ((o.sl ++ flat r2)).take _ = _
  rw [List.take_left']
  rfl
theorem pos_app {row : List OB} {o : OB} {m : Int} : pos (row ++ [o]) m = if m ∈ nums row then pos row m else if hasN m o = true then some (flat row).length else none := by
  induction row with
  | nil =>
    rw [List.nil_append, if_neg (by simp [nums]), pos]
    rfl
  | cons q r ih =>
    rw [List.cons_append, pos, pos, ih]
    by_cases c : hasN m q = true
    · rw [if_pos c, if_pos c, if_pos (mem_nums.mpr ⟨q, List.mem_cons_self .., c⟩)]
    · rw [if_neg c, if_neg c]
      have e : m ∈ nums (q :: r) ↔ m ∈ nums r := by
        rw [mem_nums, mem_nums]
        constructor
        · rintro ⟨x, hx, e⟩
          rcases List.mem_cons.mp hx with rfl | hx
          · exact absurd e c
          · exact ⟨x, hx, e⟩
        · rintro ⟨x, hx, e⟩
          exact ⟨x, List.mem_cons_of_mem _ hx, e⟩
      by_cases d : m ∈ nums r
      · rw [if_pos d, if_pos (e.mpr d)]
      · rw [if_neg d, if_neg (fun x => d (e.mp x))]
        by_cases f : hasN m o = true
        · rw [if_pos f, if_pos f, flat, List.length_append, flatO_len]
          simp
          omega
        · rw [if_neg f, if_neg f]
          rfl
/-- the dict of the places -/
def PK (kvs : List (Key × V)) (row : List OB) : Prop := (∀ n, valV kvs (Sum.inl n) = (pos row n).map fun i => V.int ((i : Nat) : Int)) ∧ ∃ ks : List Int, kvs.map (·.1) = ks.map Sum.inl ∧ ks.Perm (nums row)
theorem PK.len {kvs row} (h : PK kvs row) : kvs.length = (nums row).length := by
  obtain ⟨_, ks, e, p⟩ := h
  have := congrArg List.length e
  rw [List.length_map, List.length_map] at this
  rw [this, p.length_eq]
theorem PK.nil : PK [] [] := ⟨fun _ => rfl, [], rfl, List.Perm.refl _⟩
theorem PK.app {kvs : List (Key × V)} {row : List OB} {o : OB} (h : PK kvs row) (ha : o.al = true) (hn : o.num ∉ nums row) : PK (putK kvs (Sum.inl o.num) (.int ((flat row).length : Int))) (row ++ [o]) := by
  obtain ⟨h1, ks, h2, h3⟩ := h
  refine ⟨fun n => ?_, ks ++ [o.num], ?_, ?_⟩
  · rw [valV_put, h1, pos_app]
    by_cases e : n = o.num
    · subst e
      rw [if_pos rfl, if_neg hn, if_pos (hasN_iff.mpr ⟨ha, rfl⟩)]
      rfl
    · have e2 : ¬ (Sum.inl n : Key) = Sum.inl o.num := fun x => e (Sum.inl.inj x)
      rw [if_neg e2]
      by_cases d : n ∈ nums row
      · rw [if_pos d]
      · rw [if_neg d, if_neg (fun x => e (hasN_iff.mp x).2.symm), pos_none d]
  · rw [putK_new _ (by rw [h1, pos_none hn]; rfl), List.map_append, h2, List.map_append]
    rfl
  · rw [nums_app, nums_cons, if_pos ha]
    exact h3.append_right _
theorem PK.skip {kvs : List (Key × V)} {row : List OB} {o : OB} (h : PK kvs row) (ha : o.al = false) : ∀ n, pos (row ++ [o]) n = pos row n := by
  intro n
  rw [pos_app]
  by_cases d : n ∈ nums row
  · rw [if_pos d]
  · rw [if_neg d, if_neg (by simp [hasN, ha]), pos_none d]
def dropX (n : Int) (o : OB) : OB := if hasN n o = true then { o with al := false } else o
theorem dropX_t {n : Int} {o : OB} (h : hasN n o = true) : dropX n o = { o with al := false } := if_pos h
theorem dropX_f {n : Int} {o : OB} (h : ¬ hasN n o = true) : dropX n o = o := if_neg h
def dropO (row : List OB) (n : Int) : List OB := row.map (dropX n)
theorem flat_drop : ∀ (row : List OB) (n : Int), flat (dropO row n) = flat row
  | [], _ => rfl
  | o :: r, n => by
    show flatO (dropX n o) ++ flat (dropO r n) = _
    rw [flat_drop r n, flat]
    by_cases c : hasN n o = true
    · rw [dropX_t c]
      rfl
    · rw [dropX_f c]
theorem pos_drop : ∀ (row : List OB) (n m : Int), pos (dropO row n) m = if m = n then none else pos row m
  | [], _, _ => by simp [dropO, pos]
  | o :: r, n, m => by
    show pos (dropX n o :: dropO r n) m = _
    rw [pos, pos, pos_drop r n m]
    by_cases c : hasN n o = true
    · rw [dropX_t c]
      rw [if_neg (show ¬ hasN m { o with al := false } = true by simp [hasN])]
      by_cases e : m = n
      · rw [if_pos e, if_pos e]
        rfl
      · rw [if_neg e, if_neg e, if_neg (fun x => e ((hasN_iff.mp x).2.symm.trans (hasN_iff.mp c).2))]
    · rw [dropX_f c]
      by_cases e : m = n
      · rw [if_pos e, if_pos e, if_neg (by rw [e]; exact c)]
        rfl
      · rw [if_neg e, if_neg e]
theorem nums_drop : ∀ (row : List OB) (n : Int), nums (dropO row n) = (nums row).filter fun m => decide (m ≠ n)
  | [], _ => rfl
  | o :: r, n => by
    show nums (dropX n o :: dropO r n) = _
    rw [nums_cons, nums_cons, nums_drop r n]
    by_cases a : o.al = true
    · by_cases e : o.num = n
      · rw [dropX_t (hasN_iff.mpr ⟨a, e⟩), if_neg (by simp), if_pos a, List.filter_cons, if_neg (by simp [e])]
      · rw [dropX_f (fun x => e (hasN_iff.mp x).2), if_pos a, if_pos a, List.filter_cons, if_pos (by simp [e])]
    · rw [dropX_f (fun x => a (hasN_iff.mp x).1), if_neg a, if_neg a]
theorem valV_drop : ∀ (kvs : List (Key × V)) (k j : Key), valV (dropK kvs k) j = if j = k then none else valV kvs j
  | [], k, j => by simp [dropK, valV_nil]
  | p :: r, k, j => by
    by_cases c : p.1 = k
    · rw [dropK_pos c, valV_drop r k j]
      by_cases e : j = k
      · rw [if_pos e, if_pos e]
      · rw [if_neg e, if_neg e, valV_neg (fun x => e (x.symm.trans c))]
    · rw [dropK_neg c]
      by_cases d : p.1 = j
      · rw [valV_pos d, if_neg (fun x => c (d.trans x)), valV_pos d]
      · rw [valV_neg d, valV_drop r k j, valV_neg d]
theorem PK.drop {kvs : List (Key × V)} {row : List OB} {n : Int} (h : PK kvs row) : PK (dropK kvs (Sum.inl n)) (dropO row n) := by
  obtain ⟨h1, ks, h2, h3⟩ := h
  refine ⟨fun m => ?_, ks.filter (fun m => decide (m ≠ n)), ?_, ?_⟩
  · rw [valV_drop, pos_drop, h1]
    by_cases e : m = n
    · rw [if_pos e, if_pos (by rw [e])]
      rfl
    · rw [if_neg e, if_neg (fun x => e (Sum.inl.inj x))]
  · unfold dropK
    have : ∀ (kvs : List (Key × V)) (ks : List Int), kvs.map (·.1) = ks.map Sum.inl → (kvs.filter fun kv => decide (kv.1 ≠ Sum.inl n)).map (·.1) = (ks.filter fun m => decide (m ≠ n)).map Sum.inl := by
      intro kvs
      induction kvs with
      | nil =>
        intro ks e
        cases ks with
        | nil => rfl
        | cons k ks => cases e
      | cons p r ih =>
        intro ks e
        cases ks with
        | nil => cases e
        | cons k ks =>
          rw [List.map_cons, List.map_cons, List.cons.injEq] at e
          rw [List.filter_cons, List.filter_cons, e.1]
          by_cases c : k = n
          · rw [if_neg (by simp [c]), if_neg (by simp [c])]
            exact ih ks e.2
          · rw [if_pos (by simp [c]), if_pos (by simp [c]), List.map_cons, List.map_cons, ih ks e.2, e.1]
    exact this kvs ks h2
  · rw [nums_drop]
    exact h3.filter _
def sw2 (a b m : Int) : Int := if m = a then b else if m = b then a else m
def exO (a b : Int) (o : OB) : OB := if o.al = true then { o with num := sw2 a b o.num } else o
def exch (row : List OB) (a b : Int) : List OB := row.map (exO a b)
theorem sw2_inv (a b m : Int) : sw2 a b (sw2 a b m) = m := by
  unfold sw2
  by_cases h1 : m = a <;> by_cases h2 : m = b <;> simp_all
theorem exO_sl {a b : Int} {o : OB} : (exO a b o).sl = o.sl ∧ (exO a b o).kind = o.kind ∧ (exO a b o).al = o.al := by
  unfold exO
  split <;> simp_all
theorem hasN_ex {a b m : Int} {o : OB} : hasN m (exO a b o) = hasN (sw2 a b m) o := by
  unfold exO hasN
  by_cases h : o.al = true
  · rw [if_pos h]
    show (o.al && decide (sw2 a b o.num = m)) = _
    congr 1
    have : (sw2 a b o.num = m) ↔ (o.num = sw2 a b m) := ⟨fun e => by rw [← e, sw2_inv], fun e => by rw [e, sw2_inv]⟩
    simp [this]
  · rw [if_neg h]
    simp [h]
theorem exch_exch {row : List OB} {a b : Int} : exch (exch row a b) a b = row := by
  unfold exch
  rw [List.map_map]
  have : (exO a b ∘ exO a b) = id := by
    funext o
    show exO a b (exO a b o) = o
    unfold exO
    by_cases h : o.al = true
    · rw [if_pos h, if_pos h]
      show ({ o with num := sw2 a b (sw2 a b o.num) } : OB) = o
      rw [sw2_inv]
    · rw [if_neg h, if_neg h]
  rw [this, List.map_id]
theorem pos_ex : ∀ {row : List OB} {a b m : Int}, pos (exch row a b) m = pos row (sw2 a b m)
  | [], _, _, _ => rfl
  | o :: r, a, b, m => by
    show pos (exO a b o :: exch r a b) m = _
    rw [pos, pos, hasN_ex, pos_ex, exO_sl.1]
theorem getO_ex : ∀ {row : List OB} {a b m : Int}, getO (exch row a b) m = (getO row (sw2 a b m)).map (exO a b)
  | [], _, _, _ => rfl
  | o :: r, a, b, m => by
    show getO (exO a b o :: exch r a b) m = _
    rw [getO_cons, getO_cons, hasN_ex, getO_ex]
    split <;> rfl
theorem nums_ex : ∀ {row : List OB} {a b : Int}, nums (exch row a b) = (nums row).map (sw2 a b)
  | [], _, _ => rfl
  | o :: r, a, b => by
    show nums (exO a b o :: exch r a b) = _
    rw [nums_cons, nums_cons, exO_sl.2.2, nums_ex]
    by_cases h : o.al = true
    · rw [if_pos h, if_pos h, List.map_cons]
      unfold exO
      rw [if_pos h]
    · rw [if_neg h, if_neg h]
theorem nums_ex_mem {row : List OB} {a b m : Int} (ha : a ∈ nums row) (hb : b ∈ nums row) : m ∈ nums (exch row a b) ↔ m ∈ nums row := by
  rw [nums_ex, List.mem_map]
  constructor
  · rintro ⟨x, hx, rfl⟩
    unfold sw2
    split
    · exact hb
    · split
      · exact ha
      · exact hx
  · intro h
    refine ⟨sw2 a b m, ?_, sw2_inv a b m⟩
    unfold sw2
    split
    · exact hb
    · split
      · exact ha
      · exact h
theorem nums_ex_nodup {row : List OB} {a b : Int} (h : (nums row).Nodup) : (nums (exch row a b)).Nodup := by
  rw [nums_ex]
  exact List.Pairwise.map _ (fun x y hne e => hne (by rw [← sw2_inv a b x, e, sw2_inv])) h
theorem nums_ex_perm {row : List OB} {a b : Int} (hn : (nums row).Nodup) (ha : a ∈ nums row) (hb : b ∈ nums row) : (nums (exch row a b)).Perm (nums row) :=
  (List.perm_ext_iff_of_nodup (nums_ex_nodup hn) hn).mpr fun _ => nums_ex_mem ha hb
theorem exch_none : ∀ {row : List OB} {a b : Int}, a ∉ nums row → b ∉ nums row → exch row a b = row
  | [], _, _, _, _ => rfl
  | o :: r, a, b, ha, hb => by
    show exO a b o :: exch r a b = _
    have t : ∀ x, x ∉ nums (o :: r) → x ∉ nums r ∧ (o.al = true → o.num ≠ x) := fun x hx => by
      rw [nums_cons] at hx
      by_cases h : o.al = true
      · rw [if_pos h] at hx
        exact ⟨fun z => hx (List.mem_cons_of_mem _ z), fun _ e => hx (by rw [e]; exact List.mem_cons_self ..)⟩
      · rw [if_neg h] at hx
        exact ⟨hx, fun z => absurd z h⟩
    rw [exch_none (t a ha).1 (t b hb).1]
    unfold exO
    by_cases h : o.al = true
    · rw [if_pos h, sw2, if_neg ((t a ha).2 h), if_neg ((t b hb).2 h)]
    · rw [if_neg h]
theorem set_app_right {l1 l2 : List Int} {i : Nat} {v : Int} : (l1 ++ l2).set (i + l1.length) v = l1 ++ l2.set i v := by
  rw [List.set_append_right _ _ (by omega), show i + l1.length - l1.length = i by omega]
/-- one number of the list is set -/
theorem flat_set1 : ∀ {row : List OB} {a b : Int} {i : Nat}, (nums row).Nodup → b ∉ nums row → pos row a = some i → (flat row).set i b = flat (exch row a b)
  | [], _, _, _, _, _, h => by cases h
  | o :: r, a, b, i, hn, hb, h => by
    rw [nums_cons] at hn hb
    rw [pos] at h
    show _ = flatO (exO a b o) ++ flat (exch r a b)
    by_cases c : hasN a o = true
    · rw [if_pos c] at h
      cases h
      have c' := hasN_iff.mp c
      rw [if_pos c'.1] at hn hb
      have hn2 := List.nodup_cons.mp hn
      rw [c'.2] at hn2
      rw [exch_none hn2.1 (fun z => hb (List.mem_cons_of_mem _ z)), flat]
      unfold exO
      rw [if_pos c'.1, c'.2, sw2, if_pos rfl]
      rfl
    · rw [if_neg c] at h
      cases hp : pos r a with
      | none =>
        rw [hp] at h
        cases h
      | some j =>
        rw [hp] at h
        have e : j + (3 + o.sl.length) = i := Option.some.inj h
        subst e
        have hn' : (nums r).Nodup := by
          by_cases g : o.al = true
          · rw [if_pos g] at hn
            exact (List.nodup_cons.mp hn).2
          · rw [if_neg g] at hn
            exact hn
        have hb' : b ∉ nums r := fun z => by
          by_cases g : o.al = true
          · rw [if_pos g] at hb
            exact hb (List.mem_cons_of_mem _ z)
          · rw [if_neg g] at hb
            exact hb z
        rw [flat, ← flatO_len, set_app_right, flat_set1 hn' hb' hp]
        congr 1
        unfold exO
        by_cases g : o.al = true
        · rw [if_pos g, sw2, if_neg (fun e => c (hasN_iff.mpr ⟨g, e⟩)), if_neg]
          intro e
          rw [if_pos g, e] at hb
          exact hb (List.mem_cons_self ..)
        · rw [if_neg g]
theorem exch_comm (row : List OB) (a b : Int) : exch row a b = exch row b a := by
  unfold exch
  congr 1
  funext o
  unfold exO sw2
  by_cases h1 : o.num = a <;> by_cases h2 : o.num = b <;> simp_all
/-- both numbers are set -/
theorem flat_set2 : ∀ {row : List OB} {a b : Int} {i j : Nat}, (nums row).Nodup → pos row a = some i → pos row b = some j → ((flat row).set i b).set j a = flat (exch row a b)
  | [], _, _, _, _, _, h, _ => by cases h
  | o :: r, a, b, i, j, hn, hi, hj => by
    have hn0 := hn
    rw [nums_cons] at hn
    rw [pos] at hi hj
    show _ = flatO (exO a b o) ++ flat (exch r a b)
    have tail : ∀ x k, pos r x = some k → x ∈ nums r := fun x k hk => by
      have := pos_some (row := r) (n := x)
      rw [hk] at this
      exact of_decide_eq_true this.symm
    by_cases c : hasN a o = true
    · have c' := hasN_iff.mp c
      rw [if_pos c] at hi
      cases hi
      rw [if_pos c'.1] at hn
      have hn2 := List.nodup_cons.mp hn
      rw [c'.2] at hn2
      by_cases d : hasN b o = true
      · have d' := hasN_iff.mp d
        have e : a = b := c'.2.symm.trans d'.2
        subst e
        rw [if_pos c] at hj
        cases hj
        rw [exch_none hn2.1 hn2.1, flat]
        unfold exO
        rw [if_pos c'.1, c'.2, sw2, if_pos rfl]
        rfl
      · rw [if_neg d] at hj
        cases hp : pos r b with
        | none =>
          rw [hp] at hj
          cases hj
        | some k =>
          rw [hp] at hj
          have e : k + (3 + o.sl.length) = j := Option.some.inj hj
          subst e
          rw [exch_comm r a b, ← flat_set1 hn2.2 hn2.1 hp, flat]
          have e0 : (flatO o ++ flat r).set 0 b = flatO { o with num := b } ++ flat r := rfl
          rw [e0, show (3 + o.sl.length) = (flatO { o with num := b }).length by rw [flatO_len], set_app_right]
          congr 1
          unfold exO
          rw [if_pos c'.1, c'.2, sw2, if_pos rfl]
    · rw [if_neg c] at hi
      cases hp : pos r a with
      | none =>
        rw [hp] at hi
        cases hi
      | some k =>
        rw [hp] at hi
        have e : k + (3 + o.sl.length) = i := Option.some.inj hi
        subst e
        have hn' : (nums r).Nodup := by
          by_cases g : o.al = true
          · rw [if_pos g] at hn
            exact (List.nodup_cons.mp hn).2
          · rw [if_neg g] at hn
            exact hn
        rw [flat, ← flatO_len, set_app_right]
        by_cases d : hasN b o = true
        · have d' := hasN_iff.mp d
          rw [if_pos d] at hj
          cases hj
          rw [if_pos d'.1] at hn
          have hn2 := List.nodup_cons.mp hn
          rw [d'.2] at hn2
          rw [flat_set1 hn' hn2.1 hp]
          unfold exO
          rw [if_pos d'.1, d'.2, sw2, if_neg (fun e => c (hasN_iff.mpr ⟨d'.1, d'.2.trans e⟩)), if_pos rfl]
          rfl
        · rw [if_neg d] at hj
          cases hq : pos r b with
          | none =>
            rw [hq] at hj
            cases hj
          | some l =>
            rw [hq] at hj
            have e : l + (3 + o.sl.length) = j := Option.some.inj hj
            subst e
            rw [← flatO_len, set_app_right, flat_set2 hn' hp hq]
            congr 1
            unfold exO
            by_cases g : o.al = true
            · rw [if_pos g, sw2, if_neg (fun e => c (hasN_iff.mpr ⟨g, e⟩)), if_neg (fun e => d (hasN_iff.mpr ⟨g, e⟩))]
            · rw [if_neg g]
theorem PK.ex {kvs : List (Key × V)} {row : List OB} {a b : Int} {i j : Nat} (h : PK kvs row) (hn : (nums row).Nodup) (hi : pos row a = some i) (hj : pos row b = some j) :
    PK (putK (putK kvs (Sum.inl a) (.int (j : Int))) (Sum.inl b) (.int (i : Int))) (exch row a b) := by
  obtain ⟨h1, ks, h2, h3⟩ := h
  have ha : a ∈ nums row := by
    have := pos_some (row := row) (n := a)
    rw [hi] at this
    exact of_decide_eq_true this.symm
  have hb : b ∈ nums row := by
    have := pos_some (row := row) (n := b)
    rw [hj] at this
    exact of_decide_eq_true this.symm
  have kp : ∀ (kvs : List (Key × V)) (k : Key) (v : V), (valV kvs k).isSome = true → (putK kvs k v).map (·.1) = kvs.map (·.1) := fun kvs k v hs => by
    unfold putK
    rw [valV_any, if_pos hs, List.map_map]
    apply List.map_congr_left
    intro p _
    show (if p.1 = k then (p.1, v) else p).1 = p.1
    split <;> rfl
  refine ⟨fun n => ?_, ks, ?_, h3.trans (nums_ex_perm hn ha hb).symm⟩
  · rw [valV_put, valV_put, h1, pos_ex]
    unfold sw2
    by_cases e1 : n = b
    · subst e1
      rw [if_pos rfl]
      by_cases e2 : n = a
      · subst e2
        rw [if_pos rfl, hi]
        rfl
      · rw [if_neg e2, if_pos rfl, hi]
        rfl
    · rw [if_neg (fun x => e1 (Sum.inl.inj x))]
      by_cases e2 : n = a
      · subst e2
        rw [if_pos rfl, if_pos rfl, hj]
        rfl
      · rw [if_neg (fun x => e2 (Sum.inl.inj x)), if_neg e2, if_neg e1]
  · rw [kp _ _ _ ?_, kp _ _ _ ?_, h2]
    · rw [h1, hi]
      rfl
    · rw [valV_put, h1, hj]
      split <;> rfl
/-- at a place of the list: the dict tells the place exactly of an object that is there -/
theorem pos_here {r1 r2 : List OB} {o : OB} (hn : (nums (r1 ++ o :: r2)).Nodup) : pos (r1 ++ o :: r2) o.num = some (flat r1).length ↔ o.al = true := by
  constructor
  · intro h
    have hm : o.num ∈ nums (r1 ++ o :: r2) := by
      have := pos_some (row := r1 ++ o :: r2) (n := o.num)
      rw [h] at this
      exact of_decide_eq_true this.symm
    clear hn hm
    induction r1 with
    | nil =>
      rw [List.nil_append, pos] at h
      by_cases c : hasN o.num o = true
      · exact (hasN_iff.mp c).1
      · rw [if_neg c] at h
        cases hp : pos r2 o.num with
        | none =>
          rw [hp] at h
          cases h
        | some k =>
          rw [hp] at h
          have : k + (3 + o.sl.length) = 0 := Option.some.inj h
          omega
    | cons q r ih =>
      rw [List.cons_append, pos, flat, List.length_append, flatO_len] at h
      by_cases c : hasN o.num q = true
      · rw [if_pos c] at h
        have := Option.some.inj h
        omega
      · rw [if_neg c] at h
        cases hp : pos (r ++ o :: r2) o.num with
        | none =>
          rw [hp] at h
          cases h
        | some k =>
          rw [hp] at h
          have : k + (3 + q.sl.length) = 3 + q.sl.length + (flat r).length := Option.some.inj h
          refine ih ?_
          rw [hp]
          congr 1
          omega
  · intro h
    have g : getO (r1 ++ o :: r2) o.num = some o := by
      unfold getO
      rw [List.find?_append]
      have : r1.find? (hasN o.num) = none := by
        rw [List.find?_eq_none]
        intro q hq c
        rw [nums_app, nums_cons, if_pos h] at hn
        have := (List.nodup_append.mp hn).2.2 o.num (mem_nums.mpr ⟨q, hq, c⟩) o.num (List.mem_cons_self ..)
        exact this rfl
      rw [this, List.find?_cons, hasN_iff.mpr ⟨h, rfl⟩]
      rfl
    obtain ⟨s1, s2, e, h1, h2, h3⟩ := getO_split g
    rw [h3]
    congr 1
    have : ∀ (r1 s1 : List OB), r1 ++ o :: r2 = s1 ++ o :: s2 → (∀ q ∈ s1, ¬ hasN o.num q = true) → (nums (r1 ++ o :: r2)).Nodup → r1 = s1 := by
      intro r1
      induction r1 with
      | nil =>
        intro s1 e h2 _
        cases s1 with
        | nil => rfl
        | cons q s1 =>
          rw [List.nil_append, List.cons_append, List.cons.injEq] at e
          exact absurd (hasN_iff.mpr ⟨h, rfl⟩) (e.1 ▸ h2 q (List.mem_cons_self ..))
      | cons p r1 ih =>
        intro s1 e h2 hn
        cases s1 with
        | nil =>
          rw [List.nil_append, List.cons_append, List.cons.injEq] at e
          rw [List.cons_append, nums_cons, e.1, if_pos h] at hn
          exact absurd (mem_nums.mpr ⟨o, by simp, hasN_iff.mpr ⟨h, rfl⟩⟩) (List.nodup_cons.mp hn).1
        | cons q s1 =>
          rw [List.cons_append, List.cons_append, List.cons.injEq] at e
          rw [e.1, ih s1 e.2 (fun x hx => h2 x (List.mem_cons_of_mem _ hx)) ?_]
          rw [List.cons_append, nums_cons] at hn
          by_cases a : p.al = true
          · rw [if_pos a] at hn
            exact (List.nodup_cons.mp hn).2
          · rw [if_neg a] at hn
            exact hn
    rw [this r1 s1 e h2 hn]
theorem nodup_le : ∀ (k : Nat) (l : List Int), l.Nodup → (∀ x ∈ l, 0 ≤ x ∧ x < (k : Int)) → l.length ≤ k
  | 0, l, _, h => by
    cases l with
    | nil => exact Nat.le_refl _
    | cons x l =>
      have := h x (List.mem_cons_self ..)
      omega
  | k + 1, l, hn, h => by
    have h1 : (l.filter fun x => decide (x ≠ (k : Int))).length ≤ k := nodup_le k _ (hn.filter _) fun x hx => by
      rw [List.mem_filter] at hx
      have a := h x hx.1
      have b := of_decide_eq_true hx.2
      omega
    have h2 : l.length ≤ (l.filter fun x => decide (x ≠ (k : Int))).length + 1 := by
      clear h1 h
      induction l with
      | nil => simp
      | cons x l ih =>
        have hn2 := List.nodup_cons.mp hn
        rw [List.filter_cons]
        by_cases c : x = (k : Int)
        · rw [if_neg (by simp [c])]
          have : l.filter (fun x => decide (x ≠ (k : Int))) = l := List.filter_eq_self.mpr fun y hy => decide_eq_true fun e => hn2.1 (by rw [c, ← e]; exact hy)
          rw [this, List.length_cons]
          exact Nat.le_refl _
        · rw [if_pos (by simp [c]), List.length_cons, List.length_cons]
          have := ih hn2.2
          omega
    omega
def IsFree (row : List OB) (n : Int) : Prop := 0 ≤ n ∧ n ∉ nums row ∧ ∀ m, 0 ≤ m → m < n → m ∈ nums row
theorem IsFree.uniq {row : List OB} {n m : Int} (h : IsFree row n) (g : IsFree row m) : n = m := by
  rcases Int.lt_trichotomy n m with c | c | c
  · exact absurd (g.2.2 n h.1 c) h.2.1
  · exact c
  · exact absurd (h.2.2 m g.1 c) g.2.1
/-- what the store is made of -/
structure RowOk (en : Int) (ws : List Int) (kvs : List (Key × V)) (fr : List Int) (fs : Int) (row : List OB) : Prop where
  ws : ws = flat row
  pk : PK kvs row
  nd : (nums row).Nodup
  lt : ∀ n ∈ nums row, 0 ≤ n ∧ n < fs
  fn : fr.Nodup
  fm : ∀ n, n ∈ fr ↔ 0 ≤ n ∧ n < fs ∧ n ∉ nums row
  hp : HpL fr
  f0 : 0 ≤ fs
  fe : fs ≤ en
  en : en ≤ 100000
  sz : (flat row).length ≤ 100000
theorem RowOk.frl {en ws kvs fr fs row} (R : RowOk en ws kvs fr fs row) : fr.length ≤ 100000 := by
  refine nodup_le 100000 fr R.fn fun x hx => ?_
  have := (R.fm x).mp hx
  have := R.fe
  have := R.en
  omega
theorem RowOk.kvl {en ws kvs fr fs row} (R : RowOk en ws kvs fr fs row) : kvs.length ≤ 100000 := by
  rw [R.pk.len]
  have := nums_len (row := row)
  have := flat_rows row
  have := R.sz
  omega
theorem RowOk.free_hd {en ws kvs x fr fs row} (R : RowOk en ws kvs (x :: fr) fs row) : IsFree row x ∧ x < en := by
  have h := (R.fm x).mp (List.mem_cons_self ..)
  refine ⟨⟨h.1, h.2.2, fun m m0 m1 => Classical.byContradiction fun c => ?_⟩, by have := R.fe; omega⟩
  have hm := (R.fm m).mpr ⟨m0, by omega, c⟩
  rcases List.mem_cons.mp hm with e | hm
  · omega
  · have := R.hp.head m hm
    omega
theorem RowOk.free_nil {en ws kvs fs row} (R : RowOk en ws kvs [] fs row) : IsFree row fs := by
  refine ⟨R.f0, fun h => by have := R.lt fs h; omega, fun m m0 m1 => Classical.byContradiction fun c => ?_⟩
  have := (R.fm m).mpr ⟨m0, m1, c⟩
  cases this
theorem RowOk.mk0 {en : Int} (h0 : 0 ≤ en) (h1 : en ≤ 100000) : RowOk en [] [] [] 0 [] :=
  ⟨rfl, PK.nil, List.nodup_nil, (by simp [nums]), List.nodup_nil, (fun n => by
    constructor
    · intro h
      cases h
    · rintro ⟨a, b, _⟩
      omega), HpL.nil, by omega, h0, h1, Nat.zero_le _⟩
theorem RowOk.add {en ws kvs fr fs row} {o : OB} {fr' : List Int} {fs' : Int} (R : RowOk en ws kvs fr fs row) (ha : o.al = true) (hn : o.num ∉ nums row) (hz : (flat row).length + (3 + o.sl.length) ≤ 100000)
    (fn : fr'.Nodup) (fm : ∀ n, n ∈ fr' ↔ 0 ≤ n ∧ n < fs' ∧ n ∉ nums row ∧ n ≠ o.num) (hp : HpL fr') (f0 : 0 ≤ o.num ∧ o.num < fs') (f1 : fs ≤ fs') (fe : fs' ≤ en) :
    RowOk en (ws ++ flatO o) (putK kvs (Sum.inl o.num) (.int ((flat row).length : Int))) fr' fs' (row ++ [o]) := by
  have e : nums (row ++ [o]) = nums row ++ [o.num] := by
    rw [nums_app, nums_cons, if_pos ha]
    rfl
  refine ⟨by rw [R.ws, flat_app, flat_one], R.pk.app ha hn, ?_, ?_, fn, fun n => ?_, hp, by have := R.f0; omega, fe, R.en, by rw [flat_app, flat_one, List.length_append, flatO_len]; exact hz⟩
  · rw [e]
    refine List.nodup_append.mpr ⟨R.nd, by simp, fun x hx y hy => ?_⟩
    rw [List.mem_singleton] at hy
    subst hy
    exact fun z => hn (z ▸ hx)
  · rw [e]
    intro n h
    rcases List.mem_append.mp h with h | h
    · have := R.lt n h
      omega
    · rw [List.mem_singleton] at h
      subst h
      exact f0
  · rw [fm, e, List.mem_append, List.mem_singleton, not_or]
theorem RowOk.drop {en ws kvs fr fs row} {n : Int} {fr' : List Int} (R : RowOk en ws kvs fr fs row) (hn : n ∈ nums row) (p : fr'.Perm (n :: fr)) (hp : HpL fr') : RowOk en ws (dropK kvs (Sum.inl n)) fr' fs (dropO row n) := by
  have e : ∀ m, m ∈ nums (dropO row n) ↔ m ∈ nums row ∧ m ≠ n := fun m => by
    rw [nums_drop, List.mem_filter]
    simp
  refine ⟨by rw [flat_drop]; exact R.ws, R.pk.drop, by rw [nums_drop]; exact R.nd.filter _, fun m hm => R.lt m ((e m).mp hm).1, ?_, fun m => ?_, hp, R.f0, R.fe, R.en, by rw [flat_drop]; exact R.sz⟩
  · refine p.nodup_iff.mpr (List.nodup_cons.mpr ⟨fun h => ((R.fm n).mp h).2.2 hn, R.fn⟩)
  · rw [p.mem_iff, List.mem_cons, R.fm, e]
    have := R.lt n hn
    constructor
    · rintro (rfl | ⟨a, b, c⟩)
      · exact ⟨this.1, this.2, fun z => z.2 rfl⟩
      · exact ⟨a, b, fun z => c z.1⟩
    · rintro ⟨a, b, c⟩
      by_cases d : m = n
      · exact .inl d
      · exact .inr ⟨a, b, fun z => c ⟨z, d⟩⟩
theorem RowOk.ex {en ws kvs fr fs row} {a b : Int} {i j : Nat} (R : RowOk en ws kvs fr fs row) (hi : pos row a = some i) (hj : pos row b = some j) :
    RowOk en ((ws.set i b).set j a) (putK (putK kvs (Sum.inl a) (.int (j : Int))) (Sum.inl b) (.int (i : Int))) fr fs (exch row a b) := by
  have ha : a ∈ nums row := by
    have := pos_some (row := row) (n := a)
    rw [hi] at this
    exact of_decide_eq_true this.symm
  have hb : b ∈ nums row := by
    have := pos_some (row := row) (n := b)
    rw [hj] at this
    exact of_decide_eq_true this.symm
  have e := flat_set2 R.nd hi hj
  refine ⟨by rw [R.ws, e], R.pk.ex R.nd hi hj, nums_ex_nodup R.nd, fun m hm => R.lt m ((nums_ex_mem ha hb).mp hm), R.fn, fun m => ?_, R.hp, R.f0, R.fe, R.en, ?_⟩
  · rw [R.fm, nums_ex_mem ha hb]
  · rw [← e, List.length_set, List.length_set]
    exact R.sz
theorem nums_filter {row : List OB} : nums (row.filter (·.al)) = nums row := by
  unfold nums
  rw [List.filter_filter]
  congr 2
  funext o
  simp
theorem flat_filter_le : ∀ (row : List OB), (flat (row.filter (·.al))).length ≤ (flat row).length
  | [] => Nat.le_refl _
  | o :: r => by
    have := flat_filter_le r
    rw [List.filter_cons]
    split
    · rw [flat, flat, List.length_append, List.length_append]
      omega
    · rw [flat, List.length_append]
      omega
theorem RowOk.close {en ws kvs fr fs row} {kvs' : List (Key × V)} (R : RowOk en ws kvs fr fs row) (h : PK kvs' (row.filter (·.al))) : RowOk en (flat (row.filter (·.al))) kvs' fr fs (row.filter (·.al)) := by
  refine ⟨rfl, h, by rw [nums_filter]; exact R.nd, by rw [nums_filter]; exact R.lt, R.fn, by rw [nums_filter]; exact R.fm, R.hp, R.f0, R.fe, R.en, Nat.le_trans (flat_filter_le row) R.sz⟩
theorem setI_nat {xs : List V} {i : Nat} {v : V} (h : i < xs.length) : setI xs (i : Int) v = some (xs.set i v) := by
  have : ixN xs.length (i : Int) = some i := by
    unfold ixN
    rw [if_pos (by omega), if_pos (by omega), Int.toNat_natCast]
  unfold setI
  rw [this]
  rfl
theorem cutV_mid {xs : List V} {c d : Nat} (h : c ≤ d) (hd : d ≤ xs.length) : cutV xs (some (c : Int)) (some (d : Int)) = (xs.drop c).take (d - c) := by
  unfold cutV
  rw [HT.sIx_nat, HT.sIx_nat, Nat.min_eq_left hd, Nat.min_eq_left (by omega)]
def setO (n : Int) (f : OB → OB) (o : OB) : OB := if hasN n o = true then f o else o
def putO (row : List OB) (n : Int) (j : Nat) (v : Int) : List OB := row.map (setO n fun o => { o with sl := o.sl.set j v })
def kindO (row : List OB) (n : Int) (v : Int) : List OB := row.map (setO n fun o => { o with kind := v })
structure Mild (f : OB → OB) : Prop where
  num : ∀ o, (f o).num = o.num
  al : ∀ o, (f o).al = o.al
  sl : ∀ o, (f o).sl.length = o.sl.length
theorem Mild.put (j : Nat) (v : Int) : Mild (fun o => { o with sl := o.sl.set j v }) := ⟨fun _ => rfl, fun _ => rfl, fun o => by simp⟩
theorem Mild.kind (v : Int) : Mild (fun o => { o with kind := v }) := ⟨fun _ => rfl, fun _ => rfl, fun o => rfl⟩
theorem Mild.set {f : OB → OB} (h : Mild f) (n : Int) : Mild (setO n f) := by
  refine ⟨fun o => ?_, fun o => ?_, fun o => ?_⟩ <;> unfold setO <;> split <;> first | rfl | exact h.num o | exact h.al o | exact h.sl o
theorem Mild.has {f : OB → OB} (h : Mild f) {n : Int} {o : OB} : hasN n (f o) = hasN n o := by
  unfold hasN
  rw [h.num, h.al]
theorem Mild.pos {f : OB → OB} (h : Mild f) : ∀ (row : List OB) (n : Int), pos (row.map f) n = My.pos row n
  | [], _ => rfl
  | o :: r, n => by
    rw [List.map_cons, My.pos, My.pos, h.has, h.pos r n, h.sl]
theorem Mild.nums {f : OB → OB} (h : Mild f) : ∀ (row : List OB), nums (row.map f) = My.nums row
  | [] => rfl
  | o :: r => by
    rw [List.map_cons, nums_cons, nums_cons, h.nums r, h.num, h.al]
theorem Mild.flat {f : OB → OB} (h : Mild f) : ∀ (row : List OB), (flat (row.map f)).length = (My.flat row).length
  | [] => rfl
  | o :: r => by
    rw [List.map_cons, My.flat, My.flat, List.length_append, List.length_append, h.flat r, flatO_len, flatO_len, h.sl]
theorem Mild.ok {f : OB → OB} (h : Mild f) {en ws kvs fr fs row} (R : RowOk en ws kvs fr fs row) : RowOk en (My.flat (row.map f)) kvs fr fs (row.map f) := by
  refine ⟨rfl, ⟨fun n => by rw [h.pos]; exact R.pk.1 n, by rw [h.nums]; exact R.pk.2⟩, by rw [h.nums]; exact R.nd, by rw [h.nums]; exact R.lt, R.fn, by rw [h.nums]; exact R.fm, R.hp, R.f0, R.fe, R.en, by rw [h.flat]; exact R.sz⟩
theorem flat_put : ∀ {row : List OB} {n v : Int} {o : OB} {i k : Nat} {f : OB → OB}, (nums row).Nodup → getO row n = some o → pos row n = some i → (flatO o).set k v = flatO (f o) → k < (flatO o).length → (flat row).set (i + k) v = flat (row.map (setO n f))
  | [], _, _, _, _, _, _, _, h, _, _, _ => by cases h
  | q :: r, n, v, o, i, k, f, hn, ho, hi, hf, hk => by
    rw [nums_cons] at hn
    rw [getO_cons] at ho
    rw [pos] at hi
    rw [List.map_cons, flat, flat]
    by_cases c : hasN n q = true
    · rw [if_pos c] at ho hi
      cases ho
      cases hi
      have c' := hasN_iff.mp c
      rw [if_pos c'.1] at hn
      have hn2 := List.nodup_cons.mp hn
      have e : r.map (setO n f) = r := by
        have : ∀ x ∈ r, setO n f x = id x := fun x hx => by
          unfold setO
          rw [if_neg (fun z => hn2.1 (by rw [c'.2]; exact mem_nums.mpr ⟨x, hx, z⟩))]
          rfl
        rw [List.map_congr_left this, List.map_id]
      rw [e, Nat.zero_add, List.set_append_left _ _ hk, hf]
      unfold setO
      rw [if_pos c]
    · rw [if_neg c] at ho hi
      cases hp : pos r n with
      | none =>
        rw [hp] at hi
        cases hi
      | some j =>
        rw [hp] at hi
        have e : j + (3 + q.sl.length) = i := Option.some.inj hi
        subst e
        have hn' : (nums r).Nodup := by
          by_cases g : q.al = true
          · rw [if_pos g] at hn
            exact (List.nodup_cons.mp hn).2
          · rw [if_neg g] at hn
            exact hn
        rw [← flatO_len, show j + (flatO q).length + k = (j + k) + (flatO q).length by omega, set_app_right, flat_put hn' ho hp hf hk]
        unfold setO
        rw [if_neg c]
theorem RowOk.put {en ws kvs fr fs row} {n v : Int} {o : OB} {i j : Nat} (R : RowOk en ws kvs fr fs row) (ho : getO row n = some o) (hi : pos row n = some i) (hj : j < o.sl.length) : RowOk en (ws.set (i + (3 + j)) v) kvs fr fs (putO row n j v) := by
  have e := flat_put (v := v) (k := 3 + j) (f := fun o => { o with sl := o.sl.set j v }) R.nd ho hi (by rw [show 3 + j = j + 3 by omega]; simp [flatO]) (by rw [flatO_len]; omega)
  have := ((Mild.put j v).set n).ok R
  rw [← e, ← R.ws] at this
  exact this
theorem RowOk.kind {en ws kvs fr fs row} {n v : Int} {o : OB} {i : Nat} (R : RowOk en ws kvs fr fs row) (ho : getO row n = some o) (hi : pos row n = some i) : RowOk en (ws.set (i + 2) v) kvs fr fs (kindO row n v) := by
  have e := flat_put (v := v) (k := 2) (f := fun o => { o with kind := v }) R.nd ho hi (by simp [flatO]) (by rw [flatO_len]; omega)
  have := ((Mild.kind v).set n).ok R
  rw [← e, ← R.ws] at this
  exact this

/-! ### the store on the heap -/
def stF (rm en : Int) (w d f : Addr) (fs : Int) : List (Str × V) := [("room", .int rm), ("entries", .int en), ("words", .ref w), ("_places", .ref d), ("_free", .ref f), ("_fresh", .int fs)]
theorem stF_room {rm en w d f fs} : List.lookup ("room" : Str) (stF rm en w d f fs) = some (V.int rm) := rfl
theorem stF_entries {rm en w d f fs} : List.lookup ("entries" : Str) (stF rm en w d f fs) = some (V.int en) := rfl
theorem stF_words {rm en w d f fs} : List.lookup ("words" : Str) (stF rm en w d f fs) = some (V.ref w) := rfl
theorem stF_places {rm en w d f fs} : List.lookup ("_places" : Str) (stF rm en w d f fs) = some (V.ref d) := rfl
theorem stF_free {rm en w d f fs} : List.lookup ("_free" : Str) (stF rm en w d f fs) = some (V.ref f) := rfl
theorem stF_fresh {rm en w d f fs} : List.lookup ("_fresh" : Str) (stF rm en w d f fs) = some (V.int fs) := rfl
theorem stF_mused {rm en w d f fs} : List.lookup ("used" : Str) (stF rm en w d f fs) = none := rfl
theorem stF_mexists {rm en w d f fs} : List.lookup ("exists" : Str) (stF rm en w d f fs) = none := rfl
theorem stF_mnumbers {rm en w d f fs} : List.lookup ("numbers" : Str) (stF rm en w d f fs) = none := rfl
theorem stF_mfree {rm en w d f fs} : List.lookup ("free_number" : Str) (stF rm en w d f fs) = none := rfl
theorem stF_malloc {rm en w d f fs} : List.lookup ("allocate" : Str) (stF rm en w d f fs) = none := rfl
theorem stF_msize {rm en w d f fs} : List.lookup ("size" : Str) (stF rm en w d f fs) = none := rfl
theorem stF_mkind {rm en w d f fs} : List.lookup ("kind" : Str) (stF rm en w d f fs) = none := rfl
theorem stF_mskind {rm en w d f fs} : List.lookup ("set_kind" : Str) (stF rm en w d f fs) = none := rfl
theorem stF_mget {rm en w d f fs} : List.lookup ("get" : Str) (stF rm en w d f fs) = none := rfl
theorem stF_mput {rm en w d f fs} : List.lookup ("put" : Str) (stF rm en w d f fs) = none := rfl
theorem stF_mslots {rm en w d f fs} : List.lookup ("slots" : Str) (stF rm en w d f fs) = none := rfl
theorem stF_mdrop {rm en w d f fs} : List.lookup ("drop" : Str) (stF rm en w d f fs) = none := rfl
theorem stF_mclose {rm en w d f fs} : List.lookup ("close_up" : Str) (stF rm en w d f fs) = none := rfl
theorem stF_msnap {rm en w d f fs} : List.lookup ("snapshot" : Str) (stF rm en w d f fs) = none := rfl
theorem stF_mrest {rm en w d f fs} : List.lookup ("restore" : Str) (stF rm en w d f fs) = none := rfl
theorem stF_mexch {rm en w d f fs} : List.lookup ("exchange" : Str) (stF rm en w d f fs) = none := rfl
theorem stF_len {rm en w d f fs} : (stF rm en w d f fs).length = 6 := rfl
theorem stF_m1 {rm : Int} : putF "room" (.int rm) [] = [(("room" : Str), V.int rm)] := rfl
theorem stF_m2 {rm en : Int} : putF "entries" (.int en) [(("room" : Str), V.int rm)] = [(("room" : Str), V.int rm), (("entries" : Str), V.int en)] := rfl
theorem stF_m3 {rm en : Int} {w : Addr} : putF "words" (.ref w) [(("room" : Str), V.int rm), (("entries" : Str), V.int en)] = [(("room" : Str), V.int rm), (("entries" : Str), V.int en), (("words" : Str), V.ref w)] := rfl
theorem stF_m4 {rm en : Int} {w d : Addr} : putF "_places" (.ref d) [(("room" : Str), V.int rm), (("entries" : Str), V.int en), (("words" : Str), V.ref w)] = [(("room" : Str), V.int rm), (("entries" : Str), V.int en), (("words" : Str), V.ref w), (("_places" : Str), V.ref d)] := rfl
theorem stF_m5 {rm en : Int} {w d f : Addr} : putF "_free" (.ref f) [(("room" : Str), V.int rm), (("entries" : Str), V.int en), (("words" : Str), V.ref w), (("_places" : Str), V.ref d)] = [(("room" : Str), V.int rm), (("entries" : Str), V.int en), (("words" : Str), V.ref w), (("_places" : Str), V.ref d), (("_free" : Str), V.ref f)] := rfl
theorem stF_m6 {rm en fs : Int} {w d f : Addr} : putF "_fresh" (.int fs) [(("room" : Str), V.int rm), (("entries" : Str), V.int en), (("words" : Str), V.ref w), (("_places" : Str), V.ref d), (("_free" : Str), V.ref f)] = stF rm en w d f fs := rfl
theorem stF_pf {rm en w d f fs} {z : Int} : putF "_fresh" (.int z) (stF rm en w d f fs) = stF rm en w d f z := rfl
theorem stF_pd {rm en w d f fs} {z : Addr} : putF "_places" (.ref z) (stF rm en w d f fs) = stF rm en w z f fs := rfl
theorem stF_pl {rm en w d f fs} {z : Addr} : putF "_free" (.ref z) (stF rm en w d f fs) = stF rm en w d z fs := rfl
theorem rep0 : ∀ m : Nat, (List.replicate m [V.int 0]).flatten = (List.replicate m (0 : Int)).map V.int
  | 0 => rfl
  | m + 1 => by
    rw [List.replicate_succ, List.replicate_succ, List.flatten_cons, rep0 m]
    rfl
theorem ne_ho {H : Hp} {a b : Addr} {x y : HO} (h1 : H a = some x) (h2 : H b = some y) (h : x ≠ y) : a ≠ b := fun e => by
  subst e
  rw [h1] at h2
  exact h (Option.some.inj h2)
/-- the store at a, its parts; F: what stands beside it -/
structure Si (A : Ad) (H : Hp) (a dx w d f : Addr) (rm en : Int) (ws : List Int) (kvs : List (Key × V)) (fr : List Int) (fs : Int) (F : Hp) : Prop where
  ho : H a = some (.ins A.C_Store dx (stF rm en w d f fs))
  hw : H w = some (.lst (ws.map V.int))
  hd : H d = some (.dK kvs)
  hf : H f = some (.lst (fr.map V.int))
  ne : w ≠ f
  fr : ∀ b o, F b = some o → H b = some o ∧ b ≠ a ∧ b ≠ w ∧ b ≠ d ∧ b ≠ f
def St (A : Ad) (H : Hp) (a : Addr) (rm en : Int) (row : List OB) (F : Hp) : Prop := ∃ dx w d f ws kvs fr fs, Si A H a dx w d f rm en ws kvs fr fs F ∧ RowOk en ws kvs fr fs row
theorem Si.aw {A H a dx w d f rm en ws kvs fr fs F} (I : Si A H a dx w d f rm en ws kvs fr fs F) : a ≠ w := ne_ho I.ho I.hw (by simp)
theorem Si.af {A H a dx w d f rm en ws kvs fr fs F} (I : Si A H a dx w d f rm en ws kvs fr fs F) : a ≠ f := ne_ho I.ho I.hf (by simp)
theorem Si.add {A H a dx w d f rm en ws kvs fr fs F} (I : Si A H a dx w d f rm en ws kvs fr fs F) : a ≠ d := ne_ho I.ho I.hd (by simp)
theorem Si.dw {A H a dx w d f rm en ws kvs fr fs F} (I : Si A H a dx w d f rm en ws kvs fr fs F) : d ≠ w := ne_ho I.hd I.hw (by simp)
theorem Si.df {A H a dx w d f rm en ws kvs fr fs F} (I : Si A H a dx w d f rm en ws kvs fr fs F) : d ≠ f := ne_ho I.hd I.hf (by simp)
theorem Si.same {A H H' a dx w d f rm en ws kvs fr fs F} (I : Si A H a dx w d f rm en ws kvs fr fs F) (s : Same H H') : Si A H' a dx w d f rm en ws kvs fr fs F :=
  ⟨s _ _ I.ho, s _ _ I.hw, s _ _ I.hd, s _ _ I.hf, I.ne, fun b o h => ⟨s _ _ (I.fr b o h).1, (I.fr b o h).2⟩⟩
theorem Si.words {A H a dx w d f rm en ws kvs fr fs F} (I : Si A H a dx w d f rm en ws kvs fr fs F) (ws' : List Int) : Si A (upd H w (.lst (ws'.map V.int))) a dx w d f rm en ws' kvs fr fs F :=
  ⟨by rw [upd_ne I.aw]; exact I.ho, upd_same, by rw [upd_ne I.dw]; exact I.hd, by rw [upd_ne (Ne.symm I.ne)]; exact I.hf, I.ne, fun b o h => by
    obtain ⟨h1, h2, h3, h4, h5⟩ := I.fr b o h
    exact ⟨by rw [upd_ne h3]; exact h1, h2, h3, h4, h5⟩⟩
theorem Si.free {A H a dx w d f rm en ws kvs fr fs F} (I : Si A H a dx w d f rm en ws kvs fr fs F) (fr' : List Int) : Si A (upd H f (.lst (fr'.map V.int))) a dx w d f rm en ws kvs fr' fs F :=
  ⟨by rw [upd_ne I.af]; exact I.ho, by rw [upd_ne I.ne]; exact I.hw, by rw [upd_ne I.df]; exact I.hd, upd_same, I.ne, fun b o h => by
    obtain ⟨h1, h2, h3, h4, h5⟩ := I.fr b o h
    exact ⟨by rw [upd_ne h5]; exact h1, h2, h3, h4, h5⟩⟩
theorem Si.places {A H a dx w d f rm en ws kvs fr fs F} (I : Si A H a dx w d f rm en ws kvs fr fs F) (kvs' : List (Key × V)) : Si A (upd H d (.dK kvs')) a dx w d f rm en ws kvs' fr fs F :=
  ⟨by rw [upd_ne I.add]; exact I.ho, by rw [upd_ne (Ne.symm I.dw)]; exact I.hw, upd_same, by rw [upd_ne (Ne.symm I.df)]; exact I.hf, I.ne, fun b o h => by
    obtain ⟨h1, h2, h3, h4, h5⟩ := I.fr b o h
    exact ⟨by rw [upd_ne h4]; exact h1, h2, h3, h4, h5⟩⟩
theorem Si.fresh {A H a dx w d f rm en ws kvs fr fs F} (I : Si A H a dx w d f rm en ws kvs fr fs F) (fs' : Int) : Si A (upd H a (.ins A.C_Store dx (stF rm en w d f fs'))) a dx w d f rm en ws kvs fr fs' F :=
  ⟨upd_same, by rw [upd_ne (Ne.symm I.aw)]; exact I.hw, by rw [upd_ne (Ne.symm I.add)]; exact I.hd, by rw [upd_ne (Ne.symm I.af)]; exact I.hf, I.ne, fun b o h => by
    obtain ⟨h1, h2, h3, h4, h5⟩ := I.fr b o h
    exact ⟨by rw [upd_ne h2]; exact h1, h2, h3, h4, h5⟩⟩
theorem St.same {A H H' a rm en row F} (h : St A H a rm en row F) (s : Same H H') : St A H' a rm en row F := by
  obtain ⟨dx, w, d, f, ws, kvs, fr, fs, I, R⟩ := h
  exact ⟨dx, w, d, f, ws, kvs, fr, fs, I.same s, R⟩
theorem St.get {A H a rm en row F} (h : St A H a rm en row F) {b : Addr} {o : HO} (e : F b = some o) : H b = some o := by
  obtain ⟨dx, w, d, f, ws, kvs, fr, fs, I, R⟩ := h
  exact (I.fr b o e).1
theorem Si.part {A H a dx w d f rm en ws kvs fr fs F} (I : Si A H a dx w d f rm en ws kvs fr fs F) {b : Addr} (h : H b = none) : b ≠ a ∧ b ≠ w ∧ b ≠ d ∧ b ≠ f :=
  ⟨Ne.symm (ne_of_none I.ho h), Ne.symm (ne_of_none I.hw h), Ne.symm (ne_of_none I.hd h), Ne.symm (ne_of_none I.hf h)⟩
/-- a new object beside the store -/
theorem St.new {A H a rm en row F} (h : St A H a rm en row F) {p : Addr} {o : HO} (e : H p = none) : St A (upd H p o) a rm en row (upd F p o) := by
  obtain ⟨dx, w, d, f, ws, kvs, fr, fs, I, R⟩ := h
  have J := I.same (same_new (o := o) e)
  refine ⟨dx, w, d, f, ws, kvs, fr, fs, ⟨J.ho, J.hw, J.hd, J.hf, J.ne, fun b u hb => ?_⟩, R⟩
  by_cases c : b = p
  · subst c
    rw [upd_same] at hb
    exact ⟨by rw [upd_same]; exact hb, I.part e⟩
  · rw [upd_ne c] at hb
    exact J.fr b u hb
/-- an object beside the store changes -/
theorem St.set {A H a rm en row F} (h : St A H a rm en row F) {p : Addr} {o u : HO} (e : F p = some u) : St A (upd H p o) a rm en row (upd F p o) := by
  obtain ⟨dx, w, d, f, ws, kvs, fr, fs, I, R⟩ := h
  obtain ⟨_, h2, h3, h4, h5⟩ := I.fr p u e
  refine ⟨dx, w, d, f, ws, kvs, fr, fs, ⟨by rw [upd_ne (Ne.symm h2)]; exact I.ho, by rw [upd_ne (Ne.symm h3)]; exact I.hw, by rw [upd_ne (Ne.symm h4)]; exact I.hd, by rw [upd_ne (Ne.symm h5)]; exact I.hf, I.ne, fun b v hb => ?_⟩, R⟩
  by_cases c : b = p
  · subst c
    rw [upd_same] at hb
    exact ⟨by rw [upd_same]; exact hb, h2, h3, h4, h5⟩
  · rw [upd_ne c] at hb ⊢
    exact I.fr b v hb
theorem St.less {A H a rm en row F F'} (h : St A H a rm en row F) (s : Same F' F) : St A H a rm en row F' := by
  obtain ⟨dx, w, d, f, ws, kvs, fr, fs, I, R⟩ := h
  exact ⟨dx, w, d, f, ws, kvs, fr, fs, ⟨I.ho, I.hw, I.hd, I.hf, I.ne, fun b o e => I.fr b o (s b o e)⟩, R⟩
/-- new objects beside the store, all at once -/
theorem St.more {A H H' a rm en row F F'} (h : St A H a rm en row F) (s : Same H H') (n : ∀ b o, F' b = some o → F b = some o ∨ (H b = none ∧ H' b = some o)) : St A H' a rm en row F' := by
  obtain ⟨dx, w, d, f, ws, kvs, fr, fs, I, R⟩ := h
  have J := I.same s
  refine ⟨dx, w, d, f, ws, kvs, fr, fs, ⟨J.ho, J.hw, J.hd, J.hf, J.ne, fun b o e => ?_⟩, R⟩
  rcases n b o e with q | ⟨q1, q2⟩
  · exact J.fr b o q
  · exact ⟨q2, I.part q1⟩
theorem Si.other {A H a dx w d f rm en ws kvs fr fs F} (I : Si A H a dx w d f rm en ws kvs fr fs F) {p : Addr} {o : HO} (h : p ≠ a ∧ p ≠ w ∧ p ≠ d ∧ p ≠ f) (hF : F p = none) : Si A (upd H p o) a dx w d f rm en ws kvs fr fs F :=
  ⟨by rw [upd_ne (Ne.symm h.1)]; exact I.ho, by rw [upd_ne (Ne.symm h.2.1)]; exact I.hw, by rw [upd_ne (Ne.symm h.2.2.1)]; exact I.hd, by rw [upd_ne (Ne.symm h.2.2.2)]; exact I.hf, I.ne, fun b u e => by
    rw [upd_ne (ne_of_none e hF)]
    exact I.fr b u e⟩
theorem Si.out {A H a dx w d f rm en ws kvs fr fs F} (I : Si A H a dx w d f rm en ws kvs fr fs F) {p : Addr} (h : H p = none) : F p = none := by
  cases e : F p with
  | none => rfl
  | some o =>
    rw [(I.fr p o e).1] at h
    cases h

def sp_mk (C : Addr) : Sp := fun vs H Q _ => ∃ (a dx : Addr) (rm en : Int), vs = [.ref a, .int rm, .int en] ∧ H a = some (.ins C dx []) ∧ ∀ w d f H', H w = none → H d = none → H f = none → w ≠ f → H' a = some (.ins C dx (stF rm en w d f 0)) → H' w = some (.lst []) → H' d = some (.dK []) → H' f = some (.lst []) → (∀ b, b ≠ a → b ≠ w → b ≠ d → b ≠ f → H' b = H b) → Q .non H'
theorem sp_mk_len {C vs H Q E} (h : sp_mk C vs H Q E) : vs.length = (["self", "room", "entries"] : List Str).length := by
  obtain ⟨_, _, _, _, rfl, _⟩ := h
  rfl
section
variable {P : Program} {w : World} {K : PySem.W.Frag} {mg : Str → Option Value} {base : Heap} {A : Ad}
theorem ok_Store___init__ (T : Txt K mg A) : FnOk P w K mg base CX0 1 A.f_Store___init__ A.d_Store___init__ ["self", "room", "entries"] (sp_mk A.C_Store) := by
  refine Fun.ok T.F_Store___init__ sc_Store___init__ (fun vs H Q E h => ?_) (fun cdv Ar outer s H vs Q E hr h => ?_)
  · exact sp_mk_len h
  · have hu := hu_of hr
    refine ⟨_, (pss_cons (ps_fld (pv 0) (pv 1) rfl)
    (pss_cons (ps_fld (pv 0) (pv 2) rfl)
    (pss_cons (ps_fld (pv 0) (pe_lst pa_nil) rfl)
    (pss_cons (ps_fld (pv 0) pe_dnewK rfl)
    (pss_cons (ps_fld (pv 0) (pe_lst pa_nil) rfl)
    (pss_one (ps_fld (pv 0) pe_int rfl))))))), ?_⟩
    obtain ⟨a, dx, rm, en, rfl, ha, k⟩ := h
    simp! only [ha, T.cl_Store, T.no_Store_room, T.no_Store_entries, T.no_Store_words, T.no_Store__places, T.no_Store__free, T.no_Store__fresh]
    refine ⟨by decide, by decide, Nat.zero_le _, fun w hw => ?_⟩
    have aw : a ≠ w := ne_of_none upd_same hw
    have hw0 : H w = none := by
      rw [upd_ne (Ne.symm aw)] at hw
      exact hw
    rw [upd_ne aw, upd_same]
    simp! only [T.cl_Store, T.no_Store_room, T.no_Store_entries, T.no_Store_words, T.no_Store__places, T.no_Store__free, T.no_Store__fresh]
    refine ⟨by decide, fun d hd => ?_⟩
    have ad : a ≠ d := ne_of_none upd_same hd
    have wd : w ≠ d := ne_of_none (by rw [upd_ne (Ne.symm aw), upd_same]) hd
    have hd0 : H d = none := by
      rw [upd_ne (Ne.symm ad), upd_ne (Ne.symm wd), upd_ne (Ne.symm ad)] at hd
      exact hd
    dsimp only
    rw [upd_ne ad, upd_same]
    simp! only [T.cl_Store, T.no_Store_room, T.no_Store_entries, T.no_Store_words, T.no_Store__places, T.no_Store__free, T.no_Store__fresh]
    refine ⟨by decide, Nat.zero_le _, fun f hf => ?_⟩
    have af : a ≠ f := ne_of_none upd_same hf
    have df : d ≠ f := ne_of_none (by rw [upd_ne (Ne.symm ad), upd_same]) hf
    have wf : w ≠ f := ne_of_none (by rw [upd_ne (Ne.symm aw), upd_ne wd, upd_ne (Ne.symm aw), upd_same]) hf
    have hf0 : H f = none := by
      rw [upd_ne (Ne.symm af), upd_ne (Ne.symm df), upd_ne (Ne.symm af), upd_ne (Ne.symm wf), upd_ne (Ne.symm af)] at hf
      exact hf
    rw [upd_ne af, upd_same]
    simp! only [T.cl_Store, T.no_Store_room, T.no_Store_entries, T.no_Store_words, T.no_Store__places, T.no_Store__free, T.no_Store__fresh]
    refine ⟨by decide, by decide, ?_⟩
    refine k w d f _ hw0 hd0 hf0 wf upd_same ?_ ?_ ?_ ?_
    · rw [upd_ne (Ne.symm aw), upd_ne wf, upd_ne (Ne.symm aw), upd_ne wd, upd_ne (Ne.symm aw), upd_same]
    · rw [upd_ne (Ne.symm ad), upd_ne df, upd_ne (Ne.symm ad), upd_same]
    · rw [upd_ne (Ne.symm af), upd_same]
    · intro b b1 b2 b3 b4
      rw [upd_ne b1, upd_ne b4, upd_ne b1, upd_ne b3, upd_ne b1, upd_ne b2, upd_ne b1]
end

def sp_used (A : Ad) : Sp := fun vs H Q _ => ∃ a dx w d f rm en ws kvs fr fs F, vs = [.ref a] ∧ Si A H a dx w d f rm en ws kvs fr fs F ∧ Q (.int ws.length) H
theorem sp_used_len {A vs H Q E} (h : sp_used A vs H Q E) : vs.length = (["self"] : List Str).length := by
  obtain ⟨_, _, _, _, _, _, _, _, _, _, _, _, rfl, _⟩ := h
  rfl
theorem used_of {A : Ad} {H : Hp} {a : Addr} {rm en : Int} {row : List OB} {F : Hp} {Q : VK} {E : XK} (S : St A H a rm en row F) (k : Q (.int (flat row).length) H) : sp_used A [.ref a] H Q E := by
  obtain ⟨dx, w, d, f, ws, kvs, fr, fs, I, R⟩ := S
  exact ⟨a, dx, w, d, f, rm, en, ws, kvs, fr, fs, F, rfl, I, by rw [R.ws]; exact k⟩
section
variable {P : Program} {w : World} {K : PySem.W.Frag} {mg : Str → Option Value} {base : Heap} {A : Ad}
theorem ok_Store_used (T : Txt K mg A) : FnOk P w K mg base CX0 1 A.f_Store_used A.d_Store_used ["self"] (sp_used A) := by
  refine Fun.ok T.F_Store_used sc_Store_used (fun vs H Q E h => ?_) (fun cdv Ar outer s H vs Q E hr h => ?_)
  · exact sp_used_len h
  · have hu := hu_of hr
    refine ⟨_, (pss_one (ps_ret (pe_callB call_lenM (by rfl) T.z_len PySem.boot_len (pa_cons (pe_fld (pv 0) rfl) pa_nil)))), ?_⟩
    obtain ⟨a, dx, w, d, f, rm, en, ws, kvs, fr, fs, F, rfl, I, k⟩ := h
    simp_all! only [I.ho, I.hw, I.hd, I.hf, List.length_map]
    exact k
end

def sp_exists (A : Ad) : Sp := fun vs H Q _ => ∃ a rm en row F n, vs = [.ref a, .int n] ∧ St A H a rm en row F ∧ Q (.bl (decide (n ∈ nums row))) H
theorem sp_exists_len {A vs H Q E} (h : sp_exists A vs H Q E) : vs.length = (["self", "number"] : List Str).length := by
  obtain ⟨_, _, _, _, _, _, rfl, _⟩ := h
  rfl
section
variable {P : Program} {w : World} {K : PySem.W.Frag} {mg : Str → Option Value} {base : Heap} {A : Ad}
theorem ok_Store_exists (T : Txt K mg A) : FnOk P w K mg base CX0 1 A.f_Store_exists A.d_Store_exists ["self", "number"] (sp_exists A) := by
  refine Fun.ok T.F_Store_exists sc_Store_exists (fun vs H Q E h => ?_) (fun cdv Ar outer s H vs Q E hr h => ?_)
  · exact sp_exists_len h
  · have hu := hu_of hr
    refine ⟨_, (pss_one (ps_ret (pe_cmpR (op_dinM hu) (pv 1) (pe_fld (pv 0) rfl) (by rfl)))), ?_⟩
    obtain ⟨a, rm, en, row, F, n, rfl, ⟨dx, w, d, f, ws, kvs, fr, fs, I, R⟩, k⟩ := h
    simp_all! only [I.ho, I.hw, I.hd, I.hf, List.length_map]
    rw [R.pk.1, Option.isSome_map, pos_some]
    exact k
end

def sp_numbers (A : Ad) : Sp := fun vs H Q _ => ∃ a rm en row F, vs = [.ref a] ∧ St A H a rm en row F ∧ ∀ (ys : List Int) (p : Addr), ys.Perm (nums row) → ys.Pairwise (· ≤ ·) → H p = none → Q (.ref p) (upd H p (.lst (ys.map V.int)))
theorem sp_numbers_len {A vs H Q E} (h : sp_numbers A vs H Q E) : vs.length = (["self"] : List Str).length := by
  obtain ⟨_, _, _, _, _, rfl, _⟩ := h
  rfl
section
variable {P : Program} {w : World} {K : PySem.W.Frag} {mg : Str → Option Value} {base : Heap} {A : Ad}
theorem ok_Store_numbers (T : Txt K mg A) : FnOk P w K mg base CX0 1 A.f_Store_numbers A.d_Store_numbers ["self"] (sp_numbers A) := by
  refine Fun.ok T.F_Store_numbers sc_Store_numbers (fun vs H Q E h => ?_) (fun cdv Ar outer s H vs Q E hr h => ?_)
  · exact sp_numbers_len h
  · have hu := hu_of hr
    refine ⟨_, (pss_one (ps_ret (pe_callB (call_sortD rfl) (by rfl) T.z_sorted (by decide +kernel) (pa_cons (pe_fld (pv 0) rfl) pa_nil)))), ?_⟩
    obtain ⟨a, rm, en, row, F, rfl, ⟨dx, w, d, f, ws, kvs, fr, fs, I, R⟩, k⟩ := h
    simp_all! only [I.ho, I.hw, I.hd, I.hf, List.length_map]
    obtain ⟨_, ks, h1, h2⟩ := R.pk
    exact ⟨ks, h1, fun ys p h3 h4 h5 => k ys p (h3.trans h2) h4 h5⟩
end

def sp_free (A : Ad) : Sp := fun vs H Q E => ∃ a rm en row F, vs = [.ref a] ∧ St A H a rm en row F ∧ ∀ n, IsFree row n → (n < en → Q (.int n) H) ∧ (en ≤ n → ∀ dd, H dd = none → E (.ref A.C_NoNumber) (some dd) (upd H dd (.xd [("limit", .int en)])))
theorem sp_free_len {A vs H Q E} (h : sp_free A vs H Q E) : vs.length = (["self"] : List Str).length := by
  obtain ⟨_, _, _, _, _, rfl, _⟩ := h
  rfl
section
variable {P : Program} {w : World} {K : PySem.W.Frag} {mg : Str → Option Value} {base : Heap} {A : Ad}
theorem ok_Store_free_number (T : Txt K mg A) : FnOk P w K mg base (L2N.CX P w) 3 A.f_Store_free_number A.d_Store_free_number ["self"] (sp_free A) := by
  refine okN T.F_Store_free_number sc_Store_free_number (fun vs H Q E h => ?_) (fun cdv Ar outer s H vs Q E hr h => ?_)
  · exact sp_free_len h
  · have hu := hu_of hr
    refine ⟨_, (pss_cons (ps_if (pt_truth (pe_fld (pv 0) rfl) (by intro _; rfl)) (pss_one (ps_ret (pe_ix ix_lstM (pe_fld (pv 0) rfl) pe_int (fun _ _ => rfl)))) pss_nil)
    (pss_cons (ps_if (pt_cmpR op_ge (pe_fld (pv 0) rfl) (pe_fld (pv 0) rfl) (nomark _)) (pss_one (ps_rz1 rfl T.x_NoNumber (ok_NoNumber___init__ T) (hr.mono (by decide)) T.b_NoNumber___init__ (L2N.takes_of rfl rfl rfl rfl) (by rfl) T.m_NoNumber (pa_cons (pe_fld (pv 0) rfl) pa_nil))) pss_nil)
    (pss_one (ps_ret (pe_fld (pv 0) rfl))))), ?_⟩
    obtain ⟨a, rm, en, row, F, rfl, ⟨dx, w, d, f, ws, kvs, fr, fs, I, R⟩, k⟩ := h
    simp_all! only [I.ho, I.hw, I.hd, I.hf, List.length_map]
    refine ⟨!(fr.map V.int).isEmpty, .inl ⟨_, .inl (.inl I.hf), rfl⟩, ?_⟩
    cases fr with
    | nil =>
      obtain ⟨k1, k2⟩ := k fs R.free_nil
      simp only [List.map_nil, List.isEmpty_nil, Bool.not_true, Bool.false_eq_true, if_false]
      refine ite2 (fun c => k2 c) (fun c => k1 (by omega))
    | cons x fr =>
      obtain ⟨k1, k2⟩ := k x R.free_hd.1
      simp only [List.map_cons, List.isEmpty_cons, Bool.not_false, if_true]
      exact ⟨_, atI_0, k1 R.free_hd.2⟩
end

def sp_alloc (A : Ad) : Sp := fun vs H Q E => ∃ (a : Addr) (rm en : Int) (row : List OB) (F : Hp) (kd : Int) (m : Nat), vs = [.ref a, .int kd, .int (m : Int)] ∧ St A H a rm en row F ∧ (flat row).length + (3 + m) ≤ 100000 ∧
  (rm < ((flat row).length : Int) + (3 + (m : Int)) → ∀ dd, H dd = none → E (.ref A.C_NoRoom) (some dd) (upd H dd (.xd [("need", .int (3 + (m : Int)))]))) ∧
  (((flat row).length : Int) + (3 + (m : Int)) ≤ rm → ∀ n, IsFree row n → (en ≤ n → ∀ dd, H dd = none → E (.ref A.C_NoNumber) (some dd) (upd H dd (.xd [("limit", .int en)]))) ∧
    (n < en → ∀ H', St A H' a rm en (row ++ [⟨n, kd, List.replicate m 0, true⟩]) F → Q (.int n) H'))
theorem sp_alloc_len {A vs H Q E} (h : sp_alloc A vs H Q E) : vs.length = (["self", "kind", "size"] : List Str).length := by
  obtain ⟨_, _, _, _, _, _, _, rfl, _⟩ := h
  rfl
section
variable {P : Program} {w : World} {K : PySem.W.Frag} {mg : Str → Option Value} {base : Heap} {A : Ad}
theorem ok_Store_allocate (T : Txt K mg A) : FnOk P w K mg base (L2N.CX P w) 4 A.f_Store_allocate A.d_Store_allocate ["self", "kind", "size"] (sp_alloc A) := by
  refine okN T.F_Store_allocate sc_Store_allocate (fun vs H Q E h => ?_) (fun cdv Ar outer s H vs Q E hr h => ?_)
  · exact sp_alloc_len h
  · have hu := hu_of hr
    refine ⟨_, (pss_cons (ps_asg (pe_op op_add (pe_glob (v := .int (3)) (by rfl) T.c_HEADER ⟨_, rfl⟩) (pv 2)) (pg_name (i := 3) sc_Store_allocate.nd rfl (Or.inl rfl)))
    (pss_cons (ps_if (pt_cmpR op_gt (pe_op op_add (pe_meth0 (pv 0) T.cl_Store T.me_Store_used (ok_Store_used T) (hr.mono (by decide)) T.b_Store_used .nil pass0) (pv 3)) (pe_fld (pv 0) rfl) (nomark _)) (pss_one (ps_rz1 rfl T.x_NoRoom (ok_NoRoom___init__ T) (hr.mono (by decide)) T.b_NoRoom___init__ (L2N.takes_of rfl rfl rfl rfl) (by rfl) T.m_NoRoom (pa_cons (pv 3) pa_nil))) pss_nil)
    (pss_cons (ps_asg (pe_methE0 (pv 0) T.cl_Store T.me_Store_free_number (ok_Store_free_number T) (hr.mono (by decide)) T.b_Store_free_number (fun σ => L2N.passAt (L2N.takes_of rfl rfl rfl rfl) σ)) (pg_name (i := 4) sc_Store_allocate.nd rfl (Or.inl rfl)))
    (Evl.pss_cut (ps_if (pt_truth (pe_fld (pv 0) rfl) (by intro _; rfl)) (pss_one (ps_expr (StS.pe_callG call_popH (by rfl) T.h_heappop (pa_cons (pe_fld (pv 0) rfl) pa_nil)))) (pss_one (ps_fld (pv 0) (pe_op op_add (pv 4) pe_int) rfl)))
    (pss_cons (ps_asg (pe_meth0 (pv 0) T.cl_Store T.me_Store_used (ok_Store_used T) (hr.mono (by decide)) T.b_Store_used .nil pass0) (pg_sub (pe_fld (pv 0) rfl) (pv 4) (set_dictM hu)))
    (pss_cons (ps_expr (pe_bmM PySem.F.slot_list_extend PySem.F.type_list_extend mt_extend (pe_fld (pv 0) rfl) (pa_cons (pe_op op_cat (pe_lst (pa_cons (pv 4) (pa_cons (pv 2) (pa_cons (pv 1) pa_nil)))) (pe_op op_rep (pe_lst (pa_cons (pe_glob (v := .int (0)) (by rfl) T.c_NIL ⟨_, rfl⟩) pa_nil)) (pv 2))) pa_nil)))
    (pss_one (ps_ret (pv 4))))))))), ?_⟩
    obtain ⟨a, rm, en, row, F, kd, m, rfl, S, hz, k1, k2⟩ := h
    have S0 := S
    obtain ⟨dx, w, d, f, ws, kvs, fr, fs, I, R⟩ := S
    have sz : (200000 : Nat) ≤ sizeLine := by decide
    have p63 : (100000 : Int) < 2 ^ 63 := by decide
    simp_all! only [I.ho, I.hw, I.hd, I.hf, List.length_map]
    refine used_of S0 ?_
    simp_all! only [I.ho, I.hw, I.hd, I.hf, List.length_map]
    refine ite2 (fun c => k1 (by omega)) (fun c => ?_)
    have k3 := k2 (by omega)
    refine ⟨a, rm, en, row, F, rfl, S0, fun n hn => ⟨fun c2 => ?_, fun c2 => (k3 n hn).1 c2⟩⟩
    have k4 := (k3 n hn).2 c2
    refine ⟨fun σ2 H2 => σ2 = [some (V.ref a), some (V.int kd), some (V.int m), some (V.int (3 + m)), some (V.int n)] ∧ ∃ fr' fs', Si A H2 a dx w d f rm en ws kvs fr' fs' F ∧ fr'.Nodup ∧ (∀ x, x ∈ fr' ↔ 0 ≤ x ∧ x < fs' ∧ x ∉ nums row ∧ x ≠ n) ∧ HpL fr' ∧ n < fs' ∧ fs ≤ fs' ∧ fs' ≤ en, ?_, ?_⟩
    · simp_all! only [I.ho, I.hw, I.hd, I.hf, List.length_map]
      refine ⟨!(fr.map V.int).isEmpty, .inl ⟨_, .inl (.inl I.hf), rfl⟩, ?_⟩
      cases fr with
      | nil =>
        have e := hn.uniq R.free_nil
        subst e
        simp only [List.map_nil, List.isEmpty_nil, Bool.not_true, Bool.false_eq_true, if_false]
        refine ⟨by decide, [], n + 1, I.fresh _, List.nodup_nil, fun x => ?_, HpL.nil, by omega, by omega, by omega⟩
        constructor
        · intro h
          cases h
        · rintro ⟨x0, x1, x2, x3⟩
          exact absurd ((R.fm x).mpr ⟨x0, by omega, x2⟩) (by simp)
      | cons x fr =>
        have e := hn.uniq R.free_hd.1
        subst e
        simp only [List.map_cons, List.isEmpty_cons, Bool.not_false, if_true]
        have fl := R.frl
        refine ⟨n, fr, rfl, by simp at fl; omega, fun ys hp hh => ?_⟩
        have nd := List.nodup_cons.mp R.fn
        refine ⟨ys, fs, I.free ys, hp.nodup_iff.mpr nd.2, fun x => ?_, hh R.hp, ?_, Int.le_refl _, R.fe⟩
        · rw [hp.mem_iff]
          have := R.fm x
          rw [List.mem_cons] at this
          constructor
          · intro hx
            have q := this.mp (.inr hx)
            exact ⟨q.1, q.2.1, q.2.2, fun e => nd.1 (e ▸ hx)⟩
          · rintro ⟨x0, x1, x2, x3⟩
            rcases this.mpr ⟨x0, x1, x2⟩ with e | h
            · exact absurd e x3
            · exact h
        · exact ((R.fm n).mp (List.mem_cons_self ..)).2.1
    · rintro σ2 H2 ⟨rfl, fr', fs', J, n1, n2, n3, n4, n5, n6⟩
      simp_all! only [J.ho, J.hw, J.hd, J.hf, List.length_map]
      refine ⟨a, dx, w, d, f, rm, en, ws, kvs, fr', fs', F, rfl, J, ?_⟩
      have kl := R.kvl
      have e1 : (List.replicate m [V.int 0]).flatten.length = m := by rw [rep0, List.length_map, List.length_replicate]
      have J2 := J.places (putK kvs (Sum.inl n) (.int (ws.length : Int)))
      simp_all! only [J.ho, J.hw, J.hd, J.hf, List.length_map]
      refine ⟨by omega, ?_⟩
      simp_all! only [J2.ho, J2.hw, J2.hd, J2.hf, Int.toNat_natCast, List.length_map]
      refine ⟨by omega, fun p hp => ⟨by omega, fun p1 h1 => ⟨by omega, by omega, by omega, fun p2 h2 => ?_⟩⟩⟩
      have g1 := ne_of_none upd_same h1
      have g2 := ne_of_none (by rw [upd_ne g1, upd_same]) h2
      refine ⟨_, by rw [upd_ne g2, upd_ne g1, upd_same], by rw [e1]; simp; omega, fun p3 h3 => ?_⟩
      have J5 := (((J2.same (same_new hp)).same (same_new h1)).same (same_new h2)).same (same_new (o := .lst ([V.int n, V.int m, V.int kd] ++ (List.replicate m [V.int 0]).flatten)) h3)
      have hz2 : ws.length + (3 + m) ≤ 100000 := by rw [R.ws]; exact hz
      refine ⟨_, J5.hw, by rw [List.length_append, e1, List.length_map]; simp; omega, ?_⟩
      have ee : ws.map V.int ++ ([V.int n, V.int m, V.int kd] ++ (List.replicate m [V.int 0]).flatten) = (ws ++ flatO ⟨n, kd, List.replicate m 0, true⟩).map V.int := by
        rw [rep0, List.map_append, flatO]
        simp
      rw [ee]
      refine k4 _ ⟨dx, w, d, f, _, _, _, _, J5.words _, ?_⟩
      have := R.add (o := ⟨n, kd, List.replicate m 0, true⟩) rfl hn.2.1 (by rw [List.length_replicate]; exact hz) n1 n2 n3 ⟨hn.1, n4⟩ n5 n6
      rw [R.ws] at this ⊢
      exact this
end

def sp_size (A : Ad) : Sp := fun vs H Q _ => ∃ a rm en row F n o, vs = [.ref a, .int n] ∧ St A H a rm en row F ∧ getO row n = some o ∧ Q (.int (o.sl.length : Int)) H
theorem sp_size_len {A vs H Q E} (h : sp_size A vs H Q E) : vs.length = (["self", "number"] : List Str).length := by
  obtain ⟨_, _, _, _, _, _, _, rfl, _⟩ := h
  rfl
section
variable {P : Program} {w : World} {K : PySem.W.Frag} {mg : Str → Option Value} {base : Heap} {A : Ad}
theorem ok_Store_size (T : Txt K mg A) : FnOk P w K mg base CX0 1 A.f_Store_size A.d_Store_size ["self", "number"] (sp_size A) := by
  refine Fun.ok T.F_Store_size sc_Store_size (fun vs H Q E h => ?_) (fun cdv Ar outer s H vs Q E hr h => ?_)
  · exact sp_size_len h
  · have hu := hu_of hr
    refine ⟨_, (pss_one (ps_ret (pe_ix ix_lstM (pe_fld (pv 0) rfl) (pe_op op_add (pe_ix (ix_dictM hu) (pe_fld (pv 0) rfl) (pv 1) (fun _ _ => rfl)) pe_int) (fun _ _ => rfl)))), ?_⟩
    obtain ⟨a, rm, en, row, F, n, o, rfl, ⟨dx, w, d, f, ws, kvs, fr, fs, I, R⟩, ho, k⟩ := h
    obtain ⟨i, p1, p2, p3, p4, p5, p6⟩ := word_at ho
    have hv : valV kvs (Sum.inl n) = some (.int (i : Int)) := by rw [R.pk.1, p1]; rfl
    have hat : atI (ws.map V.int) ((i : Int) + 1) = some (.int (o.sl.length : Int)) := by
      rw [show (i : Int) + 1 = ((i + 1 : Nat) : Int) by omega]
      exact atI_nat (by rw [R.ws, List.getElem?_map, p4]; rfl)
    simp_all! only [I.ho, I.hw, I.hd, I.hf, List.length_map, hv, hat]
    exact k
end

def sp_kind (A : Ad) : Sp := fun vs H Q _ => ∃ a rm en row F n o, vs = [.ref a, .int n] ∧ St A H a rm en row F ∧ getO row n = some o ∧ Q (.int o.kind) H
theorem sp_kind_len {A vs H Q E} (h : sp_kind A vs H Q E) : vs.length = (["self", "number"] : List Str).length := by
  obtain ⟨_, _, _, _, _, _, _, rfl, _⟩ := h
  rfl
section
variable {P : Program} {w : World} {K : PySem.W.Frag} {mg : Str → Option Value} {base : Heap} {A : Ad}
theorem ok_Store_kind (T : Txt K mg A) : FnOk P w K mg base CX0 1 A.f_Store_kind A.d_Store_kind ["self", "number"] (sp_kind A) := by
  refine Fun.ok T.F_Store_kind sc_Store_kind (fun vs H Q E h => ?_) (fun cdv Ar outer s H vs Q E hr h => ?_)
  · exact sp_kind_len h
  · have hu := hu_of hr
    refine ⟨_, (pss_one (ps_ret (pe_ix ix_lstM (pe_fld (pv 0) rfl) (pe_op op_add (pe_ix (ix_dictM hu) (pe_fld (pv 0) rfl) (pv 1) (fun _ _ => rfl)) pe_int) (fun _ _ => rfl)))), ?_⟩
    obtain ⟨a, rm, en, row, F, n, o, rfl, ⟨dx, w, d, f, ws, kvs, fr, fs, I, R⟩, ho, k⟩ := h
    obtain ⟨i, p1, p2, p3, p4, p5, p6⟩ := word_at ho
    have hv : valV kvs (Sum.inl n) = some (.int (i : Int)) := by rw [R.pk.1, p1]; rfl
    have hat : atI (ws.map V.int) ((i : Int) + 2) = some (.int o.kind) := by
      rw [show (i : Int) + 2 = ((i + 2 : Nat) : Int) by omega]
      exact atI_nat (by rw [R.ws, List.getElem?_map, p5]; rfl)
    simp_all! only [I.ho, I.hw, I.hd, I.hf, List.length_map, hv, hat]
    exact k
end

def sp_get (A : Ad) : Sp := fun vs H Q _ => ∃ a rm en row F n o, ∃ (j : Nat) (v : Int), vs = [.ref a, .int n, .int (j : Int)] ∧ St A H a rm en row F ∧ getO row n = some o ∧ o.sl[j]? = some v ∧ Q (.int v) H
theorem sp_get_len {A vs H Q E} (h : sp_get A vs H Q E) : vs.length = (["self", "number", "at"] : List Str).length := by
  obtain ⟨_, _, _, _, _, _, _, _, _, rfl, _⟩ := h
  rfl
section
variable {P : Program} {w : World} {K : PySem.W.Frag} {mg : Str → Option Value} {base : Heap} {A : Ad}
theorem ok_Store_get (T : Txt K mg A) : FnOk P w K mg base CX0 1 A.f_Store_get A.d_Store_get ["self", "number", "at"] (sp_get A) := by
  refine Fun.ok T.F_Store_get sc_Store_get (fun vs H Q E h => ?_) (fun cdv Ar outer s H vs Q E hr h => ?_)
  · exact sp_get_len h
  · have hu := hu_of hr
    refine ⟨_, (pss_one (ps_ret (pe_ix ix_lstM (pe_fld (pv 0) rfl) (pe_op op_add (pe_op op_add (pe_ix (ix_dictM hu) (pe_fld (pv 0) rfl) (pv 1) (fun _ _ => rfl)) (pe_glob (v := .int (3)) (by rfl) T.c_HEADER ⟨_, rfl⟩)) (pv 2)) (fun _ _ => rfl)))), ?_⟩
    obtain ⟨a, rm, en, row, F, n, o, j, v, rfl, ⟨dx, w, d, f, ws, kvs, fr, fs, I, R⟩, ho, hj, k⟩ := h
    obtain ⟨i, p1, p2, p3, p4, p5, p6⟩ := word_at ho
    have hv : valV kvs (Sum.inl n) = some (.int (i : Int)) := by rw [R.pk.1, p1]; rfl
    have hlt := (List.getElem?_eq_some_iff.mp hj).1
    have hat : atI (ws.map V.int) ((i : Int) + 3 + (j : Int)) = some (.int v) := by
      rw [show (i : Int) + 3 + (j : Int) = ((i + (3 + j) : Nat) : Int) by omega]
      exact atI_nat (by rw [R.ws, List.getElem?_map, p6 j hlt, hj]; rfl)
    simp_all! only [I.ho, I.hw, I.hd, I.hf, List.length_map, hv, hat]
    exact k
end

def sp_put (A : Ad) : Sp := fun vs H Q _ => ∃ a rm en row F n o, ∃ (j : Nat) (v : Int), vs = [.ref a, .int n, .int (j : Int), .int v] ∧ St A H a rm en row F ∧ getO row n = some o ∧ j < o.sl.length ∧ ∀ H', St A H' a rm en (putO row n j v) F → Q .non H'
theorem sp_put_len {A vs H Q E} (h : sp_put A vs H Q E) : vs.length = (["self", "number", "at", "word"] : List Str).length := by
  obtain ⟨_, _, _, _, _, _, _, _, _, rfl, _⟩ := h
  rfl
section
variable {P : Program} {w : World} {K : PySem.W.Frag} {mg : Str → Option Value} {base : Heap} {A : Ad}
theorem ok_Store_put (T : Txt K mg A) : FnOk P w K mg base CX0 1 A.f_Store_put A.d_Store_put ["self", "number", "at", "word"] (sp_put A) := by
  refine Fun.ok T.F_Store_put sc_Store_put (fun vs H Q E h => ?_) (fun cdv Ar outer s H vs Q E hr h => ?_)
  · exact sp_put_len h
  · have hu := hu_of hr
    refine ⟨_, (pss_one (ps_asg (pv 3) (pg_sub (pe_fld (pv 0) rfl) (pe_op op_add (pe_op op_add (pe_ix (ix_dictM hu) (pe_fld (pv 0) rfl) (pv 1) (fun _ _ => rfl)) (pe_glob (v := .int (3)) (by rfl) T.c_HEADER ⟨_, rfl⟩)) (pv 2)) set_lstM))), ?_⟩
    obtain ⟨a, rm, en, row, F, n, o, j, v, rfl, ⟨dx, w, d, f, ws, kvs, fr, fs, I, R⟩, ho, hj, k⟩ := h
    obtain ⟨i, p1, p2, p3, p4, p5, p6⟩ := word_at ho
    have hv : valV kvs (Sum.inl n) = some (.int (i : Int)) := by rw [R.pk.1, p1]; rfl
    have hset : setI (ws.map V.int) ((i : Int) + 3 + (j : Int)) (.int v) = some ((ws.set (i + (3 + j)) v).map V.int) := by
      rw [show (i : Int) + 3 + (j : Int) = ((i + (3 + j) : Nat) : Int) by omega]
      rw [setI_nat (by rw [List.length_map, R.ws]; omega), List.map_set]
    simp_all! only [I.ho, I.hw, I.hd, I.hf, List.length_map, hv, hset]
    exact k _ ⟨dx, w, d, f, _, _, _, _, I.words _, R.put ho p1 hj⟩
end

def sp_slots (A : Ad) : Sp := fun vs H Q _ => ∃ a rm en row F n o, vs = [.ref a, .int n] ∧ St A H a rm en row F ∧ getO row n = some o ∧ ∀ p, H p = none → Q (.ref p) (upd H p (.lst (o.sl.map V.int)))
theorem sp_slots_len {A vs H Q E} (h : sp_slots A vs H Q E) : vs.length = (["self", "number"] : List Str).length := by
  obtain ⟨_, _, _, _, _, _, _, rfl, _⟩ := h
  rfl
section
variable {P : Program} {w : World} {K : PySem.W.Frag} {mg : Str → Option Value} {base : Heap} {A : Ad}
theorem ok_Store_slots (T : Txt K mg A) : FnOk P w K mg base CX0 2 A.f_Store_slots A.d_Store_slots ["self", "number"] (sp_slots A) := by
  refine Fun.ok T.F_Store_slots sc_Store_slots (fun vs H Q E h => ?_) (fun cdv Ar outer s H vs Q E hr h => ?_)
  · exact sp_slots_len h
  · have hu := hu_of hr
    refine ⟨_, (pss_cons (ps_asg (pe_op op_add (pe_ix (ix_dictM hu) (pe_fld (pv 0) rfl) (pv 1) (fun _ _ => rfl)) (pe_glob (v := .int (3)) (by rfl) T.c_HEADER ⟨_, rfl⟩)) (pg_name (i := 2) sc_Store_slots.nd rfl (Or.inl rfl)))
    (pss_one (ps_ret (pe_slice sl_listM (pe_fld (pv 0) rfl) (po_some (pv 2)) (po_some (pe_op op_add (pv 2) (pe_meth (pv 0) T.cl_Store T.me_Store_size (ok_Store_size T) (hr.mono (by decide)) T.b_Store_size .nil pass0 (pa_cons (pv 1) pa_nil)))))))), ?_⟩
    obtain ⟨a, rm, en, row, F, n, o, rfl, S, ho, k⟩ := h
    have S0 := S
    obtain ⟨dx, w, d, f, ws, kvs, fr, fs, I, R⟩ := S
    obtain ⟨i, p1, p2, p3, p4, p5, p6⟩ := word_at ho
    have hv : valV kvs (Sum.inl n) = some (.int (i : Int)) := by rw [R.pk.1, p1]; rfl
    simp_all! only [I.ho, I.hw, I.hd, I.hf, List.length_map, hv]
    refine ⟨a, rm, en, row, F, n, o, rfl, S0, ho, ?_⟩
    have e : cutV (ws.map V.int) (some ((i : Int) + 3)) (some ((i : Int) + 3 + (o.sl.length : Int))) = o.sl.map V.int := by
      rw [show (i : Int) + 3 = ((i + 3 : Nat) : Int) by omega, show ((i + 3 : Nat) : Int) + (o.sl.length : Int) = ((i + 3 + o.sl.length : Nat) : Int) by omega, cutV_mid, R.ws, ← List.map_drop, ← List.map_take, show i + 3 + o.sl.length - (i + 3) = o.sl.length by omega, slots_at ho p1]
      · omega
      · rw [List.length_map, R.ws]
        omega
    simp_all! only [I.ho, I.hw, I.hd, I.hf, List.length_map, hv, e]
    exact k
end

def sp_drop (A : Ad) : Sp := fun vs H Q _ => ∃ a rm en row F n, vs = [.ref a, .int n] ∧ St A H a rm en row F ∧ n ∈ nums row ∧ ∀ H', St A H' a rm en (dropO row n) F → Q .non H'
theorem sp_drop_len {A vs H Q E} (h : sp_drop A vs H Q E) : vs.length = (["self", "number"] : List Str).length := by
  obtain ⟨_, _, _, _, _, _, rfl, _⟩ := h
  rfl
section
variable {P : Program} {w : World} {K : PySem.W.Frag} {mg : Str → Option Value} {base : Heap} {A : Ad}
theorem ok_Store_drop (T : Txt K mg A) : FnOk P w K mg base CX0 1 A.f_Store_drop A.d_Store_drop ["self", "number"] (sp_drop A) := by
  refine Fun.ok T.F_Store_drop sc_Store_drop (fun vs H Q E h => ?_) (fun cdv Ar outer s H vs Q E hr h => ?_)
  · exact sp_drop_len h
  · have hu := hu_of hr
    refine ⟨_, (pss_cons (ps_ddel (pe_fld (pv 0) rfl) (pv 1))
    (pss_one (ps_expr (StS.pe_callG call_push (by rfl) T.h_heappush (pa_cons (pe_fld (pv 0) rfl) (pa_cons (pv 1) pa_nil)))))), ?_⟩
    obtain ⟨a, rm, en, row, F, n, rfl, ⟨dx, w, d, f, ws, kvs, fr, fs, I, R⟩, hn, k⟩ := h
    simp_all! only [I.ho, I.hw, I.hd, I.hf, List.length_map]
    have J := I.places (dropK kvs (Sum.inl n))
    refine ⟨Sum.inl n, rfl, ?_, ?_⟩
    · rw [R.pk.1, Option.isSome_map, pos_some]
      exact decide_eq_true hn
    · simp_all! only [J.ho, J.hw, J.hd, J.hf, List.length_map]
      have fl := R.frl
      refine ⟨fr, rfl, fl, fun ys hp hh => ?_⟩
      exact k _ ⟨dx, w, d, f, _, _, _, _, J.free ys, R.drop hn hp (hh R.hp)⟩
end

def sp_close (A : Ad) : Sp := fun vs H Q _ => ∃ a rm en row F, vs = [.ref a] ∧ St A H a rm en row F ∧ ∀ H', St A H' a rm en (row.filter (·.al)) F → Q .non H'
theorem sp_close_len {A vs H Q E} (h : sp_close A vs H Q E) : vs.length = (["self"] : List Str).length := by
  obtain ⟨_, _, _, _, _, rfl, _⟩ := h
  rfl
/-- closing up, under way: the first i objects have been looked at -/
structure Cl (A : Ad) (H : Hp) (H0 : Hp) (a dx w d f : Addr) (rm en : Int) (ws : List Int) (kvs : List (Key × V)) (fr : List Int) (fs : Int) (F : Hp) (p pd : Addr) (row : List OB) (i : Nat) (kvs' : List (Key × V)) : Prop where
  st : Si A H a dx w d f rm en ws kvs fr fs F
  hp : H p = some (.lst ((flat ((row.take i).filter (·.al))).map V.int))
  hd : H pd = some (.dK kvs')
  pk : PK kvs' ((row.take i).filter (·.al))
  n1 : H0 p = none
  n2 : H0 pd = none
section
variable {P : Program} {w : World} {K : PySem.W.Frag} {mg : Str → Option Value} {base : Heap} {A : Ad}
theorem ok_Store_close_up (T : Txt K mg A) : FnOk P w K mg base CX0 1 A.f_Store_close_up A.d_Store_close_up ["self"] (sp_close A) := by
  refine Fun.ok T.F_Store_close_up sc_Store_close_up (fun vs H Q E h => ?_) (fun cdv Ar outer s H vs Q E hr h => ?_)
  · exact sp_close_len h
  · have hu := hu_of hr
    refine ⟨_, (pss_cons (ps_asg (pe_lst pa_nil) (pg_name (i := 1) sc_Store_close_up.nd rfl (Or.inl rfl)))
    (pss_cons (ps_asg pe_dnewK (pg_name (i := 2) sc_Store_close_up.nd rfl (Or.inl rfl)))
    (pss_cons (ps_asg pe_int (pg_name (i := 3) sc_Store_close_up.nd rfl (Or.inl rfl)))
    (pss_cons (ps_while PassesOwn.never (pt_cmpR op_lt (pv 3) (pe_callB call_lenM (by rfl) T.z_len PySem.boot_len (pa_cons (pe_fld (pv 0) rfl) pa_nil)) (nomark _)) (pss_cons (ps_asg (pe_ix ix_lstM (pe_fld (pv 0) rfl) (pv 3) (fun _ _ => rfl)) (pg_name (i := 4) sc_Store_close_up.nd rfl (Or.inl rfl)))
    (pss_cons (ps_asg (pe_op op_add (pe_op op_add (pv 3) (pe_glob (v := .int (3)) (by rfl) T.c_HEADER ⟨_, rfl⟩)) (pe_ix ix_lstM (pe_fld (pv 0) rfl) (pe_op op_add (pv 3) pe_int) (fun _ _ => rfl))) (pg_name (i := 5) sc_Store_close_up.nd rfl (Or.inl rfl)))
    (Evl.pss_cut (ps_if (pt_cmpR op_eq (pe_dgetM hu (pe_fld (pv 0) rfl) (pv 4) ⟨by rfl, by rfl, by rfl, by rfl⟩) (pv 3) (nomark _)) (pss_cons (ps_asg (pe_callB call_lenM (by rfl) T.z_len PySem.boot_len (pa_cons (pv 1) pa_nil)) (pg_sub (pv 2) (pv 4) (set_dictM hu)))
    (pss_one (ps_expr (pe_bmM PySem.F.slot_list_extend PySem.F.type_list_extend mt_extend (pv 1) (pa_cons (pe_slice sl_listM (pe_fld (pv 0) rfl) (po_some (pv 3)) (po_some (pv 5))) pa_nil))))) pss_nil)
    (pss_one (ps_asg (pv 5) (pg_name (i := 3) sc_Store_close_up.nd rfl (Or.inl rfl))))))))
    (pss_cons (ps_asg (pv 1) (pg_all (pe_fld (pv 0) rfl)))
    (pss_one (ps_fld (pv 0) (pv 2) rfl))))))), ?_⟩
    obtain ⟨a, rm, en, row, F, rfl, ⟨dx, w, d, f, ws, kvs, fr, fs, I, R⟩, k⟩ := h
    simp_all! only [I.ho, I.hw, I.hd, I.hf, List.length_map]
    refine ⟨Nat.zero_le _, fun p hp => ?_⟩
    intro pd hpd
    have ppd : p ≠ pd := ne_of_none upd_same hpd
    have hpd0 : H pd = none := by
      rw [upd_ne (Ne.symm ppd)] at hpd
      exact hpd
    have J0 : Cl A (upd (upd H p (.lst [])) pd (.dK [])) H a dx w d f rm en ws kvs fr fs F p pd row 0 [] :=
      ⟨(I.same (same_new hp)).same (same_new hpd), by rw [upd_ne ppd, upd_same]; rfl, upd_same, PK.nil, hp, hpd0⟩
    have op := I.part hp
    have od := I.part hpd0
    have Fp := I.out hp
    have Fd := I.out hpd0
    have rl := flat_rows row
    have rz := R.sz
    have sz : (300000 : Nat) ≤ sizeLine := by decide
    refine ⟨fun m σ2 H2 => ∃ (i : Nat) (kvs' : List (Key × V)) (x y : Option V), σ2 = [some (V.ref a), some (V.ref p), some (V.ref pd), some (V.int (flat (row.take i)).length), x, y] ∧ i ≤ row.length ∧ m = row.length - i ∧ Cl A H2 H a dx w d f rm en ws kvs fr fs F p pd row i kvs', ⟨_, 0, [], none, none, rfl, Nat.zero_le _, rfl, J0⟩, ?_⟩
    rintro m σ2 H2 ⟨i, kvs', x, y, rfl, hi, rfl, C⟩
    have J := C.st
    simp_all! only [J.ho, J.hw, J.hd, J.hf, C.hp, C.hd, List.length_map]
    by_cases hlt : i < row.length
    · have e0 : row = row.take i ++ row[i] :: row.drop (i + 1) := by rw [← List.drop_eq_getElem_cons hlt, List.take_append_drop]
      generalize row[i] = o at e0
      generalize hr1 : row.take i = r1 at *
      generalize row.drop (i + 1) = r2 at e0
      have tk1 : row.take (i + 1) = r1 ++ [o] := by
        have l1 : r1.length = i := by
          rw [← hr1, List.length_take]
          omega
        rw [e0, List.take_append, l1, show i + 1 - i = 1 by omega, List.take_of_length_le (by omega)]
        rfl
      have fw : flat row = flat r1 ++ (flatO o ++ flat r2) := by rw [e0, flat_app, flat]
      have wl : ws.length = (flat r1).length + (3 + o.sl.length + (flat r2).length) := by rw [R.ws, fw, List.length_append, List.length_append, flatO_len]
      have nd := R.nd
      rw [e0] at nd
      rw [R.ws] at wl
      have e1 : atI (ws.map V.int) ((flat r1).length : Int) = some (.int o.num) := atI_nat (by
        rw [R.ws, List.getElem?_map, fw, List.getElem?_append_right (Nat.le_refl _), Nat.sub_self]
        rfl)
      have e2 : atI (ws.map V.int) (((flat r1).length : Int) + 1) = some (.int (o.sl.length : Int)) := by
        rw [show ((flat r1).length : Int) + 1 = (((flat r1).length + 1 : Nat) : Int) by omega]
        exact atI_nat (by
          rw [R.ws, List.getElem?_map, fw, List.getElem?_append_right (by omega), show (flat r1).length + 1 - (flat r1).length = 1 by omega]
          rfl)
      have e3 : cutV (ws.map V.int) (some ((flat r1).length : Int)) (some (((flat r1).length : Int) + 3 + (o.sl.length : Int))) = (flatO o).map V.int := by
        rw [show ((flat r1).length : Int) + 3 + (o.sl.length : Int) = (((flat r1).length + (3 + o.sl.length) : Nat) : Int) by omega, cutV_mid (by omega) (by rw [List.length_map, R.ws]; omega), R.ws, fw, ← List.map_drop, ← List.map_take, List.drop_append, List.drop_length, Nat.sub_self, List.nil_append, List.drop_zero,
          show (flat r1).length + (3 + o.sl.length) - (flat r1).length = (flatO o).length by rw [flatO_len]; omega, List.take_left']
        rfl
      have e4 : ((valV kvs (Sum.inl o.num)).getD .non = .int ((flat r1).length : Int)) ↔ o.al = true := by
        rw [R.pk.1]
        have ph := pos_here nd
        rw [← e0] at ph
        rw [← ph]
        cases hq : pos row o.num with
        | none => simp
        | some j =>
          simp
          omega
      have e5 : scal ((valV kvs (Sum.inl o.num)).getD .non) (.int ((flat r1).length : Int)) = true := by
        rw [R.pk.1]
        cases pos row o.num with
        | none => rfl
        | some j => rfl
      have nx : ((flat (row.take (i + 1))).length : Int) = ((flat r1).length : Int) + 3 + (o.sl.length : Int) := by
        rw [tk1, flat_app, flat_one, List.length_append, flatO_len]
        omega
      have ab : (flat r1).length < ws.length := by rw [R.ws]; omega
      rw [if_pos (by omega)]
      refine ⟨fun σ' H' => ∃ (kvs' : List (Key × V)) (x y : Option V), σ' = [some (V.ref a), some (V.ref p), some (V.ref pd), some (V.int (flat (row.take (i + 1))).length), x, y] ∧ Cl A H' H a dx w d f rm en ws kvs fr fs F p pd row (i + 1) kvs', ?_, ?_⟩
      · rintro σ' H' ⟨kvs2, x, y, rfl, C2⟩
        exact ⟨_, by omega, i + 1, ⟨x, y, rfl⟩, by omega, rfl, kvs2, C2⟩
      · have hpk := C.hp
        have pk := C.pk
        rw [hr1] at hpk pk
        simp_all! only [J.ho, J.hw, J.hd, J.hf, hpk, C.hd, List.length_map, e1, e2]
        refine ⟨fun σ' H' => ∃ (kvs' : List (Key × V)), σ' = [some (V.ref a), some (V.ref p), some (V.ref pd), some (V.int (flat r1).length), some (V.int o.num), some (V.int (((flat r1).length : Int) + 3 + (o.sl.length : Int)))] ∧ Cl A H' H a dx w d f rm en ws kvs fr fs F p pd row (i + 1) kvs', ?_, ?_⟩
        · simp_all! only [J.ho, J.hw, J.hd, J.hf, hpk, C.hd, List.length_map, e1, e2, e4]
          have fl := flat_filter_le r1
          refine ⟨e5, ite2 (fun ha => ?_) (fun ha => ?_)⟩
          · have kl := pk.len
            have kl2 := nums_len (row := r1.filter (·.al))
            have kl3 := List.length_filter_le (·.al) r1
            have kl4 := flat_rows r1
            refine ⟨by omega, ?_⟩
            have J2 := J.other (p := pd) (o := .dK (putK kvs' (Sum.inl o.num) (.int ((flat (r1.filter (·.al))).length : Int)))) od Fd
            have hpk2 : upd H2 pd (.dK (putK kvs' (Sum.inl o.num) (.int ((flat (r1.filter (·.al))).length : Int)))) p = some (.lst ((flat (r1.filter (·.al))).map V.int)) := by rw [upd_ne ppd]; exact hpk
            simp_all! only [J2.ho, J2.hw, J2.hd, J2.hf, hpk2, List.length_map, e3]
            intro q hq
            have pq := ne_of_none hpk2 hq
            have dq : pd ≠ q := ne_of_none upd_same hq
            have hpk3 := same_new (o := .lst ((flatO o).map V.int)) hq _ _ hpk2
            simp! only [hpk3, upd_same]
            refine ⟨by simp only [List.length_map, flatO_len]; omega, putK kvs' (Sum.inl o.num) (.int ((flat (r1.filter (·.al))).length : Int)), ?_⟩
            have J3 := (J2.same (same_new (o := .lst ((flatO o).map V.int)) hq)).other (p := p) (o := .lst ((flat (r1.filter (·.al))).map V.int ++ (flatO o).map V.int)) op Fp
            have fe : (r1 ++ [o]).filter (·.al) = r1.filter (·.al) ++ [o] := by
              rw [List.filter_append, List.filter_cons, if_pos ha]
              rfl
            refine ⟨J3, ?_, by rw [upd_ne (Ne.symm ppd), upd_ne dq, upd_same], ?_, hp, hpd0⟩
            · rw [upd_same, tk1, fe, flat_app, flat_one, List.map_append]
            · rw [tk1, fe]
              refine pk.app ha ?_
              rw [nums_filter]
              rw [nums_app, nums_cons, if_pos ha] at nd
              exact fun z => (List.nodup_append.mp nd).2.2 _ z _ (List.mem_cons_self ..) rfl
          · have af : o.al = false := by simpa using ha
            have fe : (row.take (i + 1)).filter (·.al) = r1.filter (·.al) := by
              rw [tk1, List.filter_append, List.filter_cons, if_neg ha]
              simp
            exact ⟨kvs', J, by rw [fe]; exact hpk, C.hd, by rw [fe]; exact pk, hp, hpd0⟩
        · rintro σ' H3 ⟨kvs2, rfl, C2⟩
          simp_all! only []
          exact ⟨nx.symm, kvs2, C2⟩
    · have e : i = row.length := by omega
      subst e
      have tk : row.take row.length = row := List.take_length ..
      rw [tk, R.ws]
      rw [if_neg (by omega)]
      have hpk := C.hp
      have pk := C.pk
      rw [tk] at hpk pk
      have fl := flat_filter_le row
      refine ⟨op.2.1.symm, by omega, ?_⟩
      have J2 := J.words (flat (row.filter (·.al)))
      simp_all! only [J2.ho, J2.hw, J2.hd, J2.hf, List.length_map]
      refine ⟨by decide, ?_⟩
      refine k _ ⟨dx, w, pd, f, _, kvs', fr, fs, ⟨upd_same, by rw [upd_ne (Ne.symm J2.aw)]; exact J2.hw, ?_, by rw [upd_ne (Ne.symm J2.af)]; exact J2.hf, J2.ne, fun b u hb => ?_⟩, R.close pk⟩
      · rw [upd_ne od.1, upd_ne od.2.1]
        exact C.hd
      · obtain ⟨q1, q2, q3, q4, q5⟩ := J2.fr b u hb
        refine ⟨by rw [upd_ne q2]; exact q1, q2, q3, ne_of_none hb Fd, q5⟩
end

/-! ### the law's own row of objects, beside the store -/
theorem same_refl {H : Hp} : Same H H := fun _ _ h => h
theorem same_trans {H1 H2 H3 : Hp} (a : Same H1 H2) (b : Same H2 H3) : Same H1 H3 := fun _ _ h => b _ _ (a _ _ h)
theorem St.none {A H a rm en row F} (h : St A H a rm en row F) {p : Addr} (e : H p = none) : F p = none := by
  cases q : F p with
  | none => rfl
  | some o =>
    rw [h.get q] at e
    cases e
/-- one object of the row: the list [number, kind, slots, there] at r, the slots at c -/
structure RB where
  r : Addr
  c : Addr
  o : OB
def rbL (b : RB) : HO := .lst [.int b.o.num, .int b.o.kind, .ref b.c, .bl b.o.al]
def obs (bs : List RB) : List OB := bs.map (·.o)
def refs (bs : List RB) : List V := bs.map fun b => .ref b.r
def adrs : List RB → List Addr
  | [] => []
  | b :: bs => b.r :: b.c :: adrs bs
theorem adrs_app : ∀ (xs ys : List RB), adrs (xs ++ ys) = adrs xs ++ adrs ys
  | [], _ => rfl
  | b :: bs, ys => by simp [adrs, adrs_app bs ys]
theorem adrs_mem : ∀ {bs : List RB} {p : Addr}, p ∈ adrs bs ↔ ∃ b ∈ bs, p = b.r ∨ p = b.c
  | [], p => by simp [adrs]
  | b :: bs, p => by
    rw [adrs, List.mem_cons, List.mem_cons, adrs_mem]
    constructor
    · rintro (h | h | ⟨q, hq, h⟩)
      · exact ⟨b, List.mem_cons_self .., .inl h⟩
      · exact ⟨b, List.mem_cons_self .., .inr h⟩
      · exact ⟨q, List.mem_cons_of_mem _ hq, h⟩
    · rintro ⟨q, hq, h⟩
      rcases List.mem_cons.mp hq with rfl | hq
      · exact h.elim .inl fun h => .inr (.inl h)
      · exact .inr (.inr ⟨q, hq, h⟩)
theorem adrs_set : ∀ {bs : List RB} {j : Nat} {b b' : RB}, bs[j]? = some b → b'.r = b.r → b'.c = b.c → adrs (bs.set j b') = adrs bs
  | [], j, b, b', h, _, _ => by simp at h
  | q :: bs, 0, b, b', h, h1, h2 => by
    simp at h
    subst h
    simp [adrs, h1, h2]
  | q :: bs, j + 1, b, b', h, h1, h2 => by
    simp at h
    simp [adrs, adrs_set h h1 h2]
theorem refs_set : ∀ {bs : List RB} {j : Nat} {b b' : RB}, bs[j]? = some b → b'.r = b.r → refs (bs.set j b') = refs bs
  | [], j, b, b', h, _ => by simp at h
  | q :: bs, 0, b, b', h, h1 => by
    simp at h
    subst h
    simp [refs, h1]
  | q :: bs, j + 1, b, b', h, h1 => by
    simp at h
    have := refs_set h h1
    simp only [refs] at this ⊢
    rw [List.set_cons_succ, List.map_cons, List.map_cons, this]
/-- what is read of some of its objects -/
def View (H : Hp) (bs : List RB) : Prop := ∀ b ∈ bs, H b.r = some (rbL b) ∧ H b.c = some (.lst (b.o.sl.map V.int))
theorem View.same {H H' bs} (h : View H bs) (s : Same H H') : View H' bs := fun b hb => ⟨s _ _ (h b hb).1, s _ _ (h b hb).2⟩
theorem View.sub {H bs bs'} (h : View H bs) (s : ∀ b ∈ bs', b ∈ bs) : View H bs' := fun b hb => h b (s b hb)
structure Rw (F : Hp) (rl : Addr) (bs : List RB) (G : Hp) : Prop where
  lst : F rl = some (.lst (refs bs))
  one : View F bs
  nd : (rl :: adrs bs).Nodup
  fr : ∀ p o, G p = some o → F p = some o ∧ p ∉ rl :: adrs bs
/-- store and row; G: what stands beside both -/
def Lx (A : Ad) (H : Hp) (s rl : Addr) (rm en : Int) (row : List OB) (bs : List RB) (G : Hp) : Prop := ∃ F, St A H s rm en row F ∧ Rw F rl bs G
theorem Lx.same {A H H' s rl rm en row bs G} (h : Lx A H s rl rm en row bs G) (e : Same H H') : Lx A H' s rl rm en row bs G := by
  obtain ⟨F, S, R⟩ := h
  exact ⟨F, S.same e, R⟩
theorem Lx.view {A H s rl rm en row bs G} (h : Lx A H s rl rm en row bs G) : View H bs := by
  obtain ⟨F, S, R⟩ := h
  exact fun b hb => ⟨S.get (R.one b hb).1, S.get (R.one b hb).2⟩
theorem Lx.lst {A H s rl rm en row bs G} (h : Lx A H s rl rm en row bs G) : H rl = some (.lst (refs bs)) := by
  obtain ⟨F, S, R⟩ := h
  exact S.get R.lst
theorem Lx.get {A H s rl rm en row bs G} (h : Lx A H s rl rm en row bs G) {p : Addr} {o : HO} (e : G p = some o) : H p = some o := by
  obtain ⟨F, S, R⟩ := h
  exact S.get (R.fr p o e).1
theorem Lx.less {A H s rl rm en row bs G G'} (h : Lx A H s rl rm en row bs G) (e : Same G' G) : Lx A H s rl rm en row bs G' := by
  obtain ⟨F, S, R⟩ := h
  exact ⟨F, S, R.lst, R.one, R.nd, fun p o q => R.fr p o (e p o q)⟩
theorem Lx.out {A H s rl rm en row bs G} (h : Lx A H s rl rm en row bs G) {p : Addr} (e : H p = none) : G p = none := by
  cases q : G p with
  | none => rfl
  | some o =>
    rw [h.get q] at e
    cases e
theorem Rw.out {F rl bs G} (R : Rw F rl bs G) {p : Addr} (e : F p = none) : p ∉ rl :: adrs bs := by
  intro m
  rcases List.mem_cons.mp m with rfl | m
  · rw [R.lst] at e
    cases e
  · obtain ⟨b, hb, h⟩ := adrs_mem.mp m
    rcases h with rfl | rfl
    · rw [(R.one b hb).1] at e
      cases e
    · rw [(R.one b hb).2] at e
      cases e
theorem Lx.new {A H s rl rm en row bs G} (h : Lx A H s rl rm en row bs G) {p : Addr} {o : HO} (e : H p = none) : Lx A (upd H p o) s rl rm en row bs (upd G p o) := by
  obtain ⟨F, S, R⟩ := h
  have Fp := S.none e
  have sm := same_new (o := o) Fp
  refine ⟨_, S.new e, sm _ _ R.lst, R.one.same sm, R.nd, fun q u hq => ?_⟩
  by_cases c : q = p
  · subst c
    rw [upd_same] at hq
    exact ⟨by rw [upd_same]; exact hq, R.out Fp⟩
  · rw [upd_ne c] at hq
    exact ⟨by rw [upd_ne c]; exact (R.fr q u hq).1, (R.fr q u hq).2⟩
theorem Lx.setG {A H s rl rm en row bs G} (h : Lx A H s rl rm en row bs G) {p : Addr} {o u : HO} (e : G p = some u) : Lx A (upd H p o) s rl rm en row bs (upd G p o) := by
  obtain ⟨F, S, R⟩ := h
  obtain ⟨h1, h2⟩ := R.fr p u e
  have n1 : rl ≠ p := fun z => h2 (z ▸ List.mem_cons_self ..)
  have n2 : ∀ b ∈ bs, b.r ≠ p ∧ b.c ≠ p := fun b hb => ⟨fun z => h2 (List.mem_cons_of_mem _ (adrs_mem.mpr ⟨b, hb, .inl z.symm⟩)), fun z => h2 (List.mem_cons_of_mem _ (adrs_mem.mpr ⟨b, hb, .inr z.symm⟩))⟩
  refine ⟨_, S.set h1, by rw [upd_ne n1]; exact R.lst, fun b hb => ⟨by rw [upd_ne (n2 b hb).1]; exact (R.one b hb).1, by rw [upd_ne (n2 b hb).2]; exact (R.one b hb).2⟩, R.nd, fun q v hq => ?_⟩
  by_cases c : q = p
  · subst c
    rw [upd_same] at hq
    exact ⟨by rw [upd_same]; exact hq, h2⟩
  · rw [upd_ne c] at hq
    exact ⟨by rw [upd_ne c]; exact (R.fr q v hq).1, (R.fr q v hq).2⟩
theorem nodup_at : ∀ {bs : List RB} {i j : Nat} {b q : RB}, (adrs bs).Nodup → bs[i]? = some b → bs[j]? = some q → i ≠ j → b.r ≠ q.r ∧ b.r ≠ q.c ∧ b.c ≠ q.r ∧ b.c ≠ q.c
  | [], i, j, b, q, _, h, _, _ => by simp at h
  | x :: bs, 0, 0, b, q, _, _, _, h => absurd rfl h
  | x :: bs, 0, j + 1, b, q, nd, h1, h2, _ => by
    simp at h1 h2
    subst h1
    have hm := List.mem_of_getElem? h2
    have n1 := List.nodup_cons.mp nd
    have n2 := List.nodup_cons.mp n1.2
    have mr := adrs_mem.mpr ⟨q, hm, .inl rfl⟩
    have mc := adrs_mem.mpr ⟨q, hm, .inr rfl⟩
    exact ⟨fun e => n1.1 (e ▸ List.mem_cons_of_mem _ mr), fun e => n1.1 (e ▸ List.mem_cons_of_mem _ mc), fun e => n2.1 (e ▸ mr), fun e => n2.1 (e ▸ mc)⟩
  | x :: bs, i + 1, 0, b, q, nd, h1, h2, _ => by
    simp at h1 h2
    subst h2
    have hm := List.mem_of_getElem? h1
    have n1 := List.nodup_cons.mp nd
    have n2 := List.nodup_cons.mp n1.2
    have mr := adrs_mem.mpr ⟨b, hm, .inl rfl⟩
    have mc := adrs_mem.mpr ⟨b, hm, .inr rfl⟩
    exact ⟨fun e => n1.1 (e ▸ List.mem_cons_of_mem _ mr), fun e => n2.1 (e ▸ mr), fun e => n1.1 (e ▸ List.mem_cons_of_mem _ mc), fun e => n2.1 (e ▸ mc)⟩
  | x :: bs, i + 1, j + 1, b, q, nd, h1, h2, h => by
    simp at h1 h2
    exact nodup_at (List.nodup_cons.mp (List.nodup_cons.mp nd).2).2 h1 h2 (fun e => h (by rw [e]))
theorem adrs_rc {b : RB} : ∀ {bs : List RB}, (adrs bs).Nodup → b ∈ bs → b.r ≠ b.c
  | [], _, h => by cases h
  | x :: bs, nd, h => by
    have n1 := List.nodup_cons.mp nd
    have n2 := List.nodup_cons.mp n1.2
    rcases List.mem_cons.mp h with rfl | h
    · exact fun e => n1.1 (e ▸ List.mem_cons_self ..)
    · exact adrs_rc n2.2 h
theorem mem_set_at {bs : List RB} {j : Nat} {b' q : RB} (h : q ∈ bs.set j b') : q = b' ∨ ∃ i, i ≠ j ∧ bs[i]? = some q := by
  obtain ⟨i, hi⟩ := List.mem_iff_getElem?.mp h
  by_cases c : j = i
  · subst c
    have lt := (List.getElem?_eq_some_iff.mp hi).1
    rw [List.length_set] at lt
    rw [List.getElem?_set_self lt] at hi
    exact .inl (Option.some.inj hi).symm
  · rw [List.getElem?_set_ne c] at hi
    exact .inr ⟨i, fun e => c e.symm, hi⟩
/-- one object's own list changes -/
theorem Lx.setr {A H s rl rm en row bs G} (h : Lx A H s rl rm en row bs G) {j : Nat} {b : RB} (hb : bs[j]? = some b) (n k : Int) (al : Bool) :
    Lx A (upd H b.r (.lst [.int n, .int k, .ref b.c, .bl al])) s rl rm en row (bs.set j ⟨b.r, b.c, ⟨n, k, b.o.sl, al⟩⟩) G := by
  obtain ⟨F, S, R⟩ := h
  have hm := List.mem_of_getElem? hb
  have nd := List.nodup_cons.mp R.nd
  have ar : b.r ∈ adrs bs := adrs_mem.mpr ⟨b, hm, .inl rfl⟩
  refine ⟨_, S.set (R.one b hm).1, by rw [upd_ne (show rl ≠ b.r from fun e => nd.1 (by rw [e]; exact ar)), refs_set (b' := ⟨b.r, b.c, ⟨n, k, b.o.sl, al⟩⟩) hb rfl]; exact R.lst, fun q hq => ?_, by rw [adrs_set (b' := ⟨b.r, b.c, ⟨n, k, b.o.sl, al⟩⟩) hb rfl rfl]; exact R.nd, fun p u hp => ?_⟩
  · rcases mem_set_at hq with rfl | ⟨i, ij, hi⟩
    · refine ⟨upd_same, ?_⟩
      show upd F b.r _ b.c = _
      rw [upd_ne (Ne.symm (adrs_rc nd.2 hm))]
      exact (R.one b hm).2
    · have dis := nodup_at nd.2 hi hb ij
      have := R.one q (List.mem_of_getElem? hi)
      exact ⟨by rw [upd_ne dis.1]; exact this.1, by rw [upd_ne dis.2.2.1]; exact this.2⟩
  · obtain ⟨h1, h2⟩ := R.fr p u hp
    rw [adrs_set (b' := ⟨b.r, b.c, ⟨n, k, b.o.sl, al⟩⟩) hb rfl rfl]
    exact ⟨by rw [upd_ne (show p ≠ b.r from fun e => h2 (by rw [e]; exact List.mem_cons_of_mem _ ar))]; exact h1, h2⟩
/-- one object's slots change -/
theorem Lx.setc {A H s rl rm en row bs G} (h : Lx A H s rl rm en row bs G) {j : Nat} {b : RB} (hb : bs[j]? = some b) (sl : List Int) :
    Lx A (upd H b.c (.lst (sl.map V.int))) s rl rm en row (bs.set j ⟨b.r, b.c, { b.o with sl := sl }⟩) G := by
  obtain ⟨F, S, R⟩ := h
  have hm := List.mem_of_getElem? hb
  have nd := List.nodup_cons.mp R.nd
  have ac : b.c ∈ adrs bs := adrs_mem.mpr ⟨b, hm, .inr rfl⟩
  refine ⟨_, S.set (R.one b hm).2, by rw [upd_ne (show rl ≠ b.c from fun e => nd.1 (by rw [e]; exact ac)), refs_set (b' := ⟨b.r, b.c, { b.o with sl := sl }⟩) hb rfl]; exact R.lst, fun q hq => ?_, by rw [adrs_set (b' := ⟨b.r, b.c, { b.o with sl := sl }⟩) hb rfl rfl]; exact R.nd, fun p u hp => ?_⟩
  · rcases mem_set_at hq with rfl | ⟨i, ij, hi⟩
    · refine ⟨?_, upd_same⟩
      show upd F b.c _ b.r = _
      rw [upd_ne (adrs_rc nd.2 hm)]
      exact (R.one b hm).1
    · have dis := nodup_at nd.2 hi hb ij
      have := R.one q (List.mem_of_getElem? hi)
      exact ⟨by rw [upd_ne dis.2.1]; exact this.1, by rw [upd_ne dis.2.2.2]; exact this.2⟩
  · obtain ⟨h1, h2⟩ := R.fr p u hp
    rw [adrs_set (b' := ⟨b.r, b.c, { b.o with sl := sl }⟩) hb rfl rfl]
    exact ⟨by rw [upd_ne (show p ≠ b.c from fun e => h2 (by rw [e]; exact List.mem_cons_of_mem _ ac))]; exact h1, h2⟩
/-- a new object is put at the end of the row -/
theorem Lx.push {A H H2 s rl rm en row bs G} (h : Lx A H s rl rm en row bs G) (sm : Same H H2) {r c : Addr} {o : OB} (hc : H c = none) (hr : H r = none) (ne : r ≠ c) (c2 : H2 c = some (.lst (o.sl.map V.int))) (r2 : H2 r = some (rbL ⟨r, c, o⟩)) :
    Lx A (upd H2 rl (.lst (refs bs ++ [.ref r]))) s rl rm en row (bs ++ [⟨r, c, o⟩]) G := by
  obtain ⟨F, S, R⟩ := h
  have Fc := S.none hc
  have Fr := S.none hr
  have oc := R.out Fc
  have or := R.out Fr
  have S2 : St A H2 s rm en row (upd (upd F c (.lst (o.sl.map V.int))) r (rbL ⟨r, c, o⟩)) := S.more sm fun b u hb => by
    by_cases e1 : b = r
    · subst e1
      rw [upd_same] at hb
      exact .inr ⟨hr, by rw [r2]; exact hb⟩
    · rw [upd_ne e1] at hb
      by_cases e2 : b = c
      · subst e2
        rw [upd_same] at hb
        exact .inr ⟨hc, by rw [c2]; exact hb⟩
      · rw [upd_ne e2] at hb
        exact .inl hb
  have smF : Same F (upd (upd F c (.lst (o.sl.map V.int))) r (rbL ⟨r, c, o⟩)) := same_trans (same_new Fc) (same_new (by rw [upd_ne ne]; exact Fr))
  have rlr : rl ≠ r := fun e => or (e ▸ List.mem_cons_self ..)
  have rlc : rl ≠ c := fun e => oc (e ▸ List.mem_cons_self ..)
  have nd := List.nodup_cons.mp R.nd
  refine ⟨_, S2.set (smF _ _ R.lst), by rw [upd_same]; simp [refs], fun q hq => ?_, ?_, fun p u hp => ?_⟩
  · rcases List.mem_append.mp hq with hq | hq
    · have n1 : q.r ≠ rl := fun e => nd.1 (e ▸ adrs_mem.mpr ⟨q, hq, .inl rfl⟩)
      have n2 : q.c ≠ rl := fun e => nd.1 (e ▸ adrs_mem.mpr ⟨q, hq, .inr rfl⟩)
      exact ⟨by rw [upd_ne n1]; exact smF _ _ (R.one q hq).1, by rw [upd_ne n2]; exact smF _ _ (R.one q hq).2⟩
    · rw [List.mem_singleton] at hq
      subst hq
      exact ⟨by rw [upd_ne (Ne.symm rlr), upd_same], by rw [upd_ne (Ne.symm rlc), upd_ne (Ne.symm ne), upd_same]⟩
  · rw [adrs_app]
    refine List.nodup_cons.mpr ⟨fun m => ?_, List.nodup_append.mpr ⟨nd.2, ?_, fun x hx y hy e => ?_⟩⟩
    · rcases List.mem_append.mp m with m | m
      · exact nd.1 m
      · simp [adrs] at m
        exact m.elim rlr rlc
    · simp [adrs, ne]
    · subst e
      simp [adrs] at hy
      rcases hy with rfl | rfl
      · exact or (List.mem_cons_of_mem _ hx)
      · exact oc (List.mem_cons_of_mem _ hx)
  · obtain ⟨h1, h2⟩ := R.fr p u hp
    have n1 : p ≠ rl := fun e => h2 (e ▸ List.mem_cons_self ..)
    refine ⟨by rw [upd_ne n1]; exact smF _ _ h1, fun m => ?_⟩
    rw [adrs_app, ← List.cons_append] at m
    rcases List.mem_append.mp m with m | m
    · exact h2 m
    · simp [adrs] at m
      rcases m with rfl | rfl
      · rw [Fr] at h1
        cases h1
      · rw [Fc] at h1
        cases h1
/-- two objects of the row that are there have different numbers -/
theorem nums_inj : ∀ {row : List OB} {i j : Nat} {o q : OB}, (nums row).Nodup → row[i]? = some o → row[j]? = some q → o.al = true → q.al = true → o.num = q.num → i = j
  | [], i, j, o, q, _, h, _, _, _, _ => by simp at h
  | x :: r, 0, 0, o, q, _, _, _, _, _, _ => rfl
  | x :: r, 0, j + 1, o, q, nd, h1, h2, a1, a2, e => by
    simp at h1 h2
    subst h1
    rw [nums_cons, if_pos a1] at nd
    exact absurd (mem_nums.mpr ⟨q, List.mem_of_getElem? h2, hasN_iff.mpr ⟨a2, e.symm⟩⟩) (List.nodup_cons.mp nd).1
  | x :: r, i + 1, 0, o, q, nd, h1, h2, a1, a2, e => by
    simp at h1 h2
    subst h2
    rw [nums_cons, if_pos a2] at nd
    exact absurd (mem_nums.mpr ⟨o, List.mem_of_getElem? h1, hasN_iff.mpr ⟨a1, e⟩⟩) (List.nodup_cons.mp nd).1
  | x :: r, i + 1, j + 1, o, q, nd, h1, h2, a1, a2, e => by
    simp at h1 h2
    rw [nums_cons] at nd
    have nd' : (nums r).Nodup := by
      by_cases g : x.al = true
      · rw [if_pos g] at nd
        exact (List.nodup_cons.mp nd).2
      · rw [if_neg g] at nd
        exact nd
    rw [nums_inj nd' h1 h2 a1 a2 e]
theorem map_one {row : List OB} {j : Nat} {o o' : OB} {n : Int} {f : OB → OB} (nd : (nums row).Nodup) (hj : row[j]? = some o) (ho : hasN n o = true) (h1 : f o = o') (h2 : ∀ q, ¬ hasN n q = true → f q = q) : row.map f = row.set j o' := by
  apply List.ext_getElem?
  intro i
  rw [List.getElem?_map]
  by_cases c : j = i
  · subst c
    rw [List.getElem?_set_self (List.getElem?_eq_some_iff.mp hj).1, hj, ← h1]
    rfl
  · rw [List.getElem?_set_ne c]
    cases hi : row[i]? with
    | none => rfl
    | some q =>
      show some (f q) = some q
      rw [h2 q fun z => c (nums_inj nd hj hi (hasN_iff.mp ho).1 (hasN_iff.mp z).1 ((hasN_iff.mp ho).2.trans (hasN_iff.mp z).2.symm))]
theorem drop_set {row : List OB} {j : Nat} {o : OB} (nd : (nums row).Nodup) (hj : row[j]? = some o) (ha : o.al = true) : dropO row o.num = row.set j { o with al := false } :=
  map_one nd hj (hasN_iff.mpr ⟨ha, rfl⟩) (dropX_t (hasN_iff.mpr ⟨ha, rfl⟩)) fun _ h => dropX_f h
theorem put_set {row : List OB} {j i : Nat} {v : Int} {o : OB} (nd : (nums row).Nodup) (hj : row[j]? = some o) (ha : o.al = true) : putO row o.num i v = row.set j { o with sl := o.sl.set i v } :=
  map_one nd hj (hasN_iff.mpr ⟨ha, rfl⟩) (if_pos (hasN_iff.mpr ⟨ha, rfl⟩)) fun _ h => if_neg h
theorem kind_set {row : List OB} {j : Nat} {v : Int} {o : OB} (nd : (nums row).Nodup) (hj : row[j]? = some o) (ha : o.al = true) : kindO row o.num v = row.set j { o with kind := v } :=
  map_one nd hj (hasN_iff.mpr ⟨ha, rfl⟩) (if_pos (hasN_iff.mpr ⟨ha, rfl⟩)) fun _ h => if_neg h
theorem exch_set {row : List OB} {i j : Nat} {o q : OB} (nd : (nums row).Nodup) (hi : row[i]? = some o) (hj : row[j]? = some q) (ha : o.al = true) (hb : q.al = true) :
    exch row o.num q.num = (row.set i { o with num := q.num }).set j { q with num := o.num } := by
  apply List.ext_getElem?
  intro k
  unfold exch
  rw [List.getElem?_map]
  have li := (List.getElem?_eq_some_iff.mp hi).1
  have lj := (List.getElem?_eq_some_iff.mp hj).1
  by_cases c : j = k
  · subst c
    rw [List.getElem?_set_self (by rw [List.length_set]; exact lj), hj]
    show some (exO o.num q.num q) = _
    unfold exO sw2
    rw [if_pos hb]
    by_cases e : q.num = o.num
    · rw [if_pos e, e]
    · rw [if_neg e, if_pos rfl]
  · rw [List.getElem?_set_ne c]
    by_cases d : i = k
    · subst d
      rw [List.getElem?_set_self li, hi]
      show some (exO o.num q.num o) = _
      unfold exO sw2
      rw [if_pos ha, if_pos rfl]
    · rw [List.getElem?_set_ne d]
      cases hk : row[k]? with
      | none => rfl
      | some x =>
        show some (exO o.num q.num x) = some x
        unfold exO sw2
        by_cases a : x.al = true
        · rw [if_pos a, if_neg (fun e => d (nums_inj nd hi hk ha a e.symm)), if_neg (fun e => c (nums_inj nd hj hk hb a e.symm))]
        · rw [if_neg a]
theorem Lx.nodup {A H s rl rm en row bs G} (h : Lx A H s rl rm en row bs G) : (nums row).Nodup := by
  obtain ⟨F, ⟨dx, w, d, f, ws, kvs, fr, fs, I, R⟩, _⟩ := h
  exact R.nd
theorem obs_set {bs : List RB} {j : Nat} {r c : Addr} {o : OB} : obs (bs.set j ⟨r, c, o⟩) = (obs bs).set j o := by
  unfold obs
  rw [List.map_set]
theorem obs_at {bs : List RB} {j : Nat} {b : RB} (h : bs[j]? = some b) : (obs bs)[j]? = some b.o := by
  unfold obs
  rw [List.getElem?_map, h]
  rfl
theorem getO_at {row : List OB} {j : Nat} {o : OB} (nd : (nums row).Nodup) (hj : row[j]? = some o) (ha : o.al = true) : getO row o.num = some o := by
  obtain ⟨q, hq⟩ := getO_of_mem (mem_nums.mpr ⟨o, List.mem_of_getElem? hj, hasN_iff.mpr ⟨ha, rfl⟩⟩)
  obtain ⟨hm, hn⟩ := getO_mem hq
  obtain ⟨i, hi⟩ := List.mem_iff_getElem?.mp hm
  have := nums_inj nd hj hi ha (hasN_iff.mp hn).1 (hasN_iff.mp hn).2.symm
  subst this
  rw [hj] at hi
  rw [hq]
  exact hi.symm
theorem refs_at {bs : List RB} {j : Nat} {b : RB} (h : bs[j]? = some b) : atI (refs bs) (j : Int) = some (.ref b.r) := by
  refine atI_nat ?_
  unfold refs
  rw [List.getElem?_map, h]
  rfl
theorem refs_len {bs : List RB} : (refs bs).length = bs.length := by
  unfold refs
  rw [List.length_map]
theorem St.ho {A H a rm en row F} (h : St A H a rm en row F) : ∃ dx w d f fs, H a = some (.ins A.C_Store dx (stF rm en w d f fs)) := by
  obtain ⟨dx, w, d, f, ws, kvs, fr, fs, I, R⟩ := h
  exact ⟨dx, w, d, f, fs, I.ho⟩
theorem Lx.ho {A H s rl rm en row bs G} (h : Lx A H s rl rm en row bs G) : ∃ dx w d f fs, H s = some (.ins A.C_Store dx (stF rm en w d f fs)) := by
  obtain ⟨F, S, R⟩ := h
  exact S.ho
theorem Lx.row {A H s rl rm en row row' bs G} (h : Lx A H s rl rm en row bs G) (e : row = row') : Lx A H s rl rm en row' bs G := e ▸ h
/-- one of those that are there -/
theorem pick_al {bs : List RB} (h : 0 < (bs.filter (·.o.al)).length) (z : Int) : ∃ (j : Nat) (b : RB), atI (refs (bs.filter (·.o.al))) (z % ((bs.filter (·.o.al)).length : Int)) = some (.ref b.r) ∧ bs[j]? = some b ∧ b.o.al = true := by
  have z0 := Int.emod_nonneg z (show ((bs.filter (·.o.al)).length : Int) ≠ 0 by omega)
  have z1 := Int.emod_lt_of_pos z (show (0 : Int) < (bs.filter (·.o.al)).length by omega)
  obtain ⟨i, hi⟩ := Int.eq_ofNat_of_zero_le z0
  rw [hi]
  have hl : i < (bs.filter (·.o.al)).length := by omega
  have hm := List.mem_filter.mp (List.getElem_mem hl)
  obtain ⟨j, hj⟩ := List.mem_iff_getElem?.mp hm.1
  exact ⟨j, _, refs_at (List.getElem?_eq_getElem hl), hj, hm.2⟩
theorem Lx.words {A H s rl rm en row bs G} (h : Lx A H s rl rm en row bs G) : ∃ dx w d f fs, H s = some (.ins A.C_Store dx (stF rm en w d f fs)) ∧ H w = some (.lst ((flat row).map V.int)) ∧ (flat row).length ≤ 100000 := by
  obtain ⟨F, ⟨dx, w, d, f, ws, kvs, fr, fs, I, R⟩, _⟩ := h
  have hw := I.hw
  rw [R.ws] at hw
  exact ⟨dx, w, d, f, fs, I.ho, hw, R.sz⟩

def sp_lnum : Sp := fun vs H Q _ => ∃ (c k : Int), vs = [.int c, .int k] ∧ ∀ z : Int, Q (.int z) H
theorem sp_lnum_len {vs H Q E} (h : sp_lnum vs H Q E) : vs.length = (["cell", "k"] : List Str).length := by
  obtain ⟨_, _, rfl, _⟩ := h
  rfl
section
variable {P : Program} {w : World} {K : PySem.W.Frag} {mg : Str → Option Value} {base : Heap} {A : Ad}
theorem ok__law_number (T : Txt K mg A) : FnOk P w K mg base CX0 1 A.f__law_number A.d__law_number ["cell", "k"] (sp_lnum) := by
  refine Fun.ok T.F__law_number sc__law_number (fun vs H Q E h => ?_) (fun cdv Ar outer s H vs Q E hr h => ?_)
  · exact sp_lnum_len h
  · have hu := hu_of hr
    refine ⟨_, (pss_cons (ps_if (pt_cmpR op_ge (pv 0) (pe_op op_pow pe_int pe_int) (nomark _)) (pss_one (ps_ret (pv 0))) pss_nil)
    (pss_cons (ps_asg (pe_op op_mod (pe_callTy call_intI (by rfl) T.z_int (by decide +kernel) (pa_cons (pe_op op_add (pe_op op_add (pe_op op_mul (pv 0) pe_int) (pe_op op_mul (pv 1) pe_int)) pe_int) pa_nil)) pe_int) (pg_name (i := 2) sc__law_number.nd rfl (Or.inl rfl)))
    (pss_one (ps_ret (pe_op op_mod (pe_callTy call_intI (by rfl) T.z_int (by decide +kernel) (pa_cons (pe_op op_add (pe_op op_mul (pv 2) (pv 2)) (pe_op op_mul (pv 1) pe_int)) pa_nil)) pe_int))))), ?_⟩
    obtain ⟨c, j, rfl, k⟩ := h
    simp! only [rIsL]
    refine ⟨⟨by decide, by decide, by decide⟩, ite2 (fun _ => k _) (fun _ => ⟨.inr ⟨by decide, by decide⟩, .inr ⟨by decide, by decide⟩, by decide, .inl ⟨?_, ?_⟩, .inr ⟨by decide, by decide⟩, by decide, k _⟩)⟩
    · have := Int.emod_nonneg (c * 48271 + j * 69621 + 11) (show (2147483647 : Int) ≠ 0 by decide)
      omega
    · have := Int.emod_lt_of_pos (c * 48271 + j * 69621 + 11) (show (0 : Int) < 2147483647 by decide)
      omega
end

def sp_lis : Sp := fun vs H Q _ => ∃ i j : Int, vs = [.int i, .int j] ∧ Q (.bl (decide (i = j))) H
theorem sp_lis_len {vs H Q E} (h : sp_lis vs H Q E) : vs.length = (["actual", "due"] : List Str).length := by
  obtain ⟨_, _, rfl, _⟩ := h
  rfl
section
variable {P : Program} {w : World} {K : PySem.W.Frag} {mg : Str → Option Value} {base : Heap} {A : Ad}
theorem ok__law_is (T : Txt K mg A) : FnOk P w K mg base CX0 1 A.f__law_is A.d__law_is ["actual", "due"] (sp_lis) := by
  refine Fun.ok T.F__law_is sc__law_is (fun vs H Q E h => ?_) (fun cdv Ar outer s H vs Q E hr h => ?_)
  · exact sp_lis_len h
  · have hu := hu_of hr
    refine ⟨_, (pss_one (ps_ret (pe_and (pe_callB call_isS (by rfl) T.z_isinstance (by decide +kernel) (pa_cons (pv 0) (pa_cons (pe_bltn (v := .ty "int") (by rfl) T.z_int (by decide +kernel) rfl) pa_nil))) (pe_and (pe_not (pe_callB call_isS (by rfl) T.z_isinstance (by decide +kernel) (pa_cons (pv 0) (pa_cons (pe_bltn (v := .ty "bool") (by rfl) T.z_bool (by decide +kernel) rfl) pa_nil)))) (pe_one (pe_cmpR op_eq (pv 0) (pv 1) (nomark _))))))), ?_⟩
    obtain ⟨a, b, rfl, k⟩ := h
    simp! only [rIsL]
    exact k
end

def sp_same : Sp := fun vs H Q _ => ∃ (p q : Addr) (xs : List Int), vs = [.ref p, .ref q] ∧ H p = some (.lst (xs.map V.int)) ∧ H q = some (.lst (xs.map V.int)) ∧ xs.length ≤ 100000 ∧ Q (.bl true) H
theorem sp_same_len {vs H Q E} (h : sp_same vs H Q E) : vs.length = (["actual", "due"] : List Str).length := by
  obtain ⟨_, _, _, rfl, _⟩ := h
  rfl
section
variable {P : Program} {w : World} {K : PySem.W.Frag} {mg : Str → Option Value} {base : Heap} {A : Ad}
theorem ok__law_same (T : Txt K mg A) : FnOk P w K mg base CX0 2 A.f__law_same A.d__law_same ["actual", "due"] (sp_same) := by
  refine Fun.ok T.F__law_same sc__law_same (fun vs H Q E h => ?_) (fun cdv Ar outer s H vs Q E hr h => ?_)
  · exact sp_same_len h
  · have hu := hu_of hr
    refine ⟨_, (pss_cons (ps_if (PW.pt (pw_or (pt_not (pt_val (pe_callB call_isL (by rfl) T.z_isinstance (by decide +kernel) (pa_cons (pv 0) (pa_cons (pe_bltn (v := .ty "list") (by rfl) T.z_list (by decide +kernel) rfl) pa_nil))))) (pw_or1 (pt_cmpR op_ne (pe_callB call_lenM (by rfl) T.z_len PySem.boot_len (pa_cons (pv 0) pa_nil)) (pe_callB call_lenM (by rfl) T.z_len PySem.boot_len (pa_cons (pv 1) pa_nil)) (nomark _))))) (pss_one (ps_ret pe_bl)) pss_nil)
    (pss_cons (ps_for PassesOwn.never rfl (pi_range1 (by rfl) T.z_range (pa_cons (pe_callB call_lenM (by rfl) T.z_len PySem.boot_len (pa_cons (pv 1) pa_nil)) pa_nil)) (pg_name (i := 2) sc__law_same.nd rfl (Or.inl rfl))
      (pss_one (ps_if (pt_not (pt_val (pe_call (ok__law_is T) (hr.mono (by decide)) (by rfl) T.g__law_is T.k__law_is T.b__law_is .nil pass0 (pa_cons (pe_ix ix_lstM (pv 0) (pv 2) (fun _ _ => rfl)) (pa_cons (pe_ix ix_lstM (pv 1) (pv 2) (fun _ _ => rfl)) pa_nil))))) (pss_one (ps_ret pe_bl)) pss_nil)))
    (pss_one (ps_ret pe_bl)))), ?_⟩
    obtain ⟨p, q, xs, rfl, hp, hq, hz, k⟩ := h
    simp! only [hp, hq, List.length_map, rIsL]
    refine for_rng (xs.length : Int) (fun R h => ?_) (by omega) (by omega) (fun i σ' H' => ∃ kk : Option V, σ' = [some (V.ref p), some (V.ref q), kk] ∧ H' = H) ⟨none, rfl, rfl⟩ ?_ ?_
    · simp! only [hp, hq, List.length_map]
      exact h
    · rintro i σ' H' hi ⟨kk, rfl, rfl⟩
      have hlt : i < xs.length := by omega
      have hat : atI (xs.map V.int) (i : Int) = some (.int xs[i]) := atI_nat (by rw [List.getElem?_map, List.getElem?_eq_getElem hlt]; rfl)
      simp! only [hp, hq, hat, List.length_map]
      exact ⟨_, _, rfl, true, by simp, by simp⟩
    · rintro σ' H' ⟨kk, rfl, rfl⟩
      simp! only [rIsL]
      exact k
end

/-- the numbers that some words lead to -/
inductive Rch (row : List OB) (roots : List Int) : Int → Prop
  | root {w : Int} : w ∈ roots → w % 2 = 0 → w / 2 ∈ nums row → Rch row roots (w / 2)
  | step {n : Int} {o : OB} {w : Int} : Rch row roots n → getO row n = some o → w ∈ o.kind :: o.sl → w % 2 = 0 → w / 2 ∈ nums row → Rch row roots (w / 2)
/-- looking for them: those found, and the words still to be looked at -/
structure Fnd (row : List OB) (roots : List Int) (found : List Int) (todo : List Int) : Prop where
  ok : ∀ n ∈ found, Rch row roots n ∧ n ∈ nums row
  nd : found.Nodup
  td : ∀ w ∈ todo, w % 2 = 0 → w / 2 ∈ nums row → Rch row roots (w / 2)
  rt : ∀ w ∈ roots, w % 2 = 0 → w / 2 ∈ nums row → w / 2 ∈ found ∨ w ∈ todo
  cl : ∀ n ∈ found, ∀ o, getO row n = some o → ∀ w ∈ o.kind :: o.sl, w % 2 = 0 → w / 2 ∈ nums row → w / 2 ∈ found ∨ w ∈ todo
theorem Fnd.start {row : List OB} {roots : List Int} : Fnd row roots [] roots :=
  ⟨by simp, List.nodup_nil, fun w hw h1 h2 => .root hw h1 h2, fun w hw _ _ => .inr hw, by simp⟩
theorem Fnd.skip {row : List OB} {roots found todo : List Int} {w : Int} (h : Fnd row roots found (w :: todo)) (hs : w % 2 = 0 → w / 2 ∈ nums row → w / 2 ∈ found) : Fnd row roots found todo := by
  refine ⟨h.ok, h.nd, fun x hx => h.td x (List.mem_cons_of_mem _ hx), fun x hx h1 h2 => ?_, fun n hn o ho x hx h1 h2 => ?_⟩
  · rcases h.rt x hx h1 h2 with c | c
    · exact .inl c
    · rcases List.mem_cons.mp c with rfl | c
      · exact .inl (hs h1 h2)
      · exact .inr c
  · rcases h.cl n hn o ho x hx h1 h2 with c | c
    · exact .inl c
    · rcases List.mem_cons.mp c with rfl | c
      · exact .inl (hs h1 h2)
      · exact .inr c
theorem Fnd.take {row : List OB} {roots found todo : List Int} {w : Int} {o : OB} (h : Fnd row roots found (w :: todo)) (h1 : w % 2 = 0) (h2 : w / 2 ∉ found) (ho : getO row (w / 2) = some o) : Fnd row roots (found ++ [w / 2]) (todo ++ (o.kind :: o.sl)) := by
  have hn := getO_nums ho
  have hr := h.td w (List.mem_cons_self ..) h1 hn
  refine ⟨fun n hm => ?_, ?_, fun x hx g1 g2 => ?_, fun x hx g1 g2 => ?_, fun n hm q hq x hx g1 g2 => ?_⟩
  · rcases List.mem_append.mp hm with hm | hm
    · exact h.ok n hm
    · rw [List.mem_singleton] at hm
      subst hm
      exact ⟨hr, hn⟩
  · refine List.nodup_append.mpr ⟨h.nd, by simp, fun x hx y hy e => ?_⟩
    rw [List.mem_singleton] at hy
    subst hy
    exact h2 (e ▸ hx)
  · rcases List.mem_append.mp hx with hx | hx
    · exact h.td x (List.mem_cons_of_mem _ hx) g1 g2
    · exact .step hr ho hx g1 g2
  · rcases h.rt x hx g1 g2 with c | c
    · exact .inl (List.mem_append_left _ c)
    · rcases List.mem_cons.mp c with rfl | c
      · exact .inl (List.mem_append_right _ (List.mem_singleton.mpr rfl))
      · exact .inr (List.mem_append_left _ c)
  · rcases List.mem_append.mp hm with hm | hm
    · rcases h.cl n hm q hq x hx g1 g2 with c | c
      · exact .inl (List.mem_append_left _ c)
      · rcases List.mem_cons.mp c with rfl | c
        · exact .inl (List.mem_append_right _ (List.mem_singleton.mpr rfl))
        · exact .inr (List.mem_append_left _ c)
    · rw [List.mem_singleton] at hm
      subst hm
      rw [ho] at hq
      cases hq
      exact .inr (List.mem_append_right _ hx)
theorem Fnd.perm {row : List OB} {roots found todo todo' : List Int} (h : Fnd row roots found todo) (e : ∀ w, w ∈ todo' ↔ w ∈ todo) : Fnd row roots found todo' :=
  ⟨h.ok, h.nd, fun w hw => h.td w ((e w).mp hw), fun w hw h1 h2 => (h.rt w hw h1 h2).imp id (e w).mpr, fun n hn o ho w hw h1 h2 => (h.cl n hn o ho w hw h1 h2).imp id (e w).mpr⟩
theorem Fnd.done {row : List OB} {roots found : List Int} (h : Fnd row roots found []) (n : Int) : n ∈ found ↔ Rch row roots n := by
  constructor
  · exact fun hn => (h.ok n hn).1
  · intro r
    induction r with
    | root hw h1 h2 => exact (h.rt _ hw h1 h2).resolve_right (by simp)
    | step r ho hw h1 h2 ih => exact (h.cl _ ih _ ho _ hw h1 h2).resolve_right (by simp)
theorem Fnd.few {row : List OB} {roots found todo : List Int} (h : Fnd row roots found todo) : found.length ≤ (nums row).length := by
  have : ∀ (l m : List Int), l.Nodup → (∀ x ∈ l, x ∈ m) → l.length ≤ m.length := by
    intro l
    induction l with
    | nil => exact fun _ _ _ => Nat.zero_le _
    | cons x l ih =>
      intro m hn hs
      have hn2 := List.nodup_cons.mp hn
      have hx := hs x (List.mem_cons_self ..)
      have := ih (m.erase x) hn2.2 fun y hy => (List.mem_erase_of_ne (show y ≠ x from fun e => hn2.1 (by rw [← e]; exact hy))).mpr (hs y (List.mem_cons_of_mem _ hy))
      rw [List.length_erase_of_mem hx] at this
      have := List.length_pos_of_mem hx
      rw [List.length_cons]
      omega
  exact this found (nums row) h.nd fun x hx => (h.ok x hx).2

theorem range_pick {α : Type} (p : α → Bool) (g : α → V) : ∀ (bs : List α), ((List.range bs.length).filter fun i => (bs[i]?.map p).getD false).map (fun i => (bs[i]?.map g).getD .non) = (bs.filter p).map g := by
  intro bs
  have : ∀ (n : Nat), n ≤ bs.length → ((List.range n).filter fun i => (bs[i]?.map p).getD false).map (fun i => (bs[i]?.map g).getD .non) = ((bs.take n).filter p).map g := by
    intro n
    induction n with
    | zero => intro _; rfl
    | succ n ih =>
      intro h
      have hn : n < bs.length := h
      rw [List.range_succ, List.filter_append, List.map_append, ih (by omega), List.take_add_one, List.filter_append, List.map_append, List.getElem?_eq_getElem hn]
      congr 1
      rw [List.filter_cons]
      simp only [List.getElem?_eq_getElem hn, Option.map_some, Option.getD_some, Option.toList_some]
      by_cases c : p bs[n] = true
      · simp [c, hn]
      · simp [c]
  have := this bs.length (Nat.le_refl _)
  rw [List.take_length] at this
  exact this

theorem all_below : ∀ (k : Nat) (l : List Int), (∀ m : Int, 0 ≤ m → m < k → m ∈ l) → k ≤ l.length
  | 0, _, _ => Nat.zero_le _
  | k + 1, l, h => by
    have hk : (k : Int) ∈ l := h k (by omega) (by omega)
    have := all_below k (l.erase (k : Int)) fun m m0 m1 => (List.mem_erase_of_ne (by omega)).mpr (h m m0 (by omega))
    rw [List.length_erase_of_mem hk] at this
    have := List.length_pos_of_mem hk
    omega
theorem free_least {row : List OB} {n : Int} (h : IsFree row n) : n ≤ row.length := by
  have := all_below n.toNat (nums row) fun m m0 m1 => h.2.2 m m0 (by have := h.1; omega)
  have := nums_len (row := row)
  omega

def sp_isref : Sp := fun vs H Q _ => ∃ w : Int, vs = [.int w] ∧ Q (.bl (decide (w % 2 = 0))) H
theorem sp_isref_len {vs H Q E} (h : sp_isref vs H Q E) : vs.length = (["word"] : List Str).length := by
  obtain ⟨_, rfl, _⟩ := h
  rfl
section
variable {P : Program} {w : World} {K : PySem.W.Frag} {mg : Str → Option Value} {base : Heap} {A : Ad}
theorem ok_is_ref (T : Txt K mg A) : FnOk P w K mg base CX0 1 A.f_is_ref A.d_is_ref ["word"] (sp_isref) := by
  refine Fun.ok T.F_is_ref sc_is_ref (fun vs H Q E h => ?_) (fun cdv Ar outer s H vs Q E hr h => ?_)
  · exact sp_isref_len h
  · have hu := hu_of hr
    refine ⟨_, (pss_one (ps_ret (pe_cmpR op_eq (pe_op op_mod (pv 0) pe_int) pe_int (nomark _)))), ?_⟩
    obtain ⟨w, rfl, k⟩ := h
    simp! only [rIsL]
    exact ⟨by decide, k⟩
end

def mkD (ks : List Int) : List (Key × V) := ks.map fun n => (Sum.inl n, .bl true)
theorem mkD_val : ∀ (ks : List Int) (n : Int), (valV (mkD ks) (Sum.inl n)).isSome = decide (n ∈ ks)
  | [], n => by simp [mkD, valV_nil]
  | k :: ks, n => by
    have ih := mkD_val ks n
    show (valV ((Sum.inl k, V.bl true) :: mkD ks) (Sum.inl n)).isSome = _
    by_cases e : k = n
    · subst e
      rw [valV_pos rfl]
      simp
    · rw [valV_neg (fun z => e (Sum.inl.inj z)), ih]
      have : ¬ n = k := fun z => e z.symm
      simp [this]
theorem mkD_put {ks : List Int} {n : Int} (h : n ∉ ks) : putK (mkD ks) (Sum.inl n) (.bl true) = mkD (ks ++ [n]) := by
  have : valV (mkD ks) (Sum.inl n) = none := by
    have := mkD_val ks n
    rw [decide_eq_false h] at this
    cases e : valV (mkD ks) (Sum.inl n) with
    | none => rfl
    | some v =>
      rw [e] at this
      cases this
  rw [putK_new _ this]
  unfold mkD
  rw [List.map_append]
  rfl
theorem mkD_keys {ks : List Int} : (mkD ks).map (·.1) = ks.map Sum.inl := by
  unfold mkD
  rw [List.map_map]
  rfl
theorem mkD_len {ks : List Int} : (mkD ks).length = ks.length := by
  unfold mkD
  rw [List.length_map]
def lrefs (ws : List (Addr × List Int)) : List V := ws.map fun x => .ref x.1
def lall (ws : List (Addr × List Int)) : List Int := ws.flatMap (·.2)
/-- the search under way -/
structure Sch (H0 H : Hp) (wl d : Addr) (row : List OB) (rs found : List Int) (ws : List (Addr × List Int)) (todo : List Int) : Prop where
  sm : Same H0 H
  hw : H wl = some (.lst (lrefs ws))
  hd : H d = some (.dK (mkD found))
  one : ∀ x ∈ ws, H x.1 = some (.lst (x.2.map V.int)) ∧ x.1 ≠ wl ∧ x.2.length ≤ 100000
  fn : Fnd row rs found (todo ++ lall ws)

def sp_reached (A : Ad) : Sp := fun vs H Q _ => ∃ (s p : Addr) (rm en : Int) (row : List OB) (F : Hp) (rs : List Int), vs = [.ref s, .ref p] ∧ St A H s rm en row F ∧ H p = some (.lst (rs.map V.int)) ∧ rs.length ≤ 100000 ∧
  ∀ H' d ks, Same H H' → H d = none → H' d = some (.dK (mkD ks)) → ks.Nodup → (∀ n, n ∈ ks ↔ Rch row rs n) → Q (.ref d) H'
theorem sp_reached_len {A vs H Q E} (h : sp_reached A vs H Q E) : vs.length = (["store", "roots"] : List Str).length := by
  obtain ⟨_, _, _, _, _, _, _, rfl, _⟩ := h
  rfl
section
variable {P : Program} {w : World} {K : PySem.W.Frag} {mg : Str → Option Value} {base : Heap} {A : Ad}
theorem ok_reached (T : Txt K mg A) : FnOk P w K mg base CX0 3 A.f_reached A.d_reached ["store", "roots"] (sp_reached A) := by
  refine Fun.ok T.F_reached sc_reached (fun vs H Q E h => ?_) (fun cdv Ar outer s H vs Q E hr h => ?_)
  · exact sp_reached_len h
  · have hu := hu_of hr
    refine ⟨_, (pss_cons (ps_asg pe_dnewK (pg_name (i := 2) sc_reached.nd rfl (Or.inl rfl)))
    (pss_cons (ps_asg (pe_lst (pa_cons (pe_callTy call_listM (by rfl) T.z_list (by decide +kernel) (pa_cons (pv 1) pa_nil)) pa_nil)) (pg_name (i := 3) sc_reached.nd rfl (Or.inl rfl)))
    (pss_cons (ps_while PassesOwn.never (pt_truth (pv 3) (by intro _; rfl)) (pss_cons (ps_asg (pe_bm0M PySem.F.slot_list_pop PySem.F.type_list_pop mt_pop (pv 3)) (pg_name (i := 4) sc_reached.nd rfl (Or.inl rfl)))
    (pss_one (ps_for PassesOwn.never rfl (pi_list (pv 4)) (pg_name (i := 5) sc_reached.nd rfl (Or.inl rfl))
      (pss_cons (ps_asg (pe_op op_fdiv (pv 5) pe_int) (pg_name (i := 6) sc_reached.nd rfl (Or.inl rfl)))
    (pss_one (ps_if (PW.pt (pw_and (pt_val (pe_call (ok_is_ref T) (hr.mono (by decide)) (by rfl) T.g_is_ref T.k_is_ref T.b_is_ref .nil pass0 (pa_cons (pv 5) pa_nil))) (pw_and (pt_cmpR (op_dnotinM hu) (pv 6) (pv 2) (by rfl)) (pw_and1 (pt_val (pe_meth (pv 0) T.cl_Store T.me_Store_exists (ok_Store_exists T) (hr.mono (by decide)) T.b_Store_exists .nil pass0 (pa_cons (pv 6) pa_nil))))))) (pss_cons (ps_asg pe_bl (pg_sub (pv 2) (pv 6) (set_dictM hu)))
    (pss_one (ps_expr (pe_bmM PySem.F.slot_list_append PySem.F.type_list_append mt_append (pv 3) (pa_cons (pe_op op_cat (pe_lst (pa_cons (pe_meth (pv 0) T.cl_Store T.me_Store_kind (ok_Store_kind T) (hr.mono (by decide)) T.b_Store_kind .nil pass0 (pa_cons (pv 6) pa_nil)) pa_nil)) (pe_meth (pv 0) T.cl_Store T.me_Store_slots (ok_Store_slots T) (hr.mono (by decide)) T.b_Store_slots .nil pass0 (pa_cons (pv 6) pa_nil))) pa_nil))))) pss_nil)))))))
    (pss_one (ps_ret (pv 2)))))), ?_⟩
    obtain ⟨s, p, rm, en, row, F, rs, rfl, S, hp, hrs, k⟩ := h
    have sz : (300000 : Nat) ≤ sizeLine := by decide
    simp! only [rIsL]
    intro d hd
    have sm0 : Same H (upd H d (.dK [])) := same_new hd
    have hd1 : upd H d (.dK []) d = some (.dK []) := upd_same
    generalize upd H d (.dK []) = H1 at sm0 hd1 ⊢
    have hp1 := sm0 _ _ hp
    simp! only [hp1]
    intro t ht
    refine ⟨by omega, fun wl hwl => ?_⟩
    have nt : ∀ (x : Addr), upd (upd H1 t (HO.lst (rs.map V.int))) wl (.lst [.ref t]) x = some (.dK []) → x = d ∨ True := fun _ _ => .inr trivial
    have t1 : upd H1 t (HO.lst (rs.map V.int)) t = some (.lst (rs.map V.int)) := upd_same
    have twl := ne_of_none t1 hwl
    have sm1 := same_trans (same_new (o := HO.lst (rs.map V.int)) ht) (same_new (o := HO.lst [.ref t]) hwl)
    have S0 : Sch H (upd (upd H1 t (HO.lst (rs.map V.int))) wl (.lst [.ref t])) wl d row rs [] [(t, rs)] [] := by
      refine ⟨same_trans sm0 sm1, upd_same, sm1 _ _ hd1, fun x hx => ?_, ?_⟩
      · rw [List.mem_singleton] at hx
        subst hx
        exact ⟨by rw [upd_ne twl]; exact t1, twl, hrs⟩
      · simp [lall]
        exact .start
    have wn : ∀ x, H x ≠ none → x ≠ wl := fun x hx e => by
      subst e
      cases q : H x with
      | none => exact hx q
      | some o =>
        have := same_new (o := HO.lst (rs.map V.int)) ht _ _ (sm0 _ _ q)
        rw [hwl] at this
        cases this
    generalize upd (upd H1 t (HO.lst (rs.map V.int))) wl (.lst [.ref t]) = H2 at S0 ⊢
    have hdn : H d = none := hd
    have hwn : H wl = none := by
      cases q : H wl with
      | none => rfl
      | some o => exact absurd rfl (wn wl (by rw [q]; simp))
    clear sm1 twl t1 nt hd1 hp1 ht hwl sm0
    obtain ⟨dx, w0, dd, f, ws0, kvs, fr, fs, I, RO⟩ := S
    have nl := nums_len (row := row)
    have rl := flat_rows row
    have rz := RO.sz
    have kz : ∀ n o, getO row n = some o → o.sl.length + 3 ≤ 100000 := fun n o ho => by
      obtain ⟨_, _, h, _⟩ := word_at ho
      omega
    refine ⟨fun m σ2 H' => ∃ (found : List Int) (ws : List (Addr × List Int)) (n4 n5 n6 : Option V), σ2 = [some (V.ref s), some (V.ref p), some (V.ref d), some (V.ref wl), n4, n5, n6] ∧ Sch H H' wl d row rs found ws [] ∧ m = (nums row).length - found.length + ws.length ∧ ws.length ≤ found.length + 1, ⟨_, [], [(t, rs)], _, _, _, rfl, S0, rfl, Nat.le_refl _⟩, ?_⟩
    rintro m σ2 H' ⟨found, ws, n4, n5, n6, rfl, C, rfl, wb⟩
    have hw := C.hw
    simp! only [hw]
    refine ⟨_, .inl ⟨_, .inl (.inl hw), rfl⟩, ?_⟩
    rcases List.eq_nil_or_concat ws with hws | ⟨ws', x, hws⟩
    · subst hws
      simp! only [lrefs, List.isEmpty_nil]
      have fn := C.fn
      simp only [lall, List.flatMap_nil, List.append_nil] at fn
      exact k H' d found C.sm hdn C.hd fn.nd fn.done
    · rw [List.concat_eq_append] at hws
      subst hws
      have ne : (lrefs (ws' ++ [x])).isEmpty = false := by
        unfold lrefs
        rw [List.map_append]
        simp
      rw [ne]
      simp! only [hw]
      have last : (lrefs (ws' ++ [x]))[(lrefs (ws' ++ [x])).length - 1]? = some (.ref x.1) := by simp [lrefs]
      have dl : (lrefs (ws' ++ [x])).dropLast = lrefs ws' := by simp [lrefs]
      rw [dl]
      obtain ⟨x1, x2, x3⟩ := C.one x (by simp)
      have few1 := C.fn.few
      rw [List.length_append, List.length_singleton] at wb
      have Cb : Sch H (upd H' wl (.lst (lrefs ws'))) wl d row rs found ws' x.2 := by
        refine ⟨fun b o hb => by rw [upd_ne (ne_of_none hb hwn)]; exact C.sm _ _ hb, upd_same, by rw [upd_ne (ne_ho C.hd C.hw (by simp))]; exact C.hd, fun y hy => ?_, C.fn.perm fun w => ?_⟩
        · obtain ⟨y1, y2, y3⟩ := C.one y (by simp [hy])
          exact ⟨by rw [upd_ne y2]; exact y1, y2, y3⟩
        · simp [lall]
          exact Or.comm
      have hx : upd H' wl (.lst (lrefs ws')) x.1 = some (.lst (x.2.map V.int)) := by rw [upd_ne x2]; exact x1
      generalize upd H' wl (.lst (lrefs ws')) = Hb at Cb hx ⊢
      refine ⟨fun σ' H2 => ∃ (found2 : List Int) (ws2 : List (Addr × List Int)) (n4 n5 n6 : Option V), σ' = [some (V.ref s), some (V.ref p), some (V.ref d), some (V.ref wl), n4, n5, n6] ∧ Sch H H2 wl d row rs found2 ws2 [] ∧ ws2.length + found.length = ws'.length + found2.length, ?_, _, last, ?_⟩
      · rintro σ' H2 ⟨found2, ws2, n4, n5, n6, rfl, C2, hc⟩
        have few2 := C2.fn.few
        exact ⟨_, by rw [List.length_append]; simp; omega, ⟨_, _, _, rfl⟩, found2, ws2, C2, rfl, by omega⟩
      · clear C hw ne last dl x1
        refine for_lst (H0 := Hb) (a := x.1) (x.2.map V.int) (fun R h => ⟨_, rfl, h⟩) (fun i σ' H2 => ∃ (found2 : List Int) (ws2 : List (Addr × List Int)) (n5 n6 : Option V), σ' = [some (V.ref s), some (V.ref p), some (V.ref d), some (V.ref wl), some (V.ref x.1), n5, n6] ∧ Sch H H2 wl d row rs found2 ws2 (x.2.drop i) ∧ H2 x.1 = some (.lst (x.2.map V.int)) ∧ ws2.length + found.length = ws'.length + found2.length) ⟨found, ws', _, _, rfl, Cb, hx, rfl⟩ ?_ ?_ ?_
        · rintro i σ' H2 _ ⟨found2, ws2, n5, n6, rfl, C2, h2, hc⟩
          exact .inl (.inl h2)
        · rintro i v σ' H2 hv ⟨found2, ws2, n5, n6, rfl, C2, h2, hc⟩
          rw [List.getElem?_map] at hv
          obtain ⟨w, hw, rfl⟩ := Option.map_eq_some_iff.mp hv
          have hlt := (List.getElem?_eq_some_iff.mp hw).1
          have dr : x.2.drop i = w :: x.2.drop (i + 1) := by rw [List.drop_eq_getElem_cons hlt, (List.getElem?_eq_some_iff.mp hw).2]
          rw [dr] at C2
          have few2 := C2.fn.few
          have fn2 := C2.fn
          rw [List.cons_append] at fn2
          have I2 := I.same C2.sm
          have skip : (w % 2 = 0 → w / 2 ∈ nums row → w / 2 ∈ found2) → Sch H H2 wl d row rs found2 ws2 (x.2.drop (i + 1)) := fun h => ⟨C2.sm, C2.hw, C2.hd, C2.one, fn2.skip h⟩
          have hd2 := C2.hd
          simp_all! only [I2.ho, hd2, mkD_val]
          refine ⟨⟨by decide, by decide⟩, w, rfl, ?_⟩
          by_cases e1 : w % 2 = 0
          · rw [decide_eq_true e1]
            simp_all! only [I2.ho, hd2, mkD_val]
            refine ite2 (fun e2 => ?_) (fun e2 => ⟨found2, ws2, skip fun _ _ => Classical.not_not.mp e2, h2, hc⟩)
            refine ⟨s, rm, en, row, F, w / 2, rfl, ⟨dx, w0, dd, f, ws0, kvs, fr, fs, I2, RO⟩, ?_⟩
            by_cases e3 : w / 2 ∈ nums row
            · rw [decide_eq_true e3]
              simp_all! only [I2.ho, hd2]
              obtain ⟨o, ho⟩ := getO_of_mem e3
              have hz := kz _ o ho
              refine ⟨by rw [mkD_len]; omega, ?_⟩
              rw [mkD_put e2]
              have dwl : wl ≠ d := ne_ho C2.hw hd2 (by simp)
              have I3 := I2.other (o := HO.dK (mkD (found2 ++ [w / 2]))) (I.part hdn) (I.out hdn)
              have hd3 : upd H2 d (HO.dK (mkD (found2 ++ [w / 2]))) wl = some (.lst (lrefs ws2)) := by rw [upd_ne dwl]; exact C2.hw
              have k3 : ∀ y L, H2 y = some (.lst L) → upd H2 d (HO.dK (mkD (found2 ++ [w / 2]))) y = some (.lst L) := fun y L hy => by rw [upd_ne (ne_ho hy hd2 (by simp))]; exact hy
              have sm3 : Same H (upd H2 d (HO.dK (mkD (found2 ++ [w / 2])))) := fun b u hb => by
                rw [upd_ne (ne_of_none hb hdn)]
                exact C2.sm _ _ hb
              have d3 : upd H2 d (HO.dK (mkD (found2 ++ [w / 2]))) d = some (.dK (mkD (found2 ++ [w / 2]))) := upd_same
              generalize upd H2 d (HO.dK (mkD (found2 ++ [w / 2]))) = Ha at I3 hd3 k3 sm3 d3 ⊢
              simp_all! only [I3.ho, hd3]
              refine ⟨s, rm, en, row, F, w / 2, o, rfl, ⟨dx, w0, dd, f, ws0, kvs, fr, fs, I3, RO⟩, ho, by omega, fun q hq => ?_⟩
              have I4 := I3.same (same_new (o := HO.lst [V.int o.kind]) hq)
              simp_all! only [I4.ho]
              refine ⟨s, rm, en, row, F, w / 2, o, rfl, ⟨dx, w0, dd, f, ws0, kvs, fr, fs, I4, RO⟩, ho, fun u hu => ?_⟩
              have qu := ne_of_none upd_same hu
              refine ⟨u, rfl, _, by rw [upd_ne qu, upd_same], _, upd_same, by rw [List.length_map]; simp; omega, fun p3 h3 => ?_⟩
              have sm4 := same_trans (same_trans (same_new (o := HO.lst [V.int o.kind]) hq) (same_new (o := HO.lst (o.sl.map V.int)) hu)) (same_new (o := HO.lst ([V.int o.kind] ++ o.sl.map V.int)) h3)
              have e5 : [V.int o.kind] ++ o.sl.map V.int = (o.kind :: o.sl).map V.int := rfl
              have p3wl : p3 ≠ wl := Ne.symm (ne_of_none (same_trans (same_new (o := HO.lst [V.int o.kind]) hq) (same_new (o := HO.lst (o.sl.map V.int)) hu) _ _ hd3) h3)
              have g3 : upd (upd (upd Ha q (HO.lst [V.int o.kind])) u (HO.lst (o.sl.map V.int))) p3 (HO.lst ([V.int o.kind] ++ o.sl.map V.int)) p3 = some (.lst ((o.kind :: o.sl).map V.int)) := upd_same
              generalize upd (upd (upd Ha q (HO.lst [V.int o.kind])) u (HO.lst (o.sl.map V.int))) p3 (HO.lst ([V.int o.kind] ++ o.sl.map V.int)) = Hd at sm4 g3 ⊢
              have fn4 := fn2.take e1 e2 ho
              have few4 := fn4.few
              rw [List.length_append, List.length_singleton] at few4
              refine ⟨_, sm4 _ _ hd3, by unfold lrefs; rw [List.length_map]; omega, found2 ++ [w / 2], ws2 ++ [(p3, o.kind :: o.sl)], ⟨fun b v hb => ?_, ?_, ?_, fun y hy => ?_, fn4.perm fun z => ?_⟩, ?_, ?_⟩
              · rw [upd_ne (ne_of_none hb hwn)]
                exact sm4 _ _ (sm3 _ _ hb)
              · rw [upd_same]
                simp [lrefs]
              · rw [upd_ne (Ne.symm dwl)]
                exact sm4 _ _ d3
              · rcases List.mem_append.mp hy with hy | hy
                · obtain ⟨y1, y2, y3⟩ := C2.one y hy
                  exact ⟨by rw [upd_ne y2]; exact sm4 _ _ (k3 _ _ y1), y2, y3⟩
                · rw [List.mem_singleton] at hy
                  subst hy
                  exact ⟨by rw [upd_ne p3wl]; exact g3, p3wl, by simp; omega⟩
              · simp [lall, or_assoc]
              · rw [upd_ne x2]
                exact sm4 _ _ (k3 _ _ h2)
              · rw [List.length_append, List.length_append, List.length_singleton, List.length_singleton]
                omega
            · rw [decide_eq_false e3]
              simp! only [rIsL]
              exact ⟨found2, ws2, skip fun _ h => absurd h e3, h2, hc⟩
          · rw [decide_eq_false e1]
            simp! only [rIsL]
            exact ⟨found2, ws2, skip fun h _ => absurd h e1, h2, hc⟩
        · rintro σ' H2 ⟨found2, ws2, n5, n6, rfl, C2, h2, hc⟩
          rw [List.length_map, List.drop_length] at C2
          exact ⟨found2, ws2, _, _, _, rfl, C2, hc⟩
end

def szO (row : List OB) (n : Int) : Int := match getO row n with
  | some o => 3 + (o.sl.length : Int)
  | none => 0
theorem szO_of {row : List OB} {n : Int} {o : OB} (h : getO row n = some o) : szO row n = 3 + (o.sl.length : Int) := by
  unfold szO
  rw [h]
def total (row : List OB) (ks : List Int) : Int := (ks.map (szO row)).sum
theorem perm_sum {xs ys : List Int} (h : xs.Perm ys) : xs.sum = ys.sum := by
  induction h with
  | nil => rfl
  | cons x _ ih => rw [List.sum_cons, List.sum_cons, ih]
  | swap x y l =>
    rw [List.sum_cons, List.sum_cons, List.sum_cons, List.sum_cons]
    omega
  | trans _ _ h1 h2 => exact h1.trans h2
theorem LcR.allF {f : Nat → V} {n ys} (h : LcR (fun _ => true) (fun i y => y = f i) n ys) : ys = (List.range n).map f := by
  have := h.map
  rw [this]
  congr 1
  exact List.filter_eq_self.mpr fun _ _ => rfl
theorem range_map (xs : List Int) (f : Int → V) : (List.range xs.length).map (fun i => f (xs.getD i 0)) = xs.map f := by
  apply List.ext_getElem
  · simp
  · intro i h1 h2
    simp at h1
    simp [List.getD_eq_getElem?_getD, h1]
theorem mkD_get : ∀ {ks : List Int} {n : Int}, n ∈ ks → valV (mkD ks) (Sum.inl n) = some (.bl true)
  | [], n, h => by cases h
  | k :: ks, n, h => by
    show valV ((Sum.inl k, V.bl true) :: mkD ks) (Sum.inl n) = _
    by_cases e : k = n
    · subst e
      rw [valV_pos rfl]
    · rw [valV_neg (fun z => e (Sum.inl.inj z))]
      rcases List.mem_cons.mp h with c | c
      · exact absurd c.symm e
      · exact mkD_get c

theorem sort_ex (l : List Int) : ∃ zs : List Int, zs.Perm l ∧ zs.Pairwise (· ≤ ·) :=
  ⟨l.mergeSort (fun a b => decide (a ≤ b)), List.mergeSort_perm _ _, by
    have h := List.pairwise_mergeSort (le := fun (a b : Int) => decide (a ≤ b)) (fun a b c h1 h2 => by simp at *; omega) (fun a b => by simp; omega) l
    exact h.imp fun h => of_decide_eq_true h⟩
def keep (row : List OB) (ks : List Int) : List OB := row.filter fun o => o.al && decide (o.num ∈ ks)
theorem drop_filter : ∀ (row : List OB) (n : Int), (dropO row n).filter (·.al) = (row.filter (·.al)).filter fun o => decide (o.num ≠ n)
  | [], _ => rfl
  | o :: r, n => by
    show (dropX n o :: dropO r n).filter (·.al) = _
    rw [List.filter_cons, List.filter_cons, drop_filter r n]
    by_cases a : o.al = true
    · by_cases e : o.num = n
      · rw [dropX_t (hasN_iff.mpr ⟨a, e⟩), if_neg (by simp), if_pos a, List.filter_cons, if_neg (by simp [e])]
      · rw [dropX_f (fun x => e (hasN_iff.mp x).2), if_pos a, if_pos a, List.filter_cons, if_pos (by simp [e])]
    · rw [dropX_f (fun x => a (hasN_iff.mp x).1), if_neg a, if_neg a]
def dropAll (row : List OB) (l : List Int) : List OB := l.foldl dropO row
theorem dropAll_filter : ∀ (l : List Int) (row : List OB), (dropAll row l).filter (·.al) = (row.filter (·.al)).filter fun o => decide (o.num ∉ l)
  | [], row => by
    show row.filter (·.al) = _
    exact (List.filter_eq_self.mpr fun _ _ => by simp).symm
  | n :: l, row => by
    show (dropAll (dropO row n) l).filter (·.al) = _
    rw [dropAll_filter l (dropO row n), drop_filter, List.filter_filter]
    congr 1
    funext o
    by_cases e : o.num = n
    · simp [e]
    · simp [e]
theorem dropAll_keep {row : List OB} {l ks : List Int} (h : ∀ n ∈ nums row, n ∉ l ↔ n ∈ ks) : (dropAll row l).filter (·.al) = keep row ks := by
  rw [dropAll_filter, List.filter_filter]
  unfold keep
  refine List.filter_congr fun o ho => ?_
  by_cases a : o.al = true
  · have := h o.num (mem_nums.mpr ⟨o, ho, hasN_iff.mpr ⟨a, rfl⟩⟩)
    by_cases b : o.num ∈ ks
    · simp [a, b, this.mpr b]
    · have : o.num ∈ l := Classical.byContradiction fun c => b (this.mp c)
      simp [b, this]
  · simp [a]
theorem keep_nums {row : List OB} {ks : List Int} : nums (keep row ks) = (nums row).filter fun n => decide (n ∈ ks) := by
  unfold nums keep
  rw [List.filter_map, List.filter_filter, List.filter_filter]
  congr 1
  refine List.filter_congr fun o _ => ?_
  show (o.al && (o.al && decide (o.num ∈ ks))) = (decide (o.num ∈ ks) && o.al)
  cases o.al <;> simp
theorem keep_get : ∀ (row : List OB) (ks : List Int) (n : Int), getO (keep row ks) n = if n ∈ ks then getO row n else none
  | [], ks, n => by simp [keep, getO]
  | o :: r, ks, n => by
    have ih := keep_get r ks n
    unfold keep at ih ⊢
    rw [List.filter_cons]
    by_cases c : (o.al && decide (o.num ∈ ks)) = true
    · rw [if_pos c, getO_cons, getO_cons, ih]
      rw [Bool.and_eq_true] at c
      have c2 := of_decide_eq_true c.2
      by_cases h : hasN n o = true
      · rw [if_pos h, if_pos h, if_pos ((hasN_iff.mp h).2 ▸ c2)]
      · rw [if_neg h, if_neg h]
    · rw [if_neg c, ih, getO_cons]
      by_cases h : hasN n o = true
      · have h2 := hasN_iff.mp h
        have : n ∉ ks := fun m => c (by rw [h2.1, h2.2, decide_eq_true m]; rfl)
        rw [if_neg this, if_neg this]
      · rw [if_neg h]
theorem keep_all {row : List OB} {ks : List Int} (h1 : ∀ o ∈ row, o.al = true) (h2 : ∀ n ∈ nums row, n ∈ ks) : keep row ks = row := by
  unfold keep
  refine List.filter_eq_self.mpr fun o ho => ?_
  rw [h1 o ho, decide_eq_true (h2 _ (mem_nums.mpr ⟨o, ho, hasN_iff.mpr ⟨h1 o ho, rfl⟩⟩))]
  rfl
theorem keep_al {row : List OB} {ks : List Int} : ∀ o ∈ keep row ks, o.al = true := fun o ho => by
  have := (List.mem_filter.mp ho).2
  rw [Bool.and_eq_true] at this
  exact this.1
theorem Rch.nums {row : List OB} {rs : List Int} {n : Int} (h : Rch row rs n) : n ∈ My.nums row := by
  cases h with
  | root _ _ h => exact h
  | step _ _ _ _ h => exact h
theorem keep_rch {row : List OB} {rs ks : List Int} (h : ∀ n, n ∈ ks ↔ Rch row rs n) (n : Int) : Rch (keep row ks) rs n ↔ Rch row rs n := by
  have mem : ∀ m, m ∈ nums (keep row ks) ↔ m ∈ nums row ∧ m ∈ ks := fun m => by
    rw [keep_nums, List.mem_filter]
    simp
  constructor
  · intro r
    induction r with
    | root hw h1 h2 => exact .root hw h1 ((mem _).mp h2).1
    | step r ho hw h1 h2 ih =>
      rw [keep_get] at ho
      split at ho
      · exact .step ih ho hw h1 ((mem _).mp h2).1
      · cases ho
  · intro r
    induction r with
    | root hw h1 h2 => exact .root hw h1 ((mem _).mpr ⟨h2, (h _).mpr (.root hw h1 h2)⟩)
    | step r ho hw h1 h2 ih =>
      refine .step ih (o := _) ?_ hw h1 ((mem _).mpr ⟨h2, (h _).mpr (.step r ho hw h1 h2)⟩)
      rw [keep_get, if_pos ((h _).mpr r)]
      exact ho

def sp_collect (A : Ad) : Sp := fun vs H Q _ => ∃ (s p : Addr) (rm en : Int) (row : List OB) (F : Hp) (rs : List Int), vs = [.ref s, .ref p] ∧ St A H s rm en row F ∧ F p = some (.lst (rs.map V.int)) ∧ rs.length ≤ 100000 ∧
  ∀ H' (ks : List Int), St A H' s rm en (keep row ks) F → ks.Nodup → (∀ n, n ∈ ks ↔ Rch row rs n) → Q (.int (((nums row).length : Int) - ks.length)) H'
theorem sp_collect_len {A vs H Q E} (h : sp_collect A vs H Q E) : vs.length = (["store", "roots"] : List Str).length := by
  obtain ⟨_, _, _, _, _, _, _, rfl, _⟩ := h
  rfl
section
variable {P : Program} {w : World} {K : PySem.W.Frag} {mg : Str → Option Value} {base : Heap} {A : Ad}
theorem ok_collect (T : Txt K mg A) : FnOk P w K mg base CX0 4 A.f_collect A.d_collect ["store", "roots"] (sp_collect A) := by
  refine Fun.ok T.F_collect sc_collect (fun vs H Q E h => ?_) (fun cdv Ar outer s H vs Q E hr h => ?_)
  · exact sp_collect_len h
  · have hu := hu_of hr
    refine ⟨_, (pss_cons (ps_asg (pe_call (ok_reached T) (hr.mono (by decide)) (by rfl) T.g_reached T.k_reached T.b_reached .nil pass0 (pa_cons (pv 0) (pa_cons (pv 1) pa_nil))) (pg_name (i := 2) sc_collect.nd rfl (Or.inr rfl)))
    (pss_cons (ps_setLc (i := 4) (own := [("number", 3)]) (g := gName 3) rfl sc_collect.nd rfl rfl (sw_true rfl rfl rfl (by decide +kernel)) (pi_list (pe_meth0 (pv 0) T.cl_Store T.me_Store_numbers (ok_Store_numbers T) (hr.mono (by decide)) T.b_Store_numbers .nil pass0)) (blkOk_by (own := [("number", 3)]) (N := ["store", "roots", "kept", "number", "lost"]) (sc := defScope s_collect) (by decide +kernel)) (fun _ _ _ _ _ => pg_name (i := 3) sc_collect.nd rfl (Or.inl rfl)) (fun _ _ _ _ _ => (pts_one (pt_cmpR (op_dnotinM hu) (pv 3) (pv 2) (by rfl)))) (fun _ _ _ _ _ => (pv 3)))
    (pss_cons (ps_for PassesOwn.never rfl (pi_list (pv 4)) (pg_name (i := 3) sc_collect.nd rfl (Or.inl rfl))
      (pss_one (ps_expr (pe_meth (pv 0) T.cl_Store T.me_Store_drop (ok_Store_drop T) (hr.mono (by decide)) T.b_Store_drop .nil pass0 (pa_cons (pv 3) pa_nil)))))
    (pss_cons (ps_expr (pe_meth0 (pv 0) T.cl_Store T.me_Store_close_up (ok_Store_close_up T) (hr.mono (by decide)) T.b_Store_close_up .nil pass0))
    (pss_one (ps_ret (pe_callB call_lenM (by rfl) T.z_len PySem.boot_len (pa_cons (pv 4) pa_nil)))))))), ?_⟩
    obtain ⟨s, p, rm, en, row, F, rs, rfl, S, hp, hrs, k⟩ := h
    simp! only [rIsL]
    refine ⟨s, p, rm, en, row, F, rs, rfl, S, S.get hp, hrs, fun H1 d ks sm hd d1 nd ch => ?_⟩
    have S1 : St A H1 s rm en row (upd F d (.dK (mkD ks))) := S.more sm fun b u hb => by
      by_cases c : b = d
      · subst c
        rw [upd_same] at hb
        exact .inr ⟨hd, by rw [d1]; exact hb⟩
      · rw [upd_ne c] at hb
        exact .inl hb
    have smF : Same F (upd F d (.dK (mkD ks))) := same_new (S.none hd)
    have hfd : upd F d (HO.dK (mkD ks)) d = some (.dK (mkD ks)) := upd_same
    generalize upd F d (HO.dK (mkD ks)) = F1 at S1 smF hfd
    have nl := nums_len (row := row)
    have rl := flat_rows row
    have bounds : (nums row).Nodup ∧ (flat row).length ≤ 100000 := by
      obtain ⟨dx, w, dd, f, ws, kvs, fr, fs, I, R⟩ := S1
      exact ⟨R.nd, R.sz⟩
    obtain ⟨ndr, rz⟩ := bounds
    obtain ⟨dx, w, dd, f, fs, ho⟩ := S1.ho
    obtain ⟨ys, h1, h1o⟩ := sort_ex (nums row)
    have yl := h1.length_eq
    simp! only [rIsL]
    refine lc_lstN (K := K) (ys.map V.int) (fun i => (ys[i]?.map fun n => decide (n ∉ ks)).getD false) (fun i y => y = (ys[i]?.map fun n => V.int n).getD .non) (fun R h => ?_) (by rw [List.length_map]; omega) (fun i x H' R hx sm h => ?_) (fun i x H' R hx _ sm h => ?_) (fun H2 lt vs sm2 hlt hy => ?_)
    · simp_all! only [ho]
      refine ⟨s, rm, en, row, F1, rfl, S1, fun zs q hz1 hz2 hq => ?_⟩
      have e := sorted_eq (hz1.trans h1.symm) hz2 h1o
      subst e
      exact h q _ (same_new hq) (.inl (.inl upd_same))
    · rw [List.getElem?_map] at hx
      obtain ⟨n, hn, e⟩ := Option.map_eq_some_iff.mp hx
      subst e
      rw [hn] at h
      have d2 := (S1.same sm).get hfd
      simp! only [d2, mkD_val]
      have e2 : (!decide (n ∈ ks)) = decide (n ∉ ks) := by by_cases c : n ∈ ks <;> simp [c]
      rw [e2]
      exact h
    · rw [List.getElem?_map] at hx
      obtain ⟨n, hn, e⟩ := Option.map_eq_some_iff.mp hx
      subst e
      simp! only [rIsL]
      exact h _ (by rw [hn]; rfl)
    · have S2 := S1.same sm2
      rw [List.length_map] at hy
      have e := hy.map
      rw [range_pick] at e
      subst e
      have S3 := S2.new (o := HO.lst ((ys.filter fun n => decide (n ∉ ks)).map V.int)) hlt
      have Fl := S2.none hlt
      have sm3 := same_trans smF (same_new (o := HO.lst ((ys.filter fun n => decide (n ∉ ks)).map V.int)) Fl)
      have fl3 : upd F1 lt (HO.lst ((ys.filter fun n => decide (n ∉ ks)).map V.int)) lt = some (.lst ((ys.filter fun n => decide (n ∉ ks)).map V.int)) := upd_same
      generalize upd F1 lt (HO.lst ((ys.filter fun n => decide (n ∉ ks)).map V.int)) = F3 at S3 sm3 fl3
      generalize upd H2 lt (HO.lst ((ys.filter fun n => decide (n ∉ ks)).map V.int)) = H3 at S3 ⊢
      have ll : ∀ n, n ∈ (ys.filter fun n => decide (n ∉ ks)) ↔ n ∈ nums row ∧ n ∉ ks := fun n => by
        rw [List.mem_filter, h1.mem_iff]
        simp
      have lnd : (ys.filter fun n => decide (n ∉ ks)).Nodup := (h1.nodup_iff.mpr ndr).filter _
      have llen : (ys.filter fun n => decide (n ∉ ks)).length + ks.length = (nums row).length := by
        have p : ((ys.filter fun n => decide (n ∉ ks)) ++ ks).Perm (nums row) := by
          refine (List.perm_ext_iff_of_nodup (List.nodup_append.mpr ⟨lnd, nd, fun x hx y hy e => ?_⟩) ndr).mpr fun n => ?_
          · subst e
            exact ((ll x).mp hx).2 hy
          · rw [List.mem_append, ll]
            constructor
            · rintro (h | h)
              · exact h.1
              · exact ((ch n).mp h).nums
            · intro h
              by_cases c : n ∈ ks
              · exact .inr c
              · exact .inl ⟨h, c⟩
        have := p.length_eq
        rw [List.length_append] at this
        exact this
      generalize hL : (ys.filter fun n => decide (n ∉ ks)) = L at fl3 ll lnd llen
      clear S2 S1
      refine for_lst (K := K) (H0 := H3) (a := lt) (L.map V.int) (fun R h => ⟨_, rfl, h⟩) (fun i σ' H' => ∃ n3 : Option V, σ' = [some (.ref s), some (.ref p), some (.ref d), n3, some (.ref lt)] ∧ St A H' s rm en (dropAll row (L.take i)) F3) ⟨_, rfl, S3⟩ ?_ ?_ ?_
      · rintro i σ' H' _ ⟨n3, rfl, S4⟩
        exact .inl (.inl (S4.get fl3))
      · rintro i x σ' H' hx ⟨n3, rfl, S4⟩
        rw [List.getElem?_map] at hx
        obtain ⟨n, hn, rfl⟩ := Option.map_eq_some_iff.mp hx
        obtain ⟨dx, w, dd, f, fs, ho⟩ := S4.ho
        simp_all! only [ho]
        have tk : L.take (i + 1) = L.take i ++ [n] := by rw [List.take_add_one, hn]; rfl
        have stay : ∀ (l : List Int) (row : List OB), n ∈ nums row → n ∉ l → n ∈ nums (dropAll row l) := by
          intro l
          induction l with
          | nil => exact fun _ h _ => h
          | cons m l ih =>
            intro row h1 h2
            refine ih (dropO row m) ?_ (fun z => h2 (List.mem_cons_of_mem _ z))
            rw [nums_drop, List.mem_filter]
            exact ⟨h1, decide_eq_true fun e => h2 (e ▸ List.mem_cons_self ..)⟩
        have nin : n ∉ L.take i := fun z => by
          obtain ⟨j, hj⟩ := List.mem_iff_getElem?.mp z
          have jl := (List.getElem?_eq_some_iff.mp hj).1
          rw [List.length_take] at jl
          rw [List.getElem?_take, if_pos (by omega)] at hj
          have l1 := List.getElem?_eq_some_iff.mp hj
          have l2 := List.getElem?_eq_some_iff.mp hn
          have := (List.getElem_inj lnd).mp (l1.2.trans l2.2.symm)
          omega
        refine ⟨s, rm, en, _, F3, n, rfl, S4, stay _ _ ((ll n).mp (List.mem_of_getElem? hn)).1 nin, fun H5 S5 => ?_⟩
        rw [tk]
        unfold dropAll at S5 ⊢
        rw [List.foldl_append]
        exact S5
      · rintro σ' H' ⟨n3, rfl, S4⟩
        rw [List.length_map, List.take_length] at S4
        obtain ⟨dx, w, dd, f, fs, ho⟩ := S4.ho
        simp_all! only [ho]
        refine ⟨s, rm, en, _, F3, rfl, S4, fun H5 S5 => ?_⟩
        have l5 := S5.get fl3
        rw [dropAll_keep (ks := ks) fun n hn => by rw [ll]; constructor <;> intro h <;> (try simp_all)] at S5
        simp! only [l5, List.length_map]
        rw [show (L.length : Int) = ((nums row).length : Int) - ks.length by omega]
        exact k H5 ks (S5.less sm3) nd ch
end

theorem store_new {A : Ad} {H : Hp} {rm en : Int} {R : Addr → Hp → Prop} (h0 : 0 ≤ en) (h1 : en ≤ 100000) (h : ∀ s H', St A H' s rm en [] H → R s H') :
    ∀ x dx, H x = none → H dx = none → dx ≠ x → sp_mk A.C_Store [.ref x, .int rm, .int en] (upd (upd H dx (.own x)) x (.ins A.C_Store dx [])) (fun v H2 => v = .non ∧ R x H2) E0 := by
  intro x dx hx hdx ne
  refine ⟨x, dx, rm, en, rfl, upd_same, fun w d f H' hw hd hf wf ha h2 h3 h4 fr => ⟨rfl, h x H' ?_⟩⟩
  have out : ∀ b, upd (upd H dx (.own x)) x (.ins A.C_Store dx []) b = none → b ≠ x ∧ b ≠ dx ∧ H b = none := fun b hb => by
    have n1 : x ≠ b := ne_of_none upd_same hb
    have n2 : dx ≠ b := ne_of_none (by rw [upd_ne ne, upd_same]) hb
    rw [upd_ne (Ne.symm n1), upd_ne (Ne.symm n2)] at hb
    exact ⟨Ne.symm n1, Ne.symm n2, hb⟩
  obtain ⟨_, _, w3⟩ := out w hw
  obtain ⟨_, _, d3⟩ := out d hd
  obtain ⟨_, _, f3⟩ := out f hf
  refine ⟨dx, w, d, f, [], [], [], 0, ⟨ha, h2, h3, h4, wf, fun b o hb => ?_⟩, RowOk.mk0 h0 h1⟩
  have b1 := ne_of_none hb hx
  have b2 := ne_of_none hb w3
  have b3 := ne_of_none hb d3
  have b4 := ne_of_none hb f3
  refine ⟨?_, b1, b2, b3, b4⟩
  rw [fr b b1 b2 b3 b4, upd_ne b1, upd_ne (ne_of_none hb hdx)]
  exact hb

/-! ### the space on the heap -/
def spF (s : Addr) (al : Bool) (pr : Addr) (na nc : Int) (rt hl mo : Addr) (wk : V) : List (Str × V) := [("store", .ref s), ("always", .bl al), ("pressure", .ref pr), ("allocations", .int na), ("collections", .int nc), ("_roots", .ref rt), ("_held", .ref hl), ("_moments", .ref mo), ("_work", wk)]
theorem spF_store {s al pr na nc rt hl mo wk} : List.lookup ("store" : Str) (spF s al pr na nc rt hl mo wk) = some (V.ref s) := rfl
theorem spF_always {s al pr na nc rt hl mo wk} : List.lookup ("always" : Str) (spF s al pr na nc rt hl mo wk) = some (V.bl al) := rfl
theorem spF_press {s al pr na nc rt hl mo wk} : List.lookup ("pressure" : Str) (spF s al pr na nc rt hl mo wk) = some (V.ref pr) := rfl
theorem spF_alloc {s al pr na nc rt hl mo wk} : List.lookup ("allocations" : Str) (spF s al pr na nc rt hl mo wk) = some (V.int na) := rfl
theorem spF_coll {s al pr na nc rt hl mo wk} : List.lookup ("collections" : Str) (spF s al pr na nc rt hl mo wk) = some (V.int nc) := rfl
theorem spF_roots {s al pr na nc rt hl mo wk} : List.lookup ("_roots" : Str) (spF s al pr na nc rt hl mo wk) = some (V.ref rt) := rfl
theorem spF_held {s al pr na nc rt hl mo wk} : List.lookup ("_held" : Str) (spF s al pr na nc rt hl mo wk) = some (V.ref hl) := rfl
theorem spF_mom {s al pr na nc rt hl mo wk} : List.lookup ("_moments" : Str) (spF s al pr na nc rt hl mo wk) = some (V.ref mo) := rfl
theorem spF_work {s al pr na nc rt hl mo wk} : List.lookup ("_work" : Str) (spF s al pr na nc rt hl mo wk) = some (wk) := rfl
theorem spF_mset {s al pr na nc rt hl mo wk} : List.lookup ("set_root" : Str) (spF s al pr na nc rt hl mo wk) = none := rfl
theorem spF_mhold {s al pr na nc rt hl mo wk} : List.lookup ("hold" : Str) (spF s al pr na nc rt hl mo wk) = none := rfl
theorem spF_mall {s al pr na nc rt hl mo wk} : List.lookup ("all_roots" : Str) (spF s al pr na nc rt hl mo wk) = none := rfl
theorem spF_mcoll {s al pr na nc rt hl mo wk} : List.lookup ("collect" : Str) (spF s al pr na nc rt hl mo wk) = none := rfl
theorem spF_mbes {s al pr na nc rt hl mo wk} : List.lookup ("_collect_beside" : Str) (spF s al pr na nc rt hl mo wk) = none := rfl
theorem spF_mnew {s al pr na nc rt hl mo wk} : List.lookup ("new" : Str) (spF s al pr na nc rt hl mo wk) = none := rfl
theorem spF_mroot {s al pr na nc rt hl mo wk} : List.lookup ("root" : Str) (spF s al pr na nc rt hl mo wk) = none := rfl
theorem spF_mdrop {s al pr na nc rt hl mo wk} : List.lookup ("drop" : Str) (spF s al pr na nc rt hl mo wk) = none := rfl
theorem spF_mheld {s al pr na nc rt hl mo wk} : List.lookup ("held" : Str) (spF s al pr na nc rt hl mo wk) = none := rfl
theorem spF_mlive {s al pr na nc rt hl mo wk} : List.lookup ("live_words" : Str) (spF s al pr na nc rt hl mo wk) = none := rfl
theorem spF_mpress {s al pr na nc rt hl mo wk} : List.lookup ("press" : Str) (spF s al pr na nc rt hl mo wk) = none := rfl
theorem spF_mbegin {s al pr na nc rt hl mo wk} : List.lookup ("begin" : Str) (spF s al pr na nc rt hl mo wk) = none := rfl
theorem spF_mcommit {s al pr na nc rt hl mo wk} : List.lookup ("commit" : Str) (spF s al pr na nc rt hl mo wk) = none := rfl
theorem spF_mabort {s al pr na nc rt hl mo wk} : List.lookup ("abort" : Str) (spF s al pr na nc rt hl mo wk) = none := rfl
theorem spF_len {s al pr na nc rt hl mo wk} : (spF s al pr na nc rt hl mo wk).length = 9 := rfl
theorem spF_pal {s al pr na nc rt hl mo wk} {z : Int} : putF "allocations" (.int z) (spF s al pr na nc rt hl mo wk) = spF s al pr z nc rt hl mo wk := rfl
theorem spF_pco {s al pr na nc rt hl mo wk} {z : Int} : putF "collections" (.int z) (spF s al pr na nc rt hl mo wk) = spF s al pr na z rt hl mo wk := rfl
/-- what stands for the space a beside its store s; F: what stands beside both -/
structure SpR (A : Ad) (F1 : Hp) (a dx s pr rt hl mo : Addr) (al : Bool) (mom : List Int) (na nc : Int) (roots held : List Int) (F : Hp) : Prop where
  ho : F1 a = some (.ins A.C_Space dx (spF s al pr na nc rt hl mo .non))
  hr : F1 rt = some (.lst (roots.map V.int))
  hh : F1 hl = some (.lst (held.map V.int))
  hm : ∃ kvs : List (Key × V), F1 mo = some (.dK kvs) ∧ ∀ n : Int, (valV kvs (Sum.inl n)).isSome = decide (n ∈ mom)
  ne : rt ≠ hl
  fr : ∀ p o, F p = some o → F1 p = some o ∧ p ≠ a ∧ p ≠ rt ∧ p ≠ hl ∧ p ≠ mo
structure Sq (A : Ad) (H : Hp) (a : Addr) (rm en : Int) (row : List OB) (al : Bool) (mom : List Int) (na nc : Int) (roots held : List Int) (F : Hp) (dx s pr rt hl mo : Addr) (F1 : Hp) : Prop where
  st : St A H s rm en row F1
  sp : SpR A F1 a dx s pr rt hl mo al mom na nc roots held F
/-- .. its parts left out -/
def SQ (A : Ad) (H : Hp) (a : Addr) (rm en : Int) (row : List OB) (al : Bool) (mom : List Int) (na nc : Int) (roots held : List Int) (F : Hp) : Prop := ∃ dx s pr rt hl mo F1, Sq A H a rm en row al mom na nc roots held F dx s pr rt hl mo F1
section
variable {A : Ad} {H H' : Hp} {a : Addr} {rm en : Int} {row : List OB} {al : Bool} {mom : List Int} {na nc : Int} {roots held : List Int} {F F' : Hp} {dx s pr rt hl mo : Addr} {F1 : Hp}
theorem Sq.ho (Z : Sq A H a rm en row al mom na nc roots held F dx s pr rt hl mo F1) : H a = some (.ins A.C_Space dx (spF s al pr na nc rt hl mo .non)) := Z.st.get Z.sp.ho
theorem Sq.hr (Z : Sq A H a rm en row al mom na nc roots held F dx s pr rt hl mo F1) : H rt = some (.lst (roots.map V.int)) := Z.st.get Z.sp.hr
theorem Sq.hh (Z : Sq A H a rm en row al mom na nc roots held F dx s pr rt hl mo F1) : H hl = some (.lst (held.map V.int)) := Z.st.get Z.sp.hh
theorem Sq.same (Z : Sq A H a rm en row al mom na nc roots held F dx s pr rt hl mo F1) (e : Same H H') : Sq A H' a rm en row al mom na nc roots held F dx s pr rt hl mo F1 := ⟨Z.st.same e, Z.sp⟩
theorem Sq.get (Z : Sq A H a rm en row al mom na nc roots held F dx s pr rt hl mo F1) {p : Addr} {o : HO} (e : F p = some o) : H p = some o := Z.st.get (Z.sp.fr p o e).1
theorem SQ.same (Z : SQ A H a rm en row al mom na nc roots held F) (e : Same H H') : SQ A H' a rm en row al mom na nc roots held F := by
  obtain ⟨dx, s, pr, rt, hl, mo, F1, Z⟩ := Z
  exact ⟨dx, s, pr, rt, hl, mo, F1, Z.same e⟩
theorem SQ.get (Z : SQ A H a rm en row al mom na nc roots held F) {p : Addr} {o : HO} (e : F p = some o) : H p = some o := by
  obtain ⟨dx, s, pr, rt, hl, mo, F1, Z⟩ := Z
  exact Z.get e
theorem SQ.less (Z : SQ A H a rm en row al mom na nc roots held F) (e : Same F' F) : SQ A H a rm en row al mom na nc roots held F' := by
  obtain ⟨dx, s, pr, rt, hl, mo, F1, S, R⟩ := Z
  exact ⟨dx, s, pr, rt, hl, mo, F1, S, R.ho, R.hr, R.hh, R.hm, R.ne, fun p o h => R.fr p o (e p o h)⟩
theorem SQ.out (Z : SQ A H a rm en row al mom na nc roots held F) {p : Addr} (e : H p = none) : F p = none := by
  cases q : F p with
  | none => rfl
  | some o =>
    rw [Z.get q] at e
    cases e
theorem SQ.nd (Z : SQ A H a rm en row al mom na nc roots held F) : (nums row).Nodup := by
  obtain ⟨dx, s, pr, rt, hl, mo, F1, ⟨_, _, _, _, _, _, _, _, I, R⟩, _⟩ := Z
  exact R.nd
theorem SQ.sz (Z : SQ A H a rm en row al mom na nc roots held F) : (flat row).length ≤ 100000 := by
  obtain ⟨dx, s, pr, rt, hl, mo, F1, ⟨_, _, _, _, _, _, _, _, I, R⟩, _⟩ := Z
  exact R.sz
theorem SpR.up {F1 F1' : Hp} (R : SpR A F1 a dx s pr rt hl mo al mom na nc roots held F) (e : Same F1 F1') (n : ∀ p o, F' p = some o → F p = some o ∨ (F1 p = none ∧ F1' p = some o)) : SpR A F1' a dx s pr rt hl mo al mom na nc roots held F' := by
  obtain ⟨kvs, m1, m2⟩ := R.hm
  refine ⟨e _ _ R.ho, e _ _ R.hr, e _ _ R.hh, ⟨kvs, e _ _ m1, m2⟩, R.ne, fun p o h => ?_⟩
  rcases n p o h with h | ⟨h1, h2⟩
  · obtain ⟨q1, q2⟩ := R.fr p o h
    exact ⟨e _ _ q1, q2⟩
  · exact ⟨h2, Ne.symm (ne_of_none R.ho h1), Ne.symm (ne_of_none R.hr h1), Ne.symm (ne_of_none R.hh h1), Ne.symm (ne_of_none m1 h1)⟩
/-- new objects beside the space, all at once -/
theorem SQ.more (Z : SQ A H a rm en row al mom na nc roots held F) (e : Same H H') (n : ∀ b o, F' b = some o → F b = some o ∨ (H b = none ∧ H' b = some o)) : SQ A H' a rm en row al mom na nc roots held F' := by
  obtain ⟨dx, s, pr, rt, hl, mo, F1, S, R⟩ := Z
  classical
  let F2 : Hp := fun b => if F1 b = none ∧ H b = none ∧ F' b ≠ none then F' b else F1 b
  have e2 : Same F1 F2 := fun b o h => by
    show (if F1 b = none ∧ H b = none ∧ F' b ≠ none then F' b else F1 b) = some o
    rw [if_neg (fun c => by rw [h] at c; cases c.1)]
    exact h
  refine ⟨dx, s, pr, rt, hl, mo, F2, S.more e fun b o h => ?_, R.up e2 fun p o h => ?_⟩
  · have h : (if F1 b = none ∧ H b = none ∧ F' b ≠ none then F' b else F1 b) = some o := h
    split at h
    · rename_i c
      rcases n b o h with q | q
      · rw [(R.fr b o q).1] at c
        cases c.1
      · exact .inr q
    · exact .inl h
  · rcases n p o h with q | q
    · exact .inl q
    · have f1 := S.none q.1
      refine .inr ⟨f1, ?_⟩
      show (if F1 p = none ∧ H p = none ∧ F' p ≠ none then F' p else F1 p) = some o
      rw [if_pos ⟨f1, q.1, by rw [h]; simp⟩]
      exact h
theorem SQ.new (Z : SQ A H a rm en row al mom na nc roots held F) {p : Addr} {o : HO} (e : H p = none) : SQ A (upd H p o) a rm en row al mom na nc roots held (upd F p o) :=
  Z.more (same_new e) fun b u h => by
    by_cases c : b = p
    · subst c
      rw [upd_same] at h
      exact .inr ⟨e, by rw [upd_same]; exact h⟩
    · rw [upd_ne c] at h
      exact .inl h
/-- an object beside the space changes -/
theorem SQ.set (Z : SQ A H a rm en row al mom na nc roots held F) {p : Addr} {o u : HO} (e : F p = some u) : SQ A (upd H p o) a rm en row al mom na nc roots held (upd F p o) := by
  obtain ⟨dx, s, pr, rt, hl, mo, F1, S, R⟩ := Z
  obtain ⟨f1, pa, pr1, ph, pm⟩ := R.fr p u e
  obtain ⟨kvs, m1, m2⟩ := R.hm
  refine ⟨dx, s, pr, rt, hl, mo, _, S.set f1, by rw [upd_ne (Ne.symm pa)]; exact R.ho, by rw [upd_ne (Ne.symm pr1)]; exact R.hr, by rw [upd_ne (Ne.symm ph)]; exact R.hh, ⟨kvs, by rw [upd_ne (Ne.symm pm)]; exact m1, m2⟩, R.ne, fun q v h => ?_⟩
  by_cases c : q = p
  · subst c
    rw [upd_same] at h
    exact ⟨by rw [upd_same]; exact h, pa, pr1, ph, pm⟩
  · rw [upd_ne c] at h ⊢
    exact R.fr q v h
theorem Sq.setroots (Z : Sq A H a rm en row al mom na nc roots held F dx s pr rt hl mo F1) (xs : List Int) : SQ A (upd H rt (.lst (xs.map V.int))) a rm en row al mom na nc xs held F := by
  obtain ⟨S, R⟩ := Z
  obtain ⟨kvs, m1, m2⟩ := R.hm
  have n1 : a ≠ rt := ne_ho R.ho R.hr (by simp)
  have n2 : mo ≠ rt := ne_ho m1 R.hr (by simp)
  exact ⟨dx, s, pr, rt, hl, mo, _, S.set R.hr, by rw [upd_ne n1]; exact R.ho, upd_same, by rw [upd_ne (Ne.symm R.ne)]; exact R.hh, ⟨kvs, by rw [upd_ne n2]; exact m1, m2⟩, R.ne, fun p o h => by
    obtain ⟨h1, h2, h3, h4, h5⟩ := R.fr p o h
    exact ⟨by rw [upd_ne h3]; exact h1, h2, h3, h4, h5⟩⟩
theorem Sq.setheld (Z : Sq A H a rm en row al mom na nc roots held F dx s pr rt hl mo F1) (xs : List Int) : SQ A (upd H hl (.lst (xs.map V.int))) a rm en row al mom na nc roots xs F := by
  obtain ⟨S, R⟩ := Z
  obtain ⟨kvs, m1, m2⟩ := R.hm
  have n1 : a ≠ hl := ne_ho R.ho R.hh (by simp)
  have n2 : mo ≠ hl := ne_ho m1 R.hh (by simp)
  exact ⟨dx, s, pr, rt, hl, mo, _, S.set R.hh, by rw [upd_ne n1]; exact R.ho, by rw [upd_ne R.ne]; exact R.hr, upd_same, ⟨kvs, by rw [upd_ne n2]; exact m1, m2⟩, R.ne, fun p o h => by
    obtain ⟨h1, h2, h3, h4, h5⟩ := R.fr p o h
    exact ⟨by rw [upd_ne h4]; exact h1, h2, h3, h4, h5⟩⟩
theorem Sq.counts (Z : Sq A H a rm en row al mom na nc roots held F dx s pr rt hl mo F1) (na' nc' : Int) : Sq A (upd H a (.ins A.C_Space dx (spF s al pr na' nc' rt hl mo .non))) a rm en row al mom na' nc' roots held F dx s pr rt hl mo (upd F1 a (.ins A.C_Space dx (spF s al pr na' nc' rt hl mo .non))) := by
  obtain ⟨S, R⟩ := Z
  obtain ⟨kvs, m1, m2⟩ := R.hm
  have n1 : rt ≠ a := ne_ho R.hr R.ho (by simp)
  have n2 : hl ≠ a := ne_ho R.hh R.ho (by simp)
  have n3 : mo ≠ a := ne_ho m1 R.ho (by simp)
  exact ⟨S.set R.ho, upd_same, by rw [upd_ne n1]; exact R.hr, by rw [upd_ne n2]; exact R.hh, ⟨kvs, by rw [upd_ne n3]; exact m1, m2⟩, R.ne, fun p o h => by
    obtain ⟨h1, h2, h3, h4, h5⟩ := R.fr p o h
    exact ⟨by rw [upd_ne h2]; exact h1, h2, h3, h4, h5⟩⟩
end

/-- a space that is being made at a, behind its store s -/
structure Bld (A : Ad) (H : Hp) (s : Addr) (rm en : Int) (F : Hp) (a dx : Addr) (fs : List (Str × V)) (H0 : Hp) : Prop where
  st : St A H s rm en [] F
  at_ : F a = some (.ins A.C_Space dx fs)
  old : ∀ p o, H0 p = some o → p ≠ a → F p = some o
theorem Bld.ha {A H s rm en F a dx fs H0} (B : Bld A H s rm en F a dx fs H0) : H a = some (.ins A.C_Space dx fs) := B.st.get B.at_
theorem Bld.set {A H s rm en F a dx fs H0} (B : Bld A H s rm en F a dx fs H0) (fs' : List (Str × V)) : Bld A (upd H a (.ins A.C_Space dx fs')) s rm en (upd F a (.ins A.C_Space dx fs')) a dx fs' H0 :=
  ⟨B.st.set B.at_, upd_same, fun p o h n => by rw [upd_ne n]; exact B.old p o h n⟩
theorem Bld.new {A H s rm en F a dx fs H0} (B : Bld A H s rm en F a dx fs H0) {p : Addr} {o : HO} (h : H p = none) : Bld A (upd H p o) s rm en (upd F p o) a dx fs H0 :=
  ⟨B.st.new h, by rw [upd_ne (ne_of_none B.ha h)]; exact B.at_, fun q u e n => by
    have := B.old q u e n
    rw [upd_ne (ne_of_none (B.st.get this) h)]
    exact this⟩
theorem Bld.out {A H s rm en F a dx fs H0} (B : Bld A H s rm en F a dx fs H0) {p : Addr} (h : H p = none) : H0 p = none := by
  cases q : H0 p with
  | none => rfl
  | some o =>
    have n : p ≠ a := Ne.symm (ne_of_none B.ha h)
    rw [B.st.get (B.old p o q n)] at h
    cases h
theorem none_of {H H' : Hp} (s : Same H H') {p : Addr} (h : H' p = none) : H p = none := by
  cases q : H p with
  | none => rfl
  | some o =>
    rw [s _ _ q] at h
    cases h

def sp_mks (A : Ad) : Sp := fun vs H Q _ => ∃ (a dx : Addr) (rm en : Int), vs = [.ref a, .int rm, .int en] ∧ 0 ≤ en ∧ en ≤ 100000 ∧ H a = some (.ins A.C_Space dx []) ∧ ∀ H', (∀ F : Hp, (∀ p o, F p = some o → H p = some o ∧ p ≠ a) → SQ A H' a rm en [] false [] 0 0 (List.replicate 16 0) [] F) → Q .non H'
theorem sp_mks_len {A vs H Q E} (h : sp_mks A vs H Q E) : vs.length = (["self", "room", "entries"] : List Str).length := by
  obtain ⟨_, _, _, _, rfl, _⟩ := h
  rfl
section
variable {P : Program} {w : World} {K : PySem.W.Frag} {mg : Str → Option Value} {base : Heap} {A : Ad}
theorem ok_Space___init__ (T : Txt K mg A) : FnOk P w K mg base CX0 3 A.f_Space___init__ A.d_Space___init__ ["self", "room", "entries"] (sp_mks A) := by
  refine Fun.ok T.F_Space___init__ sc_Space___init__ (fun vs H Q E h => ?_) (fun cdv Ar outer s H vs Q E hr h => ?_)
  · exact sp_mks_len h
  · have hu := hu_of hr
    refine ⟨_, (pss_cons (ps_fld (pv 0) (pe_make T.mk_Store (ok_Store___init__ T) (hr.mono (by decide)) (by rfl) T.m_Store T.b_Store___init__ .nil pass0 (pa_cons (pv 1) (pa_cons (pv 2) pa_nil))) rfl)
    (pss_cons (ps_fld (pv 0) pe_bl rfl)
    (pss_cons (ps_fld (pv 0) (pe_lst pa_nil) rfl)
    (pss_cons (ps_fld (pv 0) pe_int rfl)
    (pss_cons (ps_fld (pv 0) pe_int rfl)
    (pss_cons (ps_fld (pv 0) (pe_op op_rep (pe_lst (pa_cons (pe_glob (v := .int (0)) (by rfl) T.c_NIL ⟨_, rfl⟩) pa_nil)) (pe_glob (v := .int (16)) (by rfl) T.c_ROOTS ⟨_, rfl⟩)) rfl)
    (pss_cons (ps_fld (pv 0) (pe_lst pa_nil) rfl)
    (pss_cons (ps_fld (pv 0) pe_dnewK rfl)
    (pss_one (ps_fld (pv 0) pe_non rfl)))))))))), ?_⟩
    obtain ⟨a, dx, rm, en, rfl, e0, e1, ha, k⟩ := h
    dsimp! only [ha]
    refine store_new e0 e1 fun s H2 S0 => ?_
    have B0 : Bld A H2 s rm en H a dx [] H := ⟨S0, ha, fun p o h _ => h⟩
    refine ⟨_, _, _, B0.ha, T.cl_Space, T.no_Space_store, by show 0 < 1000; omega, T.cl_Space, T.no_Space_always, by show 1 < 1000; omega, by decide, fun pr hpr => ?_⟩
    have B1 := B0.set (putF (Str.ofString "always") (V.bl false) (putF (Str.ofString "store") (V.ref s) []))
    have B2 := B1.new (o := .lst []) hpr
    generalize upd (upd H2 a (HO.ins A.C_Space dx (putF (Str.ofString "always") (V.bl false) (putF (Str.ofString "store") (V.ref s) [])))) pr (HO.lst []) = H3 at B2 ⊢
    clear B1 B0 hpr
    refine ⟨_, _, _, B2.ha, T.cl_Space, T.no_Space_pressure, by show 2 < 1000; omega, T.cl_Space, T.no_Space_allocations, by show 3 < 1000; omega, T.cl_Space, T.no_Space_collections, by show 4 < 1000; omega, by decide, fun z hz => ⟨by decide, by decide, by decide, fun rt hrt => ?_⟩⟩
    have B3 := (B2.set (putF (Str.ofString "collections") (V.int 0) (putF (Str.ofString "allocations") (V.int 0) (putF (Str.ofString "pressure") (V.ref pr) (putF (Str.ofString "always") (V.bl false) (putF (Str.ofString "store") (V.ref s) [])))))).new (o := .lst [V.int 0]) hz
    generalize upd (upd H3 a (HO.ins A.C_Space dx (putF (Str.ofString "collections") (V.int 0) (putF (Str.ofString "allocations") (V.int 0) (putF (Str.ofString "pressure") (V.ref pr) (putF (Str.ofString "always") (V.bl false) (putF (Str.ofString "store") (V.ref s) []))))))) z (HO.lst [V.int 0]) = H4 at B3 hrt ⊢
    have ort := B3.out hrt
    have B4 := B3.new (o := .lst ((List.replicate 16 (0 : Int)).map V.int)) hrt
    rw [show (List.replicate (Int.toNat 16) [V.int 0]).flatten = (List.replicate 16 (0 : Int)).map V.int from rep0 16]
    have g4 : ∀ G : Hp, upd G rt (HO.lst ((List.replicate 16 (0 : Int)).map V.int)) rt = some (.lst ((List.replicate 16 (0 : Int)).map V.int)) := fun _ => upd_same
    obtain ⟨F4, B4, f4⟩ : ∃ F4, Bld A (upd H4 rt (HO.lst ((List.replicate 16 (0 : Int)).map V.int))) s rm en F4 a dx (putF (Str.ofString "collections") (V.int 0) (putF (Str.ofString "allocations") (V.int 0) (putF (Str.ofString "pressure") (V.ref pr) (putF (Str.ofString "always") (V.bl false) (putF (Str.ofString "store") (V.ref s) []))))) H ∧ F4 rt = some (.lst ((List.replicate 16 (0 : Int)).map V.int)) := ⟨_, B4, g4 _⟩
    generalize upd H4 rt (HO.lst ((List.replicate 16 (0 : Int)).map V.int)) = H5 at B4 ⊢
    have art := ne_ho B4.at_ f4 (by simp)
    refine ⟨_, _, _, B4.ha, T.cl_Space, T.no_Space__roots, by show 5 < 1000; omega, by decide, fun hl hhl => ?_⟩
    have B5 := B4.set (putF (Str.ofString "_roots") (V.ref rt) (putF (Str.ofString "collections") (V.int 0) (putF (Str.ofString "allocations") (V.int 0) (putF (Str.ofString "pressure") (V.ref pr) (putF (Str.ofString "always") (V.bl false) (putF (Str.ofString "store") (V.ref s) []))))))
    have ohl := B5.out hhl
    have f5 : upd F4 a (HO.ins A.C_Space dx (putF (Str.ofString "_roots") (V.ref rt) (putF (Str.ofString "collections") (V.int 0) (putF (Str.ofString "allocations") (V.int 0) (putF (Str.ofString "pressure") (V.ref pr) (putF (Str.ofString "always") (V.bl false) (putF (Str.ofString "store") (V.ref s) []))))))) rt = some (.lst ((List.replicate 16 (0 : Int)).map V.int)) := by rw [upd_ne (Ne.symm art)]; exact f4
    have nhl := ne_of_none (B5.st.get f5) hhl
    obtain ⟨F6, B6, f6, h6⟩ : ∃ F6, Bld A (upd (upd H5 a (HO.ins A.C_Space dx (putF (Str.ofString "_roots") (V.ref rt) (putF (Str.ofString "collections") (V.int 0) (putF (Str.ofString "allocations") (V.int 0) (putF (Str.ofString "pressure") (V.ref pr) (putF (Str.ofString "always") (V.bl false) (putF (Str.ofString "store") (V.ref s) [])))))))) hl (HO.lst [])) s rm en F6 a dx (putF (Str.ofString "_roots") (V.ref rt) (putF (Str.ofString "collections") (V.int 0) (putF (Str.ofString "allocations") (V.int 0) (putF (Str.ofString "pressure") (V.ref pr) (putF (Str.ofString "always") (V.bl false) (putF (Str.ofString "store") (V.ref s) [])))))) H ∧ F6 rt = some (.lst ((List.replicate 16 (0 : Int)).map V.int)) ∧ F6 hl = some (.lst []) := ⟨_, B5.new hhl, by rw [upd_ne nhl]; exact f5, upd_same⟩
    generalize upd (upd H5 a (HO.ins A.C_Space dx (putF (Str.ofString "_roots") (V.ref rt) (putF (Str.ofString "collections") (V.int 0) (putF (Str.ofString "allocations") (V.int 0) (putF (Str.ofString "pressure") (V.ref pr) (putF (Str.ofString "always") (V.bl false) (putF (Str.ofString "store") (V.ref s) [])))))))) hl (HO.lst []) = H6 at B6 ⊢
    have ahl := ne_ho B6.at_ h6 (by simp)
    refine ⟨_, _, _, B6.ha, T.cl_Space, T.no_Space__held, by show 6 < 1000; omega, ?_⟩
    obtain ⟨F7, B7, f7, h7⟩ : ∃ F7, Bld A (upd H6 a (HO.ins A.C_Space dx (putF (Str.ofString "_held") (V.ref hl) (putF (Str.ofString "_roots") (V.ref rt) (putF (Str.ofString "collections") (V.int 0) (putF (Str.ofString "allocations") (V.int 0) (putF (Str.ofString "pressure") (V.ref pr) (putF (Str.ofString "always") (V.bl false) (putF (Str.ofString "store") (V.ref s) []))))))))) s rm en F7 a dx (putF (Str.ofString "_held") (V.ref hl) (putF (Str.ofString "_roots") (V.ref rt) (putF (Str.ofString "collections") (V.int 0) (putF (Str.ofString "allocations") (V.int 0) (putF (Str.ofString "pressure") (V.ref pr) (putF (Str.ofString "always") (V.bl false) (putF (Str.ofString "store") (V.ref s) []))))))) H ∧ F7 rt = some (.lst ((List.replicate 16 (0 : Int)).map V.int)) ∧ F7 hl = some (.lst []) := ⟨_, B6.set _, by rw [upd_ne (Ne.symm art)]; exact f6, by rw [upd_ne (Ne.symm ahl)]; exact h6⟩
    generalize upd H6 a (HO.ins A.C_Space dx (putF (Str.ofString "_held") (V.ref hl) (putF (Str.ofString "_roots") (V.ref rt) (putF (Str.ofString "collections") (V.int 0) (putF (Str.ofString "allocations") (V.int 0) (putF (Str.ofString "pressure") (V.ref pr) (putF (Str.ofString "always") (V.bl false) (putF (Str.ofString "store") (V.ref s) [])))))))) = H7 at B7 ⊢
    intro mo hmo
    have omo := B7.out hmo
    have nm1 := ne_of_none (B7.st.get f7) hmo
    have nm2 := ne_of_none (B7.st.get h7) hmo
    obtain ⟨F8, B8, f8, h8, m8⟩ : ∃ F8, Bld A (upd H7 mo (HO.dK [])) s rm en F8 a dx (putF (Str.ofString "_held") (V.ref hl) (putF (Str.ofString "_roots") (V.ref rt) (putF (Str.ofString "collections") (V.int 0) (putF (Str.ofString "allocations") (V.int 0) (putF (Str.ofString "pressure") (V.ref pr) (putF (Str.ofString "always") (V.bl false) (putF (Str.ofString "store") (V.ref s) []))))))) H ∧ F8 rt = some (.lst ((List.replicate 16 (0 : Int)).map V.int)) ∧ F8 hl = some (.lst []) ∧ F8 mo = some (.dK []) := ⟨_, B7.new hmo, by rw [upd_ne nm1]; exact f7, by rw [upd_ne nm2]; exact h7, upd_same⟩
    generalize upd H7 mo (HO.dK []) = H8 at B8 ⊢
    have amo := ne_ho B8.at_ m8 (by simp)
    refine ⟨_, _, _, B8.ha, T.cl_Space, T.no_Space__moments, by show 7 < 1000; omega, T.cl_Space, T.no_Space__work, by show 8 < 1000; omega, ?_⟩
    have B9 := B8.set (putF (Str.ofString "_work") (V.non) (putF (Str.ofString "_moments") (V.ref mo) (putF (Str.ofString "_held") (V.ref hl) (putF (Str.ofString "_roots") (V.ref rt) (putF (Str.ofString "collections") (V.int 0) (putF (Str.ofString "allocations") (V.int 0) (putF (Str.ofString "pressure") (V.ref pr) (putF (Str.ofString "always") (V.bl false) (putF (Str.ofString "store") (V.ref s) [])))))))))
    refine k _ fun F hF => ⟨dx, s, pr, rt, hl, mo, _, B9.st, upd_same, by rw [upd_ne (Ne.symm art)]; exact f8, by rw [upd_ne (Ne.symm ahl)]; exact h8, ⟨[], by rw [upd_ne (Ne.symm amo)]; exact m8, fun n => rfl⟩, nhl, fun p o e => ?_⟩
    obtain ⟨e2, pa⟩ := hF p o e
    exact ⟨B9.old p o e2 pa, pa, ne_of_none e2 ort, ne_of_none e2 ohl, ne_of_none e2 omo⟩
end

def sp_setroot (A : Ad) : Sp := fun vs H Q _ => ∃ (a : Addr) (rm en : Int) (row : List OB) (al : Bool) (mom : List Int) (na nc : Int) (roots held : List Int) (F : Hp) (j : Nat) (w : Int), vs = [.ref a, .int (j : Int), .int w] ∧ SQ A H a rm en row al mom na nc roots held F ∧ j < roots.length ∧ ∀ H', SQ A H' a rm en row al mom na nc (roots.set j w) held F → Q .non H'
theorem sp_setroot_len {A vs H Q E} (h : sp_setroot A vs H Q E) : vs.length = (["self", "k", "word"] : List Str).length := by
  obtain ⟨_, _, _, _, _, _, _, _, _, _, _, _, _, rfl, _⟩ := h
  rfl
section
variable {P : Program} {w : World} {K : PySem.W.Frag} {mg : Str → Option Value} {base : Heap} {A : Ad}
theorem ok_Space_set_root (T : Txt K mg A) : FnOk P w K mg base CX0 1 A.f_Space_set_root A.d_Space_set_root ["self", "k", "word"] (sp_setroot A) := by
  refine Fun.ok T.F_Space_set_root sc_Space_set_root (fun vs H Q E h => ?_) (fun cdv Ar outer s H vs Q E hr h => ?_)
  · exact sp_setroot_len h
  · have hu := hu_of hr
    refine ⟨_, (pss_one (ps_asg (pv 2) (pg_sub (pe_fld (pv 0) rfl) (pv 1) set_lstM))), ?_⟩
    obtain ⟨a, rm, en, row, al, mom, na, nc, roots, held, F, j, w, rfl, ⟨dx, s, pr, rt, hl, mo, F1, Z⟩, hj, k⟩ := h
    have ho := Z.ho
    have hr := Z.hr
    have st : setI (roots.map V.int) (j : Int) (.int w) = some ((roots.set j w).map V.int) := by
      rw [setI_nat (by rw [List.length_map]; exact hj), List.map_set]
    dsimp! only [ho, hr, st]
    exact k _ (Z.setroots _)
end

def sp_hold (A : Ad) : Sp := fun vs H Q _ => ∃ (a : Addr) (rm en : Int) (row : List OB) (al : Bool) (mom : List Int) (na nc : Int) (roots held : List Int) (F : Hp) (w : Int), vs = [.ref a, .int w] ∧ SQ A H a rm en row al mom na nc roots held F ∧ held.length ≤ 10000 ∧ ∀ H', SQ A H' a rm en row al mom na nc roots (held ++ [w]) F → Q (.int w) H'
theorem sp_hold_len {A vs H Q E} (h : sp_hold A vs H Q E) : vs.length = (["self", "word"] : List Str).length := by
  obtain ⟨_, _, _, _, _, _, _, _, _, _, _, _, rfl, _⟩ := h
  rfl
section
variable {P : Program} {w : World} {K : PySem.W.Frag} {mg : Str → Option Value} {base : Heap} {A : Ad}
theorem ok_Space_hold (T : Txt K mg A) : FnOk P w K mg base CX0 1 A.f_Space_hold A.d_Space_hold ["self", "word"] (sp_hold A) := by
  refine Fun.ok T.F_Space_hold sc_Space_hold (fun vs H Q E h => ?_) (fun cdv Ar outer s H vs Q E hr h => ?_)
  · exact sp_hold_len h
  · have hu := hu_of hr
    refine ⟨_, (pss_cons (ps_expr (pe_bmM PySem.F.slot_list_append PySem.F.type_list_append mt_append (pe_fld (pv 0) rfl) (pa_cons (pv 1) pa_nil)))
    (pss_one (ps_ret (pv 1)))), ?_⟩
    obtain ⟨a, rm, en, row, al, mom, na, nc, roots, held, F, w, rfl, ⟨dx, s, pr, rt, hl, mo, F1, Z⟩, hj, k⟩ := h
    have sz : (300000 : Nat) ≤ sizeLine := by decide
    have ho := Z.ho
    have hh := Z.hh
    dsimp! only [ho, hh, List.length_map]
    refine ⟨by omega, ?_⟩
    have Z2 := Z.setheld (held ++ [w])
    rw [List.map_append] at Z2
    exact k _ Z2
end

def sp_allroots (A : Ad) : Sp := fun vs H Q _ => ∃ (a : Addr) (rm en : Int) (row : List OB) (al : Bool) (mom : List Int) (na nc : Int) (roots held : List Int) (F : Hp), vs = [.ref a] ∧ SQ A H a rm en row al mom na nc roots held F ∧ roots.length + held.length ≤ 20000 ∧ ∀ H' p, Same H H' → H p = none → H' p = some (.lst ((0 :: (roots ++ held)).map V.int)) → Q (.ref p) H'
theorem sp_allroots_len {A vs H Q E} (h : sp_allroots A vs H Q E) : vs.length = (["self"] : List Str).length := by
  obtain ⟨_, _, _, _, _, _, _, _, _, _, _, rfl, _⟩ := h
  rfl
section
variable {P : Program} {w : World} {K : PySem.W.Frag} {mg : Str → Option Value} {base : Heap} {A : Ad}
theorem ok_Space_all_roots (T : Txt K mg A) : FnOk P w K mg base CX0 1 A.f_Space_all_roots A.d_Space_all_roots ["self"] (sp_allroots A) := by
  refine Fun.ok T.F_Space_all_roots sc_Space_all_roots (fun vs H Q E h => ?_) (fun cdv Ar outer s H vs Q E hr h => ?_)
  · exact sp_allroots_len h
  · have hu := hu_of hr
    refine ⟨_, (pss_one (ps_ret (pe_op op_cat (pe_op op_cat (pe_lst (pa_cons (pe_glob (v := .int (0)) (by rfl) T.c_NIL ⟨_, rfl⟩) pa_nil)) (pe_fld (pv 0) rfl)) (pe_fld (pv 0) rfl)))), ?_⟩
    obtain ⟨a, rm, en, row, al, mom, na, nc, roots, held, F, rfl, ⟨dx, s, pr, rt, hl, mo, F1, Z⟩, hl2, k⟩ := h
    have sz : (300000 : Nat) ≤ sizeLine := by decide
    have ho := Z.ho
    have hr := Z.hr
    have hh := Z.hh
    dsimp! only [ho, hr, hh, List.length_map]
    refine ⟨by decide, fun p hp => ?_⟩
    have Z2 := Z.same (same_new (o := HO.lst [V.int 0]) hp)
    refine ⟨_, _, _, Z2.ho, T.cl_Space, T.no_Space__roots, _, spF_roots, rt, rfl, _, Z2.hr, by rw [List.length_map]; omega, fun p1 hp1 => ?_⟩
    have Z3 := Z2.same (same_new (o := HO.lst (V.int 0 :: roots.map V.int)) hp1)
    refine ⟨_, _, _, Z3.ho, T.cl_Space, T.no_Space__held, _, spF_held, hl, rfl, _, Z3.hh, by rw [List.length_map, List.length_map]; omega, fun p2 hp2 => ?_⟩
    have sm := same_trans (same_new (o := HO.lst [V.int 0]) hp) (same_new (o := HO.lst (V.int 0 :: roots.map V.int)) hp1)
    refine k _ p2 (same_trans sm (same_new hp2)) (none_of sm hp2) ?_
    rw [upd_same, List.map_cons, List.map_append]
end

def sp_beside (A : Ad) : Sp := fun vs H Q _ => ∃ (a q : Addr) (rm en : Int) (row : List OB) (al : Bool) (mom : List Int) (na nc : Int) (roots held : List Int) (F : Hp) (ws : List Int), vs = [.ref a, .ref q] ∧ SQ A H a rm en row al mom na nc roots held F ∧ F q = some (.lst (ws.map V.int)) ∧ roots.length + held.length + ws.length ≤ 20000 ∧
  ∀ H' ks, SQ A H' a rm en (keep row ks) al mom na (nc + 1) roots held F → ks.Nodup → (∀ n, n ∈ ks ↔ Rch row (0 :: (roots ++ held ++ ws)) n) → Q (.int (((nums row).length : Int) - ks.length)) H'
theorem sp_beside_len {A vs H Q E} (h : sp_beside A vs H Q E) : vs.length = (["self", "words"] : List Str).length := by
  obtain ⟨_, _, _, _, _, _, _, _, _, _, _, _, _, rfl, _⟩ := h
  rfl
section
variable {P : Program} {w : World} {K : PySem.W.Frag} {mg : Str → Option Value} {base : Heap} {A : Ad}
theorem ok_Space__collect_beside (T : Txt K mg A) : FnOk P w K mg base CX0 5 A.f_Space__collect_beside A.d_Space__collect_beside ["self", "words"] (sp_beside A) := by
  refine Fun.ok T.F_Space__collect_beside sc_Space__collect_beside (fun vs H Q E h => ?_) (fun cdv Ar outer s H vs Q E hr h => ?_)
  · exact sp_beside_len h
  · have hu := hu_of hr
    refine ⟨_, (pss_cons (ps_fld (pv 0) (pe_op op_add (pe_fld (pv 0) rfl) pe_int) rfl)
    (pss_one (ps_ret (pe_call (ok_collect T) (hr.mono (by decide)) (by rfl) T.al_collect_collecting T.k_collect T.b_collect .nil pass0 (pa_cons (pe_fld (pv 0) rfl) (pa_cons (pe_op op_cat (pe_meth0 (pv 0) T.cl_Space T.me_Space_all_roots (ok_Space_all_roots T) (hr.mono (by decide)) T.b_Space_all_roots .nil pass0) (pv 1)) pa_nil)))))), ?_⟩
    obtain ⟨a, q, rm, en, row, al, mom, na, nc, roots, held, F, ws, rfl, ⟨dx, s, pr, rt, hl, mo, F1, Z⟩, hq, hl2, k⟩ := h
    have sz : (300000 : Nat) ≤ sizeLine := by decide
    have ho := Z.ho
    dsimp! only [ho]
    refine ⟨by decide, ?_⟩
    have Z2 := Z.counts na (nc + 1)
    generalize upd H a (HO.ins A.C_Space dx (spF s al pr na (nc + 1) rt hl mo V.non)) = H2 at Z2 ⊢
    refine ⟨a, rm, en, row, al, mom, na, nc + 1, roots, held, F, rfl, ⟨dx, s, pr, rt, hl, mo, _, Z2⟩, by omega, fun H3 p sm hp gp => ?_⟩
    have Z3 := Z2.same sm
    have hq3 := Z3.get hq
    simp! only [gp, hq3, List.length_map]
    refine ⟨by rw [List.length_append]; omega, fun pc hpc => ?_⟩
    have e : V.int 0 :: (List.map V.int (roots ++ held) ++ List.map V.int ws) = (0 :: (roots ++ held ++ ws)).map V.int := by simp
    rw [e]
    have S4 := Z3.st.new (o := HO.lst ((0 :: (roots ++ held ++ ws)).map V.int)) hpc
    exact ⟨s, pc, rm, en, row, _, 0 :: (roots ++ held ++ ws), rfl, S4, upd_same, by simp; omega, fun H5 ks S5 nd ch => k H5 ks ⟨dx, s, pr, rt, hl, mo, _, S5.less (same_new (Z3.st.none hpc)), Z3.sp⟩ nd ch⟩
end

def sp_new (A : Ad) : Sp := fun vs H Q _ => ∃ (a : Addr) (rm en : Int) (row : List OB) (na nc : Int) (roots held : List Int) (F : Hp) (kd : Int) (m : Nat) (n : Int), vs = [.ref a, .int kd, .int (m : Int)] ∧ SQ A H a rm en row false [] na nc roots held F ∧ (flat row).length + (3 + m) ≤ 100000 ∧ ((flat row).length : Int) + (3 + (m : Int)) ≤ rm ∧ IsFree row n ∧ n < en ∧
  ∀ H', SQ A H' a rm en (row ++ [⟨n, kd, List.replicate m 0, true⟩]) false [] (na + 1) nc roots held F → Q (.int n) H'
theorem sp_new_len {A vs H Q E} (h : sp_new A vs H Q E) : vs.length = (["self", "kind", "size"] : List Str).length := by
  obtain ⟨_, _, _, _, _, _, _, _, _, _, _, _, rfl, _⟩ := h
  rfl
section
variable {P : Program} {w : World} {K : PySem.W.Frag} {mg : Str → Option Value} {base : Heap} {A : Ad}
theorem ok_Space_new (T : Txt K mg A) : FnOk P w K mg base CX0 6 A.f_Space_new A.d_Space_new ["self", "kind", "size"] (sp_new A) := by
  refine Fun.ok T.F_Space_new sc_Space_new (fun vs H Q E h => ?_) (fun cdv Ar outer s H vs Q E hr h => ?_)
  · exact sp_new_len h
  · have hu := hu_of hr
    refine ⟨_, (pss_cons (ps_fld (pv 0) (pe_op op_add (pe_fld (pv 0) rfl) pe_int) rfl)
    (Evl.pss_cut (ps_if (pt_cmpR op_isN (pe_fld (pv 0) rfl) pe_non (nomark _)) (Evl.pss_cut (ps_if (PW.pt (pw_or (pt_val (pe_fld (pv 0) rfl)) (pw_or1 (pt_cmpR (op_dinM hu) (pe_fld (pv 0) rfl) (pe_fld (pv 0) rfl) (by rfl))))) (pss_one (ps_expr (pe_meth (pv 0) T.cl_Space T.me_Space__collect_beside (ok_Space__collect_beside T) (hr.mono (by decide)) T.b_Space__collect_beside .nil pass0 (pa_cons (pe_lst (pa_cons (pv 1) pa_nil)) pa_nil)))) pss_nil)
    (pss_one (L2.ps_try_thru0 (pss_one (ps_ret (pe_meth (pe_fld (pv 0) rfl) T.cl_Store T.me_Store_allocate (ok_Store_allocate T) (hr.mono (by decide)) T.b_Store_allocate .nil passN0 (pa_cons (pv 1) (pa_cons (pv 2) pa_nil)))))))) pss_nil)
    (pss_one (ps_ret (pe_meth (pe_fld (pv 0) rfl) T.cl_Store T.me_Store_allocate (ok_Store_allocate T) (hr.mono (by decide)) T.b_Store_allocate .nil passN0 (pa_cons (pv 1) (pa_cons (pv 2) pa_nil))))))), ?_⟩
    obtain ⟨a, rm, en, row, na, nc, roots, held, F, kd, m, n, rfl, ⟨dx, s, pr, rt, hl, mo, F1, Z⟩, z1, z2, hfr, hn, k⟩ := h
    have ho := Z.ho
    dsimp! only [ho]
    refine ⟨by decide, ?_⟩
    have Z2 := Z.counts (na + 1) nc
    generalize upd H a (HO.ins A.C_Space dx (spF s false pr (na + 1) nc rt hl mo V.non)) = H2 at Z2 ⊢
    have ho2 := Z2.ho
    obtain ⟨kvs, m1, m2⟩ := Z2.sp.hm
    have hm2 := Z2.st.get m1
    refine ⟨fun _ _ => False, ?_, fun _ _ h => h.elim⟩
    dsimp! only [ho2, hm2]
    have m3 : ∀ n : Int, (valV kvs (Sum.inl n)).isSome = false := fun n => by rw [m2]; simp
    refine ⟨fun σ2 H3 => σ2 = [some (V.ref a), some (V.int kd), some (V.int m)] ∧ H3 = H2, ?_, ?_⟩
    · dsimp! only [ho2, hm2, m3]
    · rintro σ2 H3 ⟨rfl, rfl⟩
      obtain ⟨dx2, w2, d2, f2, fs2, hs2⟩ := Z2.st.ho
      dsimp! only [ho2, hs2, T.cl_Store, T.no_Store_room, T.no_Store_entries, T.no_Store_words, T.no_Store__places, T.no_Store__free, T.no_Store__fresh, stF_room, stF_entries, stF_words, stF_places, stF_free, stF_fresh, stF_mused, stF_mexists, stF_mnumbers, stF_mfree, stF_malloc, stF_msize, stF_mkind, stF_mskind, stF_mget, stF_mput, stF_mslots, stF_mdrop, stF_mclose, stF_msnap, stF_mrest, stF_mexch, stF_len, stF_pf, stF_pd, stF_pl]
      refine ⟨s, rm, en, row, _, kd, m, rfl, Z2.st, z1, fun c => by omega, fun _ n' hn' => ?_⟩
      have e := hn'.uniq hfr
      subst e
      exact ⟨fun c => by omega, fun _ H' S' => k H' ⟨dx, s, pr, rt, hl, mo, _, S', Z2.sp⟩⟩
end

theorem St.sz {A H a rm en row F} (h : St A H a rm en row F) : (flat row).length ≤ 100000 := by
  obtain ⟨dx, w, d, f, ws, kvs, fr, fs, I, R⟩ := h
  exact R.sz
theorem St.nd {A H a rm en row F} (h : St A H a rm en row F) : (nums row).Nodup := by
  obtain ⟨dx, w, d, f, ws, kvs, fr, fs, I, R⟩ := h
  exact R.nd
/-- a place: a root, the kind or a slot of an object -/
inductive Plc where
  | root (k : Nat)
  | kind (n : Int)
  | slot (n : Int) (j : Nat)
def Plc.tup : Plc → List V
  | root k => [.str "root", .int (k : Int)]
  | kind n => [.str "kind", .int n]
  | slot n j => [.str "slot", .int n, .int (j : Int)]
def Plc.emptied (row : List OB) : Plc → List OB
  | root _ => row
  | kind n => kindO row n 0
  | slot n j => putO row n j 0
def Plc.words (W : List Int) : Plc → List Int
  | root k => W.set k 0
  | _ => W
def Plc.fits (row : List OB) (m : Nat) : Plc → Prop
  | root k => k < m
  | kind n => n ∈ nums row
  | slot n j => ∃ o, getO row n = some o ∧ j < o.sl.length
theorem Mild.getO {f : OB → OB} (h : Mild f) (row : List OB) (n m : Int) : getO (row.map (setO n f)) m = (getO row m).map (fun o => if m = n then f o else o) := by
  unfold My.getO
  rw [List.find?_map]
  have e : (hasN m ∘ setO n f) = hasN m := funext fun o => (h.set n).has
  rw [e]
  cases q : row.find? (hasN m) with
  | none => rfl
  | some o =>
    have ho := List.find?_some q
    show some (setO n f o) = some (if m = n then f o else o)
    unfold setO
    by_cases c : m = n
    · subst c
      rw [if_pos ho, if_pos rfl]
    · rw [if_neg c, if_neg fun z => c ((hasN_iff.mp ho).2.symm.trans (hasN_iff.mp z).2)]
def Plc.obj (n : Int) (o : OB) : Plc → OB
  | root _ => o
  | kind m => if n = m then { o with kind := 0 } else o
  | slot m j => if n = m then { o with sl := o.sl.set j 0 } else o
theorem Plc.kind_eq {n : Int} {o : OB} : (Plc.kind n).obj n o = { o with kind := 0 } := if_pos rfl
theorem Plc.kind_ne {n r : Int} {o : OB} (h : ¬ r = n) : (Plc.kind r).obj n o = o := if_neg fun e => h e.symm
theorem Plc.slot_eq {n : Int} {j : Nat} {o : OB} : (Plc.slot n j).obj n o = { o with sl := o.sl.set j 0 } := if_pos rfl
theorem Plc.slot_ne {n r : Int} {j : Nat} {o : OB} (h : ¬ r = n) : (Plc.slot r j).obj n o = o := if_neg fun e => h e.symm
theorem Plc.get {row : List OB} {n : Int} {o : OB} (pc : Plc) (h : getO row n = some o) : getO (pc.emptied row) n = some (pc.obj n o) := by
  cases pc with
  | root k => exact h
  | kind m =>
    show getO (row.map (setO m fun o => { o with kind := 0 })) n = _
    rw [(Mild.kind 0).getO, h]
    rfl
  | slot m j =>
    show getO (row.map (setO m fun o => { o with sl := o.sl.set j 0 })) n = _
    rw [(Mild.put j 0).getO, h]
    rfl
theorem Plc.nums {row : List OB} (pc : Plc) : nums (pc.emptied row) = nums row := by
  cases pc with
  | root k => rfl
  | kind m => exact ((Mild.kind 0).set m).nums row
  | slot m j => exact ((Mild.put j 0).set m).nums row

theorem keys_at {kvs : List (Key × V)} {ks : List Int} (h : kvs.map (·.1) = ks.map Sum.inl) {i : Nat} {k : Key} {v : V} (e : kvs[i]? = some (k, v)) : ∃ n, ks[i]? = some n ∧ k = Sum.inl n := by
  have := congrArg (fun l => l[i]?) h
  rw [List.getElem?_map, List.getElem?_map, e] at this
  cases q : ks[i]? with
  | none =>
    rw [q] at this
    cases this
  | some n =>
    rw [q] at this
    exact ⟨n, rfl, Option.some.inj this⟩
/-- [n for n in d if p], d a dict with int keys, which is locked -/
theorem lc_keysD {td : TE} {tt : TT} {te : TE} {c : Nat} {σ : L2.St} {H : Hp} {Q : VK} (P : List (Key × V) → List Int → Prop) (p : List Int → Int → Bool)
    (htd : ∀ R : V → Hp → Prop, (∀ d od kvs ks H0, P kvs ks → kvs.map (·.1) = ks.map Sum.inl → ks.length ≤ 100000 → Same H H0 → H0 d = some (.frz od (.dK kvs)) → R (.ref d) H0) → td σ H R)
    (hb : ∀ kvs ks n H' (R : Bool → Hp → Prop), P kvs ks → n ∈ ks → Same H H' → R (p ks n) H' → tt ((σ.set c none).set c (some (.int n))) H' R) (he : ∀ kvs ks n H' (R : VK), P kvs ks → n ∈ ks → Same H H' → R (.int n) H' → te ((σ.set c none).set c (some (.int n))) H' R)
    (k : ∀ kvs ks H0 D, P kvs ks → Same H H0 → H0 D = none → Q (.ref D) (upd H0 D (.lst ((ks.filter (p ks)).map V.int)))) : tLc (iKeys td) (gName c) tt te [c] σ H Q :=
  htd _ fun d od kvs ks H0 hp hk hl sm0 hd => by
    have len : kvs.length = ks.length := by
      have := congrArg List.length hk
      rw [List.length_map, List.length_map] at this
      exact this
    exact lc_keysI (td := fun _ H Q => Q (.ref d) H) kvs (fun i => (ks[i]?.map (p ks)).getD false) (fun i y => y = (ks[i]?.map V.int).getD .non) (fun R h => h) hd (by omega) (fun i kk v H' R hx sm h => by
      obtain ⟨n, hn, rfl⟩ := keys_at hk hx
      rw [hn] at h
      exact hb kvs ks n H' R hp (List.mem_of_getElem? hn) (fun b u e => sm _ _ (sm0 _ _ e)) h) (fun i kk v H' R hx _ sm h => by
      obtain ⟨n, hn, rfl⟩ := keys_at hk hx
      exact he kvs ks n H' R hp (List.mem_of_getElem? hn) (fun b u e => sm _ _ (sm0 _ _ e)) (h _ (by rw [hn]; rfl))) (fun D ys hD hy => by
      have e := hy.map
      rw [len, range_pick (p ks) V.int ks] at e
      subst e
      exact k kvs ks H0 D hp sm0 hD)

/-- [n for n in d if p], d a dict that is locked -/
theorem lc_keysF {td : TE} {tt : TT} {te : TE} {c : Nat} {σ : L2.St} {H : Hp} {Q : VK} {d : Addr} {od : Obj} (kvs : List (Key × V)) (ks : List Int) (p : Int → Bool) (hk : kvs.map (·.1) = ks.map Sum.inl) (hl : ks.length ≤ 100000) (hd : H d = some (.frz od (.dK kvs)))
    (htd : ∀ R : V → Hp → Prop, R (.ref d) H → td σ H R)
    (hb : ∀ n H' (R : Bool → Hp → Prop), n ∈ ks → Same H H' → R (p n) H' → tt ((σ.set c none).set c (some (.int n))) H' R) (he : ∀ n H' (R : VK), n ∈ ks → Same H H' → R (.int n) H' → te ((σ.set c none).set c (some (.int n))) H' R)
    (k : ∀ D, H D = none → Q (.ref D) (upd H D (.lst ((ks.filter p).map V.int)))) : tLc (iKeys td) (gName c) tt te [c] σ H Q := by
  have len : kvs.length = ks.length := by
    have := congrArg List.length hk
    rw [List.length_map, List.length_map] at this
    exact this
  exact lc_keysI kvs (fun i => (ks[i]?.map p).getD false) (fun i y => y = (ks[i]?.map V.int).getD .non) htd hd (by omega) (fun i kk v H' R hx sm h => by
      obtain ⟨n, hn, rfl⟩ := keys_at hk hx
      rw [hn] at h
      exact hb n H' R (List.mem_of_getElem? hn) sm h) (fun i kk v H' R hx _ sm h => by
      obtain ⟨n, hn, rfl⟩ := keys_at hk hx
      exact he n H' R (List.mem_of_getElem? hn) sm (h _ (by rw [hn]; rfl))) (fun D ys hD hy => by
      have e := hy.map
      rw [len, range_pick p V.int ks] at e
      subst e
      exact k D hD)

def sp_target (A : Ad) : Sp := fun vs H Q _ => ∃ (s : Addr) (rm en : Int) (row : List OB) (F : Hp) (w : Int), vs = [.ref s, .int w] ∧ St A H s rm en row F ∧ ((w % 2 = 0 ∧ w / 2 ∈ nums row) → Q (.int (w / 2)) H) ∧ (¬ (w % 2 = 0 ∧ w / 2 ∈ nums row) → Q .non H)
theorem sp_target_len {A vs H Q E} (h : sp_target A vs H Q E) : vs.length = (["store", "word"] : List Str).length := by
  obtain ⟨_, _, _, _, _, _, rfl, _⟩ := h
  rfl
section
variable {P : Program} {w : World} {K : PySem.W.Frag} {mg : Str → Option Value} {base : Heap} {A : Ad}
theorem ok_target (T : Txt K mg A) : FnOk P w K mg base CX0 2 A.f_target A.d_target ["store", "word"] (sp_target A) := by
  refine Fun.ok T.F_target sc_target (fun vs H Q E h => ?_) (fun cdv Ar outer s H vs Q E hr h => ?_)
  · exact sp_target_len h
  · have hu := hu_of hr
    refine ⟨_, (pss_cons (ps_if (PW.pt (pw_and (pt_val (pe_call (ok_is_ref T) (hr.mono (by decide)) (by rfl) T.g_is_ref T.k_is_ref T.b_is_ref .nil pass0 (pa_cons (pv 1) pa_nil))) (pw_and1 (pt_val (pe_meth (pv 0) T.cl_Store T.me_Store_exists (ok_Store_exists T) (hr.mono (by decide)) T.b_Store_exists .nil pass0 (pa_cons (pe_op op_fdiv (pv 1) pe_int) pa_nil)))))) (pss_one (ps_ret (pe_op op_fdiv (pv 1) pe_int))) pss_nil)
    (pss_one (ps_ret pe_non))), ?_⟩
    obtain ⟨s, rm, en, row, F, w, rfl, S, k1, k2⟩ := h
    obtain ⟨dx, ww, d, f, fs, ho⟩ := S.ho
    simp_all! only [ho]
    refine ⟨w, rfl, ?_⟩
    by_cases c : w % 2 = 0
    · rw [decide_eq_true c]
      simp_all! only [ho]
      refine ⟨⟨by decide, by decide⟩, s, rm, en, row, F, _, rfl, S, _, rfl, ?_⟩
      by_cases c2 : w / 2 ∈ nums row
      · rw [if_pos (by simpa using c2)]
        exact ⟨⟨by decide, by decide⟩, k1 ⟨c, c2⟩⟩
      · rw [if_neg (by simpa using c2)]
        exact k2 fun h => c2 h.2
    · rw [decide_eq_false c]
      simp_all! only [ho]
      exact k2 fun h => c h.1
end

def sp_rowof (A : Ad) : Sp := fun vs H Q _ => ∃ (s : Addr) (rm en : Int) (row : List OB) (F : Hp) (n : Int) (o : OB), vs = [.ref s, .int n] ∧ St A H s rm en row F ∧ getO row n = some o ∧ ∀ H' p, Same H H' → H p = none → H' p = some (.lst ((o.kind :: o.sl).map V.int)) → Q (.ref p) H'
theorem sp_rowof_len {A vs H Q E} (h : sp_rowof A vs H Q E) : vs.length = (["store", "number"] : List Str).length := by
  obtain ⟨_, _, _, _, _, _, _, rfl, _⟩ := h
  rfl
section
variable {P : Program} {w : World} {K : PySem.W.Frag} {mg : Str → Option Value} {base : Heap} {A : Ad}
theorem ok_row_of (T : Txt K mg A) : FnOk P w K mg base CX0 3 A.f_row_of A.d_row_of ["store", "number"] (sp_rowof A) := by
  refine Fun.ok T.F_row_of sc_row_of (fun vs H Q E h => ?_) (fun cdv Ar outer s H vs Q E hr h => ?_)
  · exact sp_rowof_len h
  · have hu := hu_of hr
    refine ⟨_, (pss_one (ps_ret (pe_op op_cat (pe_lst (pa_cons (pe_meth (pv 0) T.cl_Store T.me_Store_kind (ok_Store_kind T) (hr.mono (by decide)) T.b_Store_kind .nil pass0 (pa_cons (pv 1) pa_nil)) pa_nil)) (pe_meth (pv 0) T.cl_Store T.me_Store_slots (ok_Store_slots T) (hr.mono (by decide)) T.b_Store_slots .nil pass0 (pa_cons (pv 1) pa_nil))))), ?_⟩
    obtain ⟨s, rm, en, row, F, n, o, rfl, S, hn, k⟩ := h
    obtain ⟨dx, ww, d, f, fs, ho⟩ := S.ho
    simp_all! only [ho]
    have sz : (300000 : Nat) ≤ sizeLine := by decide
    have hz := S.sz
    obtain ⟨_, _, zl, _⟩ := word_at hn
    refine ⟨s, rm, en, row, F, n, o, rfl, S, hn, by decide, fun p hp => ?_⟩
    have S2 := S.same (same_new (o := HO.lst [V.int o.kind]) hp)
    have ho2 := same_new (o := HO.lst [V.int o.kind]) hp _ _ ho
    refine ⟨dx, _, ho2, stF_mslots, s, rm, en, row, F, n, o, rfl, S2, hn, fun q hq => ?_⟩
    have gp : upd H p (HO.lst [V.int o.kind]) p = some (.lst [V.int o.kind]) := upd_same
    have sm := same_trans (same_new (o := HO.lst [V.int o.kind]) hp) (same_new (o := HO.lst (o.sl.map V.int)) hq)
    refine ⟨q, rfl, _, same_new hq _ _ gp, _, upd_same, by rw [List.length_map]; show 1 + o.sl.length ≤ _; omega, fun r hr => ?_⟩
    exact k _ r (same_trans sm (same_new hr)) (none_of sm hr) upd_same
end

def sp_garbage (A : Ad) : Sp := fun vs H Q _ => ∃ (a : Addr) (rm en : Int) (row : List OB) (al : Bool) (mom : List Int) (na nc : Int) (roots held : List Int) (F : Hp), vs = [.ref a] ∧ SQ A H a rm en row al mom na nc roots held F ∧ roots.length + held.length ≤ 20000 ∧
  ∀ H' p (zs : List Int), Same H H' → H p = none → H' p = some (.lst (zs.map V.int)) → zs.Pairwise (· ≤ ·) → zs.Nodup → (∀ n, n ∈ zs ↔ n ∈ nums row ∧ ¬ Rch row (0 :: (roots ++ held)) n) → Q (.ref p) H'
theorem sp_garbage_len {A vs H Q E} (h : sp_garbage A vs H Q E) : vs.length = (["space"] : List Str).length := by
  obtain ⟨_, _, _, _, _, _, _, _, _, _, _, rfl, _⟩ := h
  rfl
section
variable {P : Program} {w : World} {K : PySem.W.Frag} {mg : Str → Option Value} {base : Heap} {A : Ad}
theorem ok_garbage (T : Txt K mg A) : FnOk P w K mg base CX0 4 A.f_garbage A.d_garbage ["space"] (sp_garbage A) := by
  refine Fun.ok T.F_garbage sc_garbage (fun vs H Q E h => ?_) (fun cdv Ar outer s H vs Q E hr h => ?_)
  · exact sp_garbage_len h
  · have hu := hu_of hr
    refine ⟨_, (pss_cons (ps_asg (pe_call (ok_reached T) (hr.mono (by decide)) (by rfl) T.g_reached T.k_reached T.b_reached .nil pass0 (pa_cons (pe_fld (pv 0) rfl) (pa_cons (pe_meth0 (pv 0) T.cl_Space T.me_Space_all_roots (ok_Space_all_roots T) (hr.mono (by decide)) T.b_Space_all_roots .nil pass0) pa_nil))) (pg_name (i := 1) sc_garbage.nd rfl (Or.inr rfl)))
    (pss_one (ps_ret (pe_lc (own := [("number", 2)]) (g := gName 2) rfl sc_garbage.nd (pi_list (pe_meth0 (pe_fld (pv 0) rfl) T.cl_Store T.me_Store_numbers (ok_Store_numbers T) (hr.mono (by decide)) T.b_Store_numbers .nil pass0)) (blkOk_by (own := [("number", 2)]) (N := ["space", "found", "number"]) (sc := defScope s_garbage) (by decide +kernel)) (fun _ _ _ _ _ => pg_name (i := 2) sc_garbage.nd rfl (Or.inl rfl)) (fun _ _ _ _ _ => (pts_one (pt_cmpR (op_dnotinM hu) (pv 2) (pv 1) (by rfl)))) (fun _ _ _ _ _ => (pv 2)))))), ?_⟩
    obtain ⟨a, rm, en, row, al, mom, na, nc, roots, held, F, rfl, Z0, hl2, k⟩ := h
    obtain ⟨dx, s, pr, rt, hl, mo, F1, Z⟩ := id Z0
    have ho := Z.ho
    have nl := nums_len (row := row)
    have rl := flat_rows row
    have rz := Z0.sz
    dsimp! only [ho]
    refine ⟨a, rm, en, row, al, mom, na, nc, roots, held, F, rfl, Z0, hl2, fun H1 p sm1 hp gp => ?_⟩
    have Z1 := Z.same sm1
    refine ⟨s, p, rm, en, row, F1, 0 :: (roots ++ held), rfl, Z1.st, gp, by simp; omega, fun H2 d ks sm2 hd gd nd ch => ?_⟩
    have Z2 := Z1.same sm2
    obtain ⟨ns, np, ns2⟩ := sort_ex (nums row)
    have nsl := np.length_eq
    refine lc_lstN (K := K) (ns.map V.int) (fun i => (ns[i]?.map fun n => !decide (n ∈ ks)).getD false) (fun i y => y = (ns[i]?.map V.int).getD .non) (fun R h => ?_) (by rw [List.length_map]; omega) (fun i x H' R hx sm h => ?_) (fun i x H' R hx _ sm h => ?_) (fun H3 t ys sm3 ht hy => ?_)
    · have ho2 := Z2.ho
      obtain ⟨dx3, w3, d3, f3, fs3, hs3⟩ := Z2.st.ho
      dsimp! only [ho2, hs3, T.cl_Store, T.no_Store_room, T.no_Store_entries, T.no_Store_words, T.no_Store__places, T.no_Store__free, T.no_Store__fresh, stF_room, stF_entries, stF_words, stF_places, stF_free, stF_fresh, stF_mused, stF_mexists, stF_mnumbers, stF_mfree, stF_malloc, stF_msize, stF_mkind, stF_mskind, stF_mget, stF_mput, stF_mslots, stF_mdrop, stF_mclose, stF_msnap, stF_mrest, stF_mexch, stF_len, stF_pf, stF_pd, stF_pl]
      refine ⟨s, rm, en, row, F1, rfl, Z2.st, fun ys q hp2 hs2 hq => ?_⟩
      have e := sorted_eq (np.trans hp2.symm) ns2 hs2
      subst e
      exact h q _ (same_new hq) (.inl (.inl upd_same))
    · rw [List.getElem?_map] at hx
      obtain ⟨n, hn, e⟩ := Option.map_eq_some_iff.mp hx
      subst e
      rw [hn] at h
      have gd2 := sm _ _ gd
      simp! only [gd2, mkD_val]
      exact h
    · rw [List.getElem?_map] at hx
      obtain ⟨n, hn, e⟩ := Option.map_eq_some_iff.mp hx
      subst e
      simp! only [rIsL]
      exact h _ (by rw [hn]; rfl)
    · have e := hy.map
      rw [List.length_map, range_pick (fun n => !decide (n ∈ ks)) V.int ns] at e
      subst e
      have smA := same_trans (same_trans sm1 sm2) sm3
      refine k _ t (ns.filter fun n => !decide (n ∈ ks)) (same_trans smA (same_new ht)) (none_of smA ht) upd_same (ns2.filter _) ((np.nodup_iff.mpr Z0.nd).filter _) fun n => ?_
      rw [List.mem_filter, np.mem_iff, Bool.not_eq_true', decide_eq_false_iff_not, ch]
end

/-! ### enumerate over a tuple; a loop over enumerate -/
theorem meets_enumerate_newB1 {v : Value} {o : Obj} {H : Heap → Prop} (B : Begins v o H) :
    Meets (Builtin.«enumerate.__new__» ⟨[.type "enumerate", v], []⟩) (fun _ R s => H s.heap ∧
      R (.ok (.ret (.ref (s.heap.push o).objs.size))) { s with heap := (s.heap.push o).push { cls := .type "enumerate", data := .fields #[.none, .bool false, .ref s.heap.objs.size, rawInt 0, .none, .none] } }) :=
  .of_wp fun prog w A R s h => by
    obtain ⟨hp, g, d, tk, os⟩ := s; obtain ⟨h1, h⟩ := h
    have hsub := sub_enumerate
    have q1 : ∀ {A' : Around} {E : Value → Shared → Prop} {Q : Value → Shared → Prop}, Q (.ref hp.objs.size) ⟨hp.push o, g, d, tk, os⟩ → wpAny (model prog w) A' (pyIter v) Q E ⟨hp, g, d, tk, os⟩ :=
      fun q => B.iter prog w _ _ ⟨hp, g, d, tk, os⟩ _ h1 q
    wp_walk using q1
    refine wpAny_stack_any fun st => wpAny_pure ?_
    split
    · rename_i c _ _ _ _ _
      cases (c == Value.type "enumerate")
      · wp_walk using q1
        exact ⟨_, rfl, h⟩
      · wp_walk using q1
        exact ⟨_, rfl, h⟩
    · wp_walk using q1
      exact ⟨_, rfl, h⟩
theorem call_enumerate_tuple {prog : Program} {w : World} {A : Around} {E : Value → Shared → Prop} {s : Shared} {l : Addr} {items : Array Value} {Q : Value → Shared → Prop} (hL : s.heap.IsTuple l items)
    (h : ∀ h', IsEnum h' (s.heap.objs.size + 1) s.heap.objs.size 0 .none → h'.IsTupleIter s.heap.objs.size l 0 → h'.objs.size = s.heap.objs.size + 2 →
      (∀ b o, s.heap.get? b = some o → h'.get? b = some o) → Q (.ref (s.heap.objs.size + 1)) { s with heap := h' }) :
    wpAny (model prog w) A (call (.type "enumerate") [.ref l]) Q E s := by
  refine callType_new F.called_enumerate (by decide) (F.typeCall_enumerate_1 _) (F.newCall_enumerate_1 _) (fun obj => F.args_object_init_2 obj _) F.entry_enumerate_new
    (meets_enumerate_newB1 (begins_tuple l items)) ⟨hL, ?_⟩
  have hz : (s.heap.push { cls := .type "tuple_iterator", data := .fields #[.ref l, .int 0 0] }).objs.size = s.heap.objs.size + 1 := Heap.size_push ..
  show _ ∧ _
  rw [hz]
  have he : IsEnum ((s.heap.push { cls := .type "tuple_iterator", data := .fields #[.ref l, .int 0 0] }).push
      { cls := .type "enumerate", data := .fields #[.none, .bool false, .ref s.heap.objs.size, rawInt 0, .none, .none] }) (s.heap.objs.size + 1) s.heap.objs.size 0 .none := by
    have := Heap.get?_push_size (s.heap.push { cls := .type "tuple_iterator", data := .fields #[.ref l, .int 0 0] })
      (o := { cls := .type "enumerate", data := .fields #[.none, .bool false, .ref s.heap.objs.size, rawInt 0, .none, .none] }) rfl
    rw [hz] at this; exact this
  refine ⟨⟨_, he, rfl⟩, h _ he ⟨_, Heap.get?_push_of_some _ (Heap.get?_push_size _ rfl), rfl, rfl⟩ (by rw [Heap.size_push, hz]) fun b o x => Heap.get?_push_of_some _ (Heap.get?_push_of_some _ x)⟩
/-- the tuple at a as it stands at each turn, each item in a new pair -/
def Itet (K : PySem.W.Frag) (a : Addr) : It :=
  ⟨fun i H => ∃ (xs : List V) (x : V), SqT K H a xs ∧ xs[i]? = some x, fun i H v H' => ∃ T x, v = .ref T ∧ H T = none ∧ H' = upd H T (.tup [.int (i : Nat), x]) ∧ ∀ xs, SqT K H a xs → xs[i]? = some x, fun i H => ∃ xs : List V, SqT K H a xs ∧ xs.length ≤ i⟩
theorem enumT_end {prog : Program} {w : World} {A : Around} {E : Value → Shared → Prop} {s : Shared} {e it t : Addr} {i : Nat} {k : Int} {items : Array Value} {old : Value} {Q : Option Value → Shared → Prop} (hh : A.in1.handled = none)
    (he : IsEnum s.heap e it k old) (hit : s.heap.IsTupleIter it t i) (ht : s.heap.IsTuple t items) (hx : items[i]? = none) (hQ : ∀ h', Heap.ExtBut it s.heap h' → Q none { s with heap := h' }) : wpAny (model prog w) A (pyNext (.ref e)) Q E s := by
  have hT : s.TypeIs (.ref e) "enumerate" := ⟨_, he, rfl⟩
  unfold pyNext
  refine wpAny_bind (wpAny_attempt (wpAny_callSpecial?_slot (name := Str.ofString "__next__") hT F.slot_enumerate_next
    (wpAny_call_entry F.slot_enumerate_next hT F.entry_enumerate_next ?_ (F.args_enumerate_next_1 _))))
  show wpAny _ _ (field (.ref e) 2 >>= _) _ _ _
  refine wpAny_bind (wpAny_field he rfl (x := .ref it) rfl ?_)
  refine wpAny_bind (wpAny_nextOf_tuple_end hh hit ht hx fun h' x he' hx' => ?_)
  obtain ⟨o, ho, hc⟩ := hx'
  refine wpAny_bind (wpAny_isInstance (T := "StopIteration") (b := true) ⟨o, ho, hc⟩ isSubtype_stop ?_)
  exact wpAny_pure (hQ _ he')
theorem turn_enumT {P : Program} {w : World} {K : PySem.W.Frag} {elts : List Expr} {kk : Nat} {tpos : Pos} (a e it : Addr) :
    Turn P w K (.Tuple elts kk tpos) (Itet K a) [e, it] e (fun i h => (∃ old, IsEnum h e it ((i : Nat) : Int) old) ∧ h.IsTupleIter it a i ∧ e ≠ it ∧ a ≠ it ∧ e ≠ a) where
  mem := by simp
  obj := fun i h st b hb => by
    obtain ⟨⟨old, he⟩, ⟨o, ho, hc, hd⟩, _⟩ := st
    have e' : b = e ∨ b = it := by simpa using hb
    rcases e' with z | z
    · rw [z]; exact ⟨_, he, fun v q => nomatch q⟩
    · rw [z]; exact ⟨o, ho, fun v q => by rw [hd] at q; cases q⟩
  keep := fun i h h' st k => let ⟨⟨old, he⟩, hi, hne⟩ := st; ⟨⟨old, k e (by simp) _ he⟩, hi.at fun o q => k it (by simp) o q, hne⟩
  item := by
    intro X hP hw hK hc i pins s σ H E I hf st hg
    subst hP hw hK
    obtain ⟨⟨old, he⟩, hit, hne, hai, hea⟩ := st
    obtain ⟨xs, x, hq, hx⟩ := hg
    obtain ⟨its, rv, p, hz⟩ := I.tuple hq
    obtain ⟨u, hu, ru⟩ := rv.get hx
    have hel : e < s.heap.objs.size := Heap.lt_size he
    have hil : it < s.heap.objs.size := by obtain ⟨_, q, _⟩ := hit; exact Heap.lt_size q
    have hisz : i < its.toArray.size := by
      have := (List.getElem?_eq_some_iff.mp hu).1
      simpa using this
    have D : Draws X.prog X.w X.A.in1 it [it, a] its.toArray.size (fun i v => its.toArray[i]? = some v) (fun i h => h.IsTupleIter it a i ∧ h.IsTuple a its.toArray) := Draws.tuple (A := X.A.in1) (show X.A.in1.handled = none from I.ok.hd hc) it a hai its.toArray
    refine wpAny_pyNext_enum_itemD D he ⟨hit, p⟩ hisz hne (by simp [hne, hea]) fun x' h' tk hx' ho hit' hT hsz hk => ?_
    have exu : x' = u := by
      have : its.toArray[i]? = some x' := hx'
      have h2 : its[i]? = some x' := by simpa using this
      rw [hu] at h2
      exact (Option.some.inj h2).symm
    subst exu
    refine ⟨_, rfl, wpAny_letOwnedTupleGo_enum (s := { s with heap := h', toks := tk + 1 }) ho fun h'' he' sb => ?_⟩
    have hT2 : h''.get? s.heap.objs.size = some { cls := .type "tuple", data := .seq #[.int i tk, x'] } := (sb.2 _ (Nat.ne_of_gt hel)).trans hT
    have new : ObjOk X.prog X.w (upd H s.heap.objs.size (.tup [.int (i : Nat), x])) h'' s.heap.objs.size (.tup [.int (i : Nat), x]) :=
      ⟨by show 2 ≤ sizeLine; decide, [.int i tk, x'], .cons ⟨_, rfl⟩ (.cons ru .nil), ⟨_, hT2, rfl, _, rfl⟩⟩
    have I1 : Inv X pins σ (upd H s.heap.objs.size (.tup [.int (i : Nat), x])) { s with heap := h'', toks := tk + 1 } :=
      I.turnedNew (ch := [e, it]) (fun b ob hb q => (sb.2 b (fun z => hb (by simp [z]))).trans (hk b ob (fun z => hb (by simp [z])) (fun z => hb (by simp [z])) q)) hf (Nat.le_refl _) new
    refine ⟨.ref s.heap.objs.size, _, I1, rfl, ⟨_, x, rfl, I.hok.fresh (Nat.le_refl _), rfl, fun ys hy => by rw [I.tuple_inj hy hq]; exact hx⟩, ⟨⟨x', ?_⟩, hit'.1.at fun o q => (sb.2 it (Ne.symm hne)).trans q, hne, hai, hea⟩, fun b hb => ?_⟩
    · have e1 : ((i + 1 : Nat) : Int) = (i : Int) + 1 := by omega
      rw [e1]; exact he'
    · have hb' : b < s.heap.objs.size := by
        have e' : b = e ∨ b = it := by simpa using hb
        rcases e' with z | z
        · rw [z]; exact hel
        · rw [z]; exact hil
      rw [upd_ne (Nat.ne_of_lt hb')]
      exact (hf b hb).1
  done := by
    intro X hP hw hK hc i pins s σ H E I hf st hg
    subst hP hw hK
    obtain ⟨⟨old, he⟩, hit, hne, hai, hea⟩ := st
    obtain ⟨xs, hq, hx⟩ := hg
    obtain ⟨its, rv, p, hz⟩ := I.tuple hq
    obtain ⟨f0, f1, f2, f3, f4, f5⟩ := hf it (by simp)
    have hl := rv.length
    exact enumT_end (I.ok.hd hc) he hit p (by simp; omega) fun h' eb => ⟨rfl, I.turned (t' := s.toks) (fun b o hb e => eb b o hb e) f0 f1 f3 f4 f5⟩
  self := fun A i s Q E st h => let ⟨⟨_, he⟩, _⟩ := st; wpAny_pyIter_enum he h
def iEnumT (K : PySem.W.Frag) (ta : TA) : TI := fun σ H R => ta σ H fun vs H1 => ∃ a xs, vs = [.ref a] ∧ SqT K H1 a xs ∧ R (Itet K a) H1
theorem pi_enumT {X : Cx} {e : Expr} {ta : TA} {p pos tpos : Pos} {elts : List Expr} {kk : Nat} (hg : Gl X "enumerate") (hm : X.mg "enumerate" = none) (ha : PA X [e] ta) (hs : starEach [e] X.env = [(false, eval e X.env)] := by rfl) :
    PI X (.Tuple elts kk tpos) (.Call (.Name "enumerate" p) [e] [] pos) (iEnumT X.K ta) := by
  refine ⟨fun pins s σ H R I h => ?_⟩
  refine Call_ (ld_blt I hg hm boot_enumerate (PyProof.Rows.callWith_type1 (thn (ha.run pos pins s σ H _ I h) fun us s1 ⟨vs, H1, I1, r1, q1⟩ => ?_) hs rfl))
  obtain ⟨a, xs, ex, hq, q⟩ := q1
  subst ex
  cases r1 with
  | cons r rr =>
    cases rr
    cases r
    obtain ⟨its, rv, p', hz⟩ := I1.tuple hq
    have hal : a < s1.heap.objs.size := by
      obtain ⟨o, ho, _⟩ := id p'
      exact Heap.lt_size ho
    refine call_enumerate_tuple p' fun h' he hit hsz hk => wpAny_pyIter_enum he ?_
    have I2 : Inv X pins σ H1 { s1 with heap := h' } := I1.kept (t' := s1.toks) hk
    refine ⟨s1.heap.objs.size + 1, [s1.heap.objs.size + 1, s1.heap.objs.size], _, _, H1, rfl, I2, turn_enumT a (s1.heap.objs.size + 1) s1.heap.objs.size, ⟨⟨.none, he⟩, hit, Nat.succ_ne_self _, Nat.ne_of_lt hal, Nat.ne_of_gt (Nat.lt_succ_of_lt hal)⟩, fun b hb => ?_, q⟩
    have e' : b = s1.heap.objs.size + 1 ∨ b = s1.heap.objs.size := by simpa using hb
    have hle : s1.heap.objs.size ≤ b := by
      rcases e' with z | z
      · rw [z]; exact Nat.le_add_right _ _
      · rw [z]; exact Nat.le_refl _
    exact I1.fpOk hle (I1.hok.fresh hle)
/-- for k, x in enumerate(l) -/
theorem for_enum {K : PySem.W.Frag} {ta : TA} {c1 c2 : Nat} {tb : TS} {D : Ends} {σ : L2.St} {H H0 : Hp} {a : Addr} (xs : List V) (hta : ∀ R : List V → Hp → Prop, R [.ref a] H0 → ta σ H R) (Pv : Nat → L2.St → Hp → Prop)
    (hp : Pv 0 σ H0) (hl : ∀ i σ' H', i ≤ xs.length → Pv i σ' H' → SqL K H' a xs)
    (hs : ∀ i x σ' H' T, xs[i]? = some x → Pv i σ' H' → H' T = none → tb { D with nx := Pv (i + 1), ct := Pv (i + 1), bk := D.nx } ((σ'.set c1 (some (.int (i : Nat)))).set c2 (some x)) (upd H' T (.tup [.int (i : Nat), x])))
    (hd : ∀ σ' H', Pv xs.length σ' H' → D.nx σ' H') : tFor (iEnum K ta) (gTup K 2 (gCons (gName c1) (gCons (gName c2) gNil))) tb D σ H := by
  refine hta _ ⟨a, xs, rfl, hl 0 σ H0 (Nat.zero_le _) hp, ?_⟩
  refine ⟨fun i m σ' H' => m = xs.length - i ∧ i ≤ xs.length ∧ Pv i σ' H', ⟨_, rfl, Nat.zero_le _, hp⟩, ?_⟩
  rintro i m σ' H' ⟨rfl, hi, p⟩
  have q := hl i σ' H' hi p
  by_cases hlt : i < xs.length
  · refine .inr ⟨⟨xs, xs[i], q, by simp [hlt]⟩, Pv (i + 1), fun σ2 H2 p' => ⟨xs.length - (i + 1), by omega, rfl, hlt, p'⟩, fun x H2 y => ?_⟩
    obtain ⟨T, x', rfl, hT, rfl, hx⟩ := y
    have hx' := hx xs q
    refine ⟨T, [.int (i : Nat), x'], rfl, .inl (.inl upd_same), rfl, ?_⟩
    exact ⟨_, _, rfl, _, _, rfl, rfl, hs i x' σ' H' T hx' p hT⟩
  · have e : i = xs.length := by omega
    subst e
    exact .inl ⟨⟨xs, q, Nat.le_refl _⟩, hd σ' H' p⟩
theorem for_enumT {K : PySem.W.Frag} {ta : TA} {c1 c2 : Nat} {tb : TS} {D : Ends} {σ : L2.St} {H H0 : Hp} {a : Addr} (xs : List V) (hta : ∀ R : List V → Hp → Prop, R [.ref a] H0 → ta σ H R) (Pv : Nat → L2.St → Hp → Prop)
    (hp : Pv 0 σ H0) (hl : ∀ i σ' H', i ≤ xs.length → Pv i σ' H' → SqT K H' a xs)
    (hs : ∀ i x σ' H' T, xs[i]? = some x → Pv i σ' H' → H' T = none → tb { D with nx := Pv (i + 1), ct := Pv (i + 1), bk := D.nx } ((σ'.set c1 (some (.int (i : Nat)))).set c2 (some x)) (upd H' T (.tup [.int (i : Nat), x])))
    (hd : ∀ σ' H', Pv xs.length σ' H' → D.nx σ' H') : tFor (iEnumT K ta) (gTup K 2 (gCons (gName c1) (gCons (gName c2) gNil))) tb D σ H := by
  refine hta _ ⟨a, xs, rfl, hl 0 σ H0 (Nat.zero_le _) hp, ?_⟩
  refine ⟨fun i m σ' H' => m = xs.length - i ∧ i ≤ xs.length ∧ Pv i σ' H', ⟨_, rfl, Nat.zero_le _, hp⟩, ?_⟩
  rintro i m σ' H' ⟨rfl, hi, p⟩
  have q := hl i σ' H' hi p
  by_cases hlt : i < xs.length
  · refine .inr ⟨⟨xs, xs[i], q, by simp [hlt]⟩, Pv (i + 1), fun σ2 H2 p' => ⟨xs.length - (i + 1), by omega, rfl, hlt, p'⟩, fun x H2 y => ?_⟩
    obtain ⟨T, x', rfl, hT, rfl, hx⟩ := y
    have hx' := hx xs q
    refine ⟨T, [.int (i : Nat), x'], rfl, .inl (.inl upd_same), rfl, ?_⟩
    exact ⟨_, _, rfl, _, _, rfl, rfl, hs i x' σ' H' T hx' p hT⟩
  · have e : i = xs.length := by omega
    subst e
    exact .inl ⟨⟨xs, q, Nat.le_refl _⟩, hd σ' H' p⟩

section
variable {X : Cx}
/-- isinstance(t, tuple) of a tuple -/
def rIsT : List V → Hp → VK → Prop := fun xs H Q => ∃ p, xs = [.ref p, .ty "tuple"] ∧ ∃ ys, H p = some (.tup ys) ∧ Q (.bl true) H
theorem call_isT {X : Cx} : CallR X (.builtin "isinstance") rIsT := by
  intro pins s σ H xs us Q I r h
  obtain ⟨p, rfl, ys, hp, q⟩ := h
  exact call_isi pins s σ H _ us Q I r ⟨.ref p, .ty "tuple", .type "tuple", .type "tuple", true, rfl, .ty "tuple", .base (.tup hp), kit_ty rfl, q⟩
end

/-! ### paths over rows of words -/
def tgt (N : Int) (w : Int) : Option Int := if w % 2 = 0 ∧ 0 ≤ w / 2 ∧ w / 2 < N then some (w / 2) else none
def atK (row : List Int) (k : Int) : Option Int := if 0 ≤ k then row[k.toNat]? else none
theorem atK_lt {row : List Int} {k w : Int} (h : atK row k = some w) : 0 ≤ k ∧ k < row.length := by
  unfold atK at h
  by_cases h0 : 0 ≤ k
  · rw [if_pos h0] at h
    have := (List.getElem?_eq_some_iff.mp h).1
    exact ⟨h0, by omega⟩
  · rw [if_neg h0] at h
    cases h
theorem atK_nat {row : List Int} {i : Nat} : atK row (i : Int) = row[i]? := by
  unfold atK
  rw [if_pos (by omega), Int.toNat_natCast]
theorem tgt_some {N w n : Int} (h : tgt N w = some n) : n = w / 2 ∧ w % 2 = 0 ∧ 0 ≤ n ∧ n < N := by
  unfold tgt at h
  by_cases c : w % 2 = 0 ∧ 0 ≤ w / 2 ∧ w / 2 < N
  · rw [if_pos c] at h
    cases h
    exact ⟨rfl, c.1, c.2.1, c.2.2⟩
  · rw [if_neg c] at h
    cases h
def wkS (N : Int) (R : Int → List Int) : Int → List Int → Option Int
  | w, [] => some w
  | w, k :: ks => (tgt N w).bind fun n => (atK (R n) k).bind fun w' => wkS N R w' ks
/-- the word at the end of a path -/
def wkP (N : Int) (R : Int → List Int) (W : List Int) : List Int → Option Int
  | [] => none
  | k :: ks => (atK W k).bind fun w => wkS N R w ks
theorem wkS_snoc {N : Int} {R : Int → List Int} : ∀ (p : List Int) (w k : Int), wkS N R w (p ++ [k]) = (wkS N R w p).bind fun w' => (tgt N w').bind fun n => atK (R n) k
  | [], w, k => by
    show (tgt N w).bind (fun n => (atK (R n) k).bind fun w' => some w') = (tgt N w).bind fun n => atK (R n) k
    congr 1
    funext n
    cases atK (R n) k <;> rfl
  | a :: p, w, k => by
    show (tgt N w).bind (fun n => (atK (R n) a).bind fun w' => wkS N R w' (p ++ [k])) = ((tgt N w).bind fun n => (atK (R n) a).bind fun w' => wkS N R w' p).bind _
    cases tgt N w with
    | none => rfl
    | some n =>
      show (atK (R n) a).bind (fun w' => wkS N R w' (p ++ [k])) = ((atK (R n) a).bind fun w' => wkS N R w' p).bind _
      cases atK (R n) a with
      | none => rfl
      | some w' => exact wkS_snoc p w' k
theorem wkP_one {N : Int} {R : Int → List Int} {W : List Int} (k : Int) : wkP N R W [k] = atK W k := by
  show (atK W k).bind (fun w => some w) = _
  cases atK W k <;> rfl
theorem wkP_snoc {N : Int} {R : Int → List Int} {W : List Int} {p : List Int} (h : p ≠ []) (k : Int) : wkP N R W (p ++ [k]) = (wkP N R W p).bind fun w' => (tgt N w').bind fun n => atK (R n) k := by
  cases p with
  | nil => exact absurd rfl h
  | cons a p =>
    show (atK W a).bind (fun w => wkS N R w (p ++ [k])) = ((atK W a).bind fun w => wkS N R w p).bind _
    cases atK W a with
    | none => rfl
    | some w => exact wkS_snoc p w k
/-- the path leads to the object n -/
def Leads (N : Int) (R : Int → List Int) (W : List Int) (p : List Int) (n : Int) : Prop := ∃ w, wkP N R W p = some w ∧ tgt N w = some n
theorem Leads.ne {N R W p n} (h : Leads N R W p n) : p ≠ [] := by
  rintro rfl
  obtain ⟨w, h, _⟩ := h
  cases h
theorem Leads.one {N R W k w n} (h1 : atK W k = some w) (h2 : tgt N w = some n) : Leads N R W [k] n := ⟨w, by rw [wkP_one]; exact h1, h2⟩
theorem Leads.step {N R W q u k w n} (h : Leads N R W q u) (h1 : atK (R u) k = some w) (h2 : tgt N w = some n) : Leads N R W (q ++ [k]) n := by
  obtain ⟨w0, h3, h4⟩ := h
  refine ⟨w, ?_, h2⟩
  rw [wkP_snoc (Leads.ne ⟨w0, h3, h4⟩), h3]
  show (tgt N w0).bind _ = _
  rw [h4]
  exact h1
theorem Leads.back {N R W q k n} (h : Leads N R W (q ++ [k]) n) : ∃ w, tgt N w = some n ∧ ((q = [] ∧ atK W k = some w) ∨ ∃ u, Leads N R W q u ∧ atK (R u) k = some w) := by
  obtain ⟨w, h1, h2⟩ := h
  refine ⟨w, h2, ?_⟩
  by_cases hq : q = []
  · subst hq
    exact .inl ⟨rfl, by rw [← wkP_one (N := N) (R := R)]; exact h1⟩
  · rw [wkP_snoc hq] at h1
    cases h3 : wkP N R W q with
    | none =>
      rw [h3] at h1
      cases h1
    | some w0 =>
      rw [h3] at h1
      have h1' : (tgt N w0).bind (fun n => atK (R n) k) = some w := h1
      cases h4 : tgt N w0 with
      | none =>
        rw [h4] at h1'
        cases h1'
      | some u =>
        rw [h4] at h1'
        exact .inr ⟨u, ⟨w0, h3, h4⟩, h1'⟩
theorem Leads.lt {N R W p n} (h : Leads N R W p n) : 0 ≤ n ∧ n < N := by
  obtain ⟨w, _, h⟩ := h
  have := tgt_some h
  exact ⟨this.2.2.1, this.2.2.2⟩
/-- as tuples are compared -/
def lexlt : List Int → List Int → Bool
  | [], [] => false
  | [], _ :: _ => true
  | _ :: _, [] => false
  | a :: p, b :: q => if a = b then lexlt p q else decide (a < b)
theorem lexlt_cons {a b : Int} {p q : List Int} : lexlt (a :: p) (b :: q) = if a = b then lexlt p q else decide (a < b) := rfl
theorem lex_irrefl : ∀ p : List Int, lexlt p p = false
  | [] => rfl
  | a :: p => by rw [lexlt_cons, if_pos rfl, lex_irrefl p]
theorem lex_trans : ∀ {p q r : List Int}, lexlt p q = true → lexlt q r = true → lexlt p r = true
  | [], [], r, h, _ => by cases h
  | [], b :: q, [], _, h => by cases h
  | [], b :: q, c :: r, _, _ => rfl
  | a :: p, [], r, h, _ => by cases h
  | a :: p, b :: q, [], _, h => by cases h
  | a :: p, b :: q, c :: r, h1, h2 => by
    rw [lexlt_cons] at h1 h2 ⊢
    by_cases e1 : a = b
    · rw [if_pos e1] at h1
      by_cases e2 : b = c
      · rw [if_pos e2] at h2
        rw [if_pos (e1.trans e2)]
        exact lex_trans h1 h2
      · rw [if_neg e2] at h2
        rw [if_neg (by rw [e1]; exact e2), e1]
        exact h2
    · rw [if_neg e1] at h1
      have h1 := of_decide_eq_true h1
      by_cases e2 : b = c
      · rw [if_neg (by omega), ← e2]
        exact decide_eq_true h1
      · rw [if_neg e2] at h2
        have h2 := of_decide_eq_true h2
        rw [if_neg (by omega)]
        exact decide_eq_true (by omega)
theorem lex_total : ∀ {p q : List Int}, lexlt p q = false → lexlt q p = false → p = q
  | [], [], _, _ => rfl
  | [], b :: q, h, _ => by cases h
  | a :: p, [], _, h => by cases h
  | a :: p, b :: q, h1, h2 => by
    rw [lexlt_cons] at h1 h2
    by_cases e : a = b
    · rw [if_pos e] at h1
      rw [if_pos e.symm] at h2
      rw [e, lex_total h1 h2]
    · rw [if_neg e] at h1
      rw [if_neg (Ne.symm e)] at h2
      have h1 := of_decide_eq_false h1
      have h2 := of_decide_eq_false h2
      omega
theorem lex_app : ∀ {p q : List Int} (a b : List Int), p.length = q.length → lexlt p q = true → lexlt (p ++ a) (q ++ b) = true
  | [], [], a, b, _, h => by cases h
  | [], _ :: _, a, b, h, _ => by cases h
  | _ :: _, [], a, b, h, _ => by cases h
  | x :: p, y :: q, a, b, hl, h => by
    rw [List.cons_append, List.cons_append, lexlt_cons]
    rw [lexlt_cons] at h
    by_cases e : x = y
    · rw [if_pos e] at h ⊢
      exact lex_app a b (by simpa using hl) h
    · rw [if_neg e] at h ⊢
      exact h
theorem lex_last : ∀ (p : List Int) {a b : Int}, a < b → lexlt (p ++ [a]) (p ++ [b]) = true
  | [], a, b, h => by
    show (if a = b then lexlt [] [] else decide (a < b)) = true
    rw [if_neg (by omega)]
    exact decide_eq_true h
  | x :: p, a, b, h => by
    rw [List.cons_append, List.cons_append, lexlt_cons, if_pos rfl]
    exact lex_last p h
/-- shorter, or as long and less -/
def slt (p q : List Int) : Prop := p.length < q.length ∨ (p.length = q.length ∧ lexlt p q = true)
def sle (p q : List Int) : Prop := p = q ∨ slt p q
theorem slt.trans {p q r : List Int} (h1 : slt p q) (h2 : slt q r) : slt p r := by
  rcases h1 with h1 | ⟨h1, h3⟩
  · rcases h2 with h2 | ⟨h2, h4⟩
    · exact .inl (by omega)
    · exact .inl (by omega)
  · rcases h2 with h2 | ⟨h2, h4⟩
    · exact .inl (by omega)
    · exact .inr ⟨by omega, lex_trans h3 h4⟩
theorem slt.irrefl {p : List Int} (h : slt p p) : False := by
  rcases h with h | ⟨_, h⟩
  · omega
  · rw [lex_irrefl] at h
    cases h
theorem sle.trans {p q r : List Int} (h1 : sle p q) (h2 : sle q r) : sle p r := by
  rcases h1 with rfl | h1
  · exact h2
  · rcases h2 with rfl | h2
    · exact .inr h1
    · exact .inr (h1.trans h2)
theorem sle.anti {p q : List Int} (h1 : sle p q) (h2 : sle q p) : p = q := by
  rcases h1 with h1 | h1
  · exact h1
  · rcases h2 with h2 | h2
    · exact h2.symm
    · exact (h1.trans h2).irrefl.elim
theorem slt.app {p q : List Int} (h : slt p q) (a b : Int) : slt (p ++ [a]) (q ++ [b]) := by
  unfold slt
  rw [List.length_append, List.length_append, List.length_singleton, List.length_singleton]
  rcases h with h | ⟨h, h2⟩
  · exact .inl (by omega)
  · exact .inr ⟨by omega, lex_app _ _ h h2⟩
theorem slt.last (p : List Int) {a b : Int} (h : a < b) : slt (p ++ [a]) (p ++ [b]) := .inr ⟨by simp, lex_last p h⟩
theorem sle.app {p q : List Int} (h : sle p q) (a : Int) : sle (p ++ [a]) (q ++ [a]) := by
  rcases h with rfl | h
  · exact .inl rfl
  · exact .inr (h.app a a)
theorem slt.len {p q : List Int} (h : slt p q) : p.length ≤ q.length := by
  rcases h with h | ⟨h, _⟩ <;> omega
theorem sle.len {p q : List Int} (h : sle p q) : p.length ≤ q.length := by
  rcases h with rfl | h
  · exact Nat.le_refl _
  · exact h.len
abbrev Fs := List (Int × List Int)
def begS (fs : Fs) : Nat → List Int
  | 0 => []
  | i + 1 => (fs[i]?.map (·.2)).getD []
def rowS (R : Int → List Int) (W : List Int) (fs : Fs) : Nat → List Int
  | 0 => W
  | i + 1 => (fs[i]?.map fun x => R x.1).getD []
theorem begS_app {fs : Fs} {x : Int × List Int} {s : Nat} (h : s ≤ fs.length) : begS (fs ++ [x]) s = begS fs s := by
  cases s with
  | zero => rfl
  | succ i =>
    show ((fs ++ [x])[i]?.map (·.2)).getD [] = (fs[i]?.map (·.2)).getD []
    rw [List.getElem?_append_left (by omega)]
/-- the search, row by row: at the row s, before the word k -/
structure Bf (N : Int) (R : Int → List Int) (W : List Int) (fs : Fs) (s : Nat) (k : Int) : Prop where
  nd : (fs.map (·.1)).Nodup
  ld : ∀ x ∈ fs, Leads N R W x.2 x.1
  so : fs.Pairwise fun x y => slt x.2 y.2
  bd : ∀ x ∈ fs, slt x.2 (begS fs s ++ [k])
  ln : ∀ (i : Nat) (x : Int × List Int), fs[i]? = some x → x.2.length ≤ i + 1
  rt : ∀ j w n : Int, (0 < s ∨ j < k) → atK W j = some w → tgt N w = some n → ∃ x ∈ fs, x.1 = n ∧ sle x.2 [j]
  no : ∀ (i : Nat) (x : Int × List Int), fs[i]? = some x → ∀ j w n : Int, (i + 1 < s ∨ (i + 1 = s ∧ j < k)) → atK (R x.1) j = some w → tgt N w = some n → ∃ y ∈ fs, y.1 = n ∧ sle y.2 (x.2 ++ [j])
  sl : s ≤ fs.length
section
variable {N : Int} {R : Int → List Int} {W : List Int} {fs : Fs} {s : Nat} {k : Int}
theorem Bf.start : Bf N R W [] 0 0 := by
  refine ⟨.nil, fun x h => absurd h List.not_mem_nil, .nil, fun x h => absurd h List.not_mem_nil, fun i x h => by simp at h, fun j w n h h2 _ => ?_, fun i x h => by simp at h, Nat.le_refl _⟩
  have := atK_lt h2
  rcases h with h | h <;> omega
theorem Bf.kd (B : Bf N R W fs s k) {w : Int} (hw : atK (rowS R W fs s) k = some w) {x : Int × List Int} {i : Nat} (hx : fs[i]? = some x) (hs : i + 1 = s) : atK (R x.1) k = some w := by
  subst hs
  have e : rowS R W fs (i + 1) = R x.1 := by
    show (fs[i]?.map fun x => R x.1).getD [] = _
    rw [hx]
    rfl
  rw [e] at hw
  exact hw
/-- the word leads to nothing new -/
theorem Bf.skip (B : Bf N R W fs s k) {w : Int} (hw : atK (rowS R W fs s) k = some w) (h : ∀ n, tgt N w = some n → n ∈ fs.map (·.1)) : Bf N R W fs s (k + 1) := by
  have up : ∀ p : List Int, slt p (begS fs s ++ [k]) → slt p (begS fs s ++ [k + 1]) := fun p hp => hp.trans (slt.last _ (by omega))
  have here : ∀ n, tgt N w = some n → ∃ x ∈ fs, x.1 = n ∧ slt x.2 (begS fs s ++ [k]) := fun n hn => by
    obtain ⟨x, hx, e⟩ := List.mem_map.mp (h n hn)
    exact ⟨x, hx, e, B.bd x hx⟩
  refine ⟨B.nd, B.ld, B.so, fun x hx => up _ (B.bd x hx), B.ln, fun j w2 n hj h2 h3 => ?_, fun i x hx j w2 n hj h2 h3 => ?_, B.sl⟩
  · by_cases c : 0 < s ∨ j < k
    · exact B.rt j w2 n c h2 h3
    · have hs : s = 0 := by omega
      have hjk : j = k := by omega
      subst hs
      subst hjk
      have e : w2 = w := by
        have : atK W j = some w := hw
        rw [h2] at this
        exact Option.some.inj this
      subst e
      obtain ⟨x, hx, e1, e2⟩ := here n h3
      exact ⟨x, hx, e1, .inr e2⟩
  · by_cases c : i + 1 < s ∨ (i + 1 = s ∧ j < k)
    · exact B.no i x hx j w2 n c h2 h3
    · have hs : i + 1 = s := by omega
      have hjk : j = k := by omega
      subst hjk
      have e : w2 = w := by
        have := B.kd hw hx hs
        rw [h2] at this
        exact Option.some.inj this
      subst e
      obtain ⟨y, hy, e1, e2⟩ := here n h3
      refine ⟨y, hy, e1, .inr ?_⟩
      rw [← hs] at e2
      have e3 : begS fs (i + 1) = x.2 := by
        show (fs[i]?.map (·.2)).getD [] = _
        rw [hx]
        rfl
      rw [e3] at e2
      exact e2
/-- the word leads to an object that is new -/
theorem Bf.add (B : Bf N R W fs s k) {w n : Int} (hw : atK (rowS R W fs s) k = some w) (ht : tgt N w = some n) (h : n ∉ fs.map (·.1)) : Bf N R W (fs ++ [(n, begS fs s ++ [k])]) s (k + 1) := by
  have up : ∀ p : List Int, slt p (begS fs s ++ [k]) → slt p (begS fs s ++ [k + 1]) := fun p hp => hp.trans (slt.last _ (by omega))
  have old : ∀ {P : Int × List Int → Prop}, (∃ x ∈ fs, P x) → ∃ x ∈ fs ++ [(n, begS fs s ++ [k])], P x := fun ⟨x, hx, p⟩ => ⟨x, List.mem_append_left _ hx, p⟩
  have new : ∀ {P : Int × List Int → Prop}, P (n, begS fs s ++ [k]) → ∃ x ∈ fs ++ [(n, begS fs s ++ [k])], P x := fun p => ⟨_, List.mem_append_right _ (List.mem_singleton.mpr rfl), p⟩
  have hl : Leads N R W (begS fs s ++ [k]) n := by
    cases s with
    | zero => exact Leads.one hw ht
    | succ i =>
      have hi : i < fs.length := by have := B.sl; omega
      have hx : fs[i]? = some fs[i] := List.getElem?_eq_getElem hi
      have e3 : begS fs (i + 1) = fs[i].2 := by
        show (fs[i]?.map (·.2)).getD [] = _
        rw [hx]
        rfl
      rw [e3]
      exact (B.ld _ (List.getElem_mem hi)).step (B.kd hw hx rfl) ht
  refine ⟨?_, fun x hx => ?_, ?_, fun x hx => ?_, fun i x hx => ?_, fun j w2 m hj h2 h3 => ?_, fun i x hx j w2 m hj h2 h3 => ?_, by rw [List.length_append]; have := B.sl; omega⟩
  · rw [List.map_append, List.nodup_append]
    refine ⟨B.nd, by simp, fun a ha b hb => ?_⟩
    have : b = n := by simpa using hb
    rw [this]
    exact fun e => h (e ▸ ha)
  · rcases List.mem_append.mp hx with hx | hx
    · exact B.ld x hx
    · rw [List.mem_singleton.mp hx]
      exact hl
  · rw [List.pairwise_append]
    refine ⟨B.so, List.pairwise_singleton .., fun a ha b hb => ?_⟩
    rw [List.mem_singleton.mp hb]
    exact B.bd a ha
  · rw [begS_app B.sl]
    rcases List.mem_append.mp hx with hx | hx
    · exact up _ (B.bd x hx)
    · rw [List.mem_singleton.mp hx]
      exact slt.last _ (by omega)
  · by_cases c : i < fs.length
    · rw [List.getElem?_append_left c] at hx
      exact B.ln i x hx
    · have hi := (List.getElem?_eq_some_iff.mp hx).1
      rw [List.length_append, List.length_singleton] at hi
      have ei : i = fs.length := by omega
      rw [ei, List.getElem?_append_right (Nat.le_refl _), Nat.sub_self] at hx
      have ex := Option.some.inj hx
      rw [← ex]
      show (begS fs s ++ [k]).length ≤ i + 1
      rw [List.length_append, List.length_singleton]
      cases s with
      | zero => simp [begS]
      | succ j =>
        have hj : j < fs.length := by have := B.sl; omega
        have hx : fs[j]? = some fs[j] := List.getElem?_eq_getElem hj
        have e3 : begS fs (j + 1) = fs[j].2 := by
          show (fs[j]?.map (·.2)).getD [] = _
          rw [hx]
          rfl
        rw [e3]
        have := B.ln j _ hx
        omega
  · by_cases c : 0 < s ∨ j < k
    · exact old (B.rt j w2 m c h2 h3)
    · have hs : s = 0 := by omega
      have hjk : j = k := by omega
      subst hs
      subst hjk
      have e : w2 = w := by
        have : atK W j = some w := hw
        rw [h2] at this
        exact Option.some.inj this
      subst e
      rw [ht] at h3
      cases h3
      exact new ⟨rfl, .inl rfl⟩
  · by_cases ci : i < fs.length
    · rw [List.getElem?_append_left ci] at hx
      by_cases c : i + 1 < s ∨ (i + 1 = s ∧ j < k)
      · exact old (B.no i x hx j w2 m c h2 h3)
      · have hs : i + 1 = s := by omega
        have hjk : j = k := by omega
        subst hjk
        have e : w2 = w := by
          have := B.kd hw hx hs
          rw [h2] at this
          exact Option.some.inj this
        subst e
        rw [ht] at h3
        cases h3
        refine new ⟨rfl, .inl ?_⟩
        rw [← hs]
        show (fs[i]?.map (·.2)).getD [] ++ [j] = _
        rw [hx]
        rfl
    · have := B.sl
      have : i + 1 ≤ s := by omega
      omega
/-- the row is at its end: the next one -/
theorem Bf.next (B : Bf N R W fs s ((rowS R W fs s).length : Int)) (h : s < fs.length) : Bf N R W fs (s + 1) 0 := by
  have hx : fs[s]? = some fs[s] := List.getElem?_eq_getElem h
  have e3 : begS fs (s + 1) = fs[s].2 := by
    show (fs[s]?.map (·.2)).getD [] = _
    rw [hx]
    rfl
  have hlt : slt (begS fs s) (begS fs (s + 1)) := by
    rw [e3]
    cases s with
    | zero =>
      refine .inl ?_
      have := (B.ld _ (List.getElem_mem h)).ne
      show ([] : List Int).length < _
      exact List.length_pos_iff.mpr this
    | succ i =>
      have hi : i < fs.length := by omega
      have e4 : begS fs (i + 1) = fs[i].2 := by
        show (fs[i]?.map (·.2)).getD [] = _
        rw [List.getElem?_eq_getElem hi]
        rfl
      rw [e4]
      exact List.pairwise_iff_getElem.mp B.so i (i + 1) hi h (Nat.lt_succ_self i)
  refine ⟨B.nd, B.ld, B.so, fun x hx => (B.bd x hx).trans (hlt.app _ _), B.ln, fun j w n _ h2 h3 => ?_, fun i x hx2 j w n hj h2 h3 => ?_, h⟩
  · refine B.rt j w n ?_ h2 h3
    cases s with
    | zero => exact .inr (atK_lt h2).2
    | succ i => exact .inl (Nat.succ_pos i)
  · have hj0 := atK_lt h2
    refine B.no i x hx2 j w n ?_ h2 h3
    by_cases c : i + 1 < s
    · exact .inl c
    · have hs : i + 1 = s := by omega
      refine .inr ⟨hs, ?_⟩
      subst hs
      have e : rowS R W fs (i + 1) = R x.1 := by
        show (fs[i]?.map fun x => R x.1).getD [] = _
        rw [hx2]
        rfl
      rw [e]
      exact hj0.2
theorem snoc_of {p : List Int} (h : p ≠ []) : ∃ q k, p = q ++ [k] := ⟨p.dropLast, p.getLast h, (List.dropLast_concat_getLast h).symm⟩
/-- all is found, each by its least path -/
structure Best (N : Int) (R : Int → List Int) (W : List Int) (fs : Fs) (L : Nat) : Prop where
  nd : (fs.map (·.1)).Nodup
  ld : ∀ x ∈ fs, Leads N R W x.2 x.1
  all : ∀ (p : List Int) (n : Int), p.length ≤ L → Leads N R W p n → ∃ x ∈ fs, x.1 = n ∧ sle x.2 p
theorem Bf.done (B : Bf N R W fs s ((rowS R W fs s).length : Int)) (h : s = fs.length) (L : Nat) : Best N R W fs L := by
  refine ⟨B.nd, B.ld, fun p n _ hp => ?_⟩
  suffices ∀ (m : Nat) (p : List Int) (n : Int), p.length ≤ m → Leads N R W p n → ∃ x ∈ fs, x.1 = n ∧ sle x.2 p from this p.length p n (Nat.le_refl _) hp
  intro m
  induction m with
  | zero =>
    intro p n hm hp
    exact absurd (List.eq_nil_of_length_eq_zero (Nat.le_zero.mp hm)) hp.ne
  | succ m ih =>
    intro p n hm hp
    obtain ⟨q, k, rfl⟩ := snoc_of hp.ne
    obtain ⟨w, h3, ⟨rfl, h2⟩ | ⟨u, hu, h2⟩⟩ := hp.back
    · refine B.rt k w n ?_ h2 h3
      cases s with
      | zero => exact .inr (atK_lt h2).2
      | succ i => exact .inl (Nat.succ_pos i)
    · rw [List.length_append, List.length_singleton] at hm
      obtain ⟨x, hx, e, hle⟩ := ih q u (by omega) hu
      obtain ⟨i, hi⟩ := List.mem_iff_getElem?.mp hx
      have hil := (List.getElem?_eq_some_iff.mp hi).1
      rw [← e] at h2
      obtain ⟨y, hy, e2, hle2⟩ := B.no i x hi k w n (by
        by_cases c : i + 1 < s
        · exact .inl c
        · have hs : i + 1 = s := by omega
          refine .inr ⟨hs, ?_⟩
          subst hs
          have e : rowS R W fs (i + 1) = R x.1 := by
            show (fs[i]?.map fun x => R x.1).getD [] = _
            rw [hi]
            rfl
          rw [e]
          exact (atK_lt h2).2) h2 h3
      exact ⟨y, hy, e2, hle2.trans (hle.app k)⟩
end
theorem nodup_few : ∀ {l : List Int} {N : Nat}, l.Nodup → (∀ n ∈ l, 0 ≤ n ∧ n < (N : Int)) → l.length ≤ N := by
  intro l N
  induction N generalizing l with
  | zero =>
    intro _ h
    cases l with
    | nil => exact Nat.le_refl _
    | cons a r =>
      have := h a (List.mem_cons_self ..)
      omega
  | succ N ih =>
    intro nd h
    have h1 := ih (l := l.erase (N : Int)) (nd.erase _) fun n hn => by
      have h2 := h n (List.mem_of_mem_erase hn)
      have h3 : n ≠ (N : Int) := fun e => by
        subst e
        exact (List.Nodup.not_mem_erase nd) hn
      omega
    have h2 : l.length ≤ (l.erase (N : Int)).length + 1 := by
      by_cases c : (N : Int) ∈ l
      · rw [List.length_erase_of_mem c]
        omega
      · rw [List.erase_of_not_mem c]
        omega
    omega
theorem fst_uniq {fs : Fs} (h : (fs.map (·.1)).Nodup) {x y : Int × List Int} (hx : x ∈ fs) (hy : y ∈ fs) (e : x.1 = y.1) : x = y := by
  induction fs with
  | nil => cases hx
  | cons a r ih =>
    rw [List.map_cons, List.nodup_cons] at h
    rcases List.mem_cons.mp hx with e1 | hx1
    · rcases List.mem_cons.mp hy with e2 | hy1
      · rw [e1, e2]
      · exact absurd (List.mem_map.mpr ⟨y, hy1, by rw [← e, e1]⟩) h.1
    · rcases List.mem_cons.mp hy with e2 | hy1
      · exact absurd (List.mem_map.mpr ⟨x, hx1, by rw [e, e2]⟩) h.1
      · exact ih h.2 hx1 hy1
/-- two searches find the same -/
theorem Best.same {N : Int} {R : Int → List Int} {W : List Int} {fs gs : Fs} {L : Nat} (hf : ∀ L, Best N R W fs L) (hl : ∀ x ∈ fs, x.2.length ≤ L) (hg : Best N R W gs L) (x : Int × List Int) : x ∈ fs ↔ x ∈ gs := by
  constructor
  · intro hx
    obtain ⟨y, hy, e, le⟩ := hg.all x.2 x.1 (hl x hx) ((hf 0).ld x hx)
    obtain ⟨z, hz, e2, le2⟩ := (hf y.2.length).all y.2 y.1 (Nat.le_refl _) (hg.ld y hy)
    have : z = x := fst_uniq (hf 0).nd hz hx (e2.trans e)
    subst this
    have := le.anti le2
    have e3 : y = z := Prod.ext e this
    rw [← e3]
    exact hy
  · intro hx
    obtain ⟨z, hz, e2, le2⟩ := (hf x.2.length).all x.2 x.1 (Nat.le_refl _) (hg.ld x hx)
    obtain ⟨y, hy, e, le⟩ := hg.all z.2 z.1 (hl z hz) ((hf 0).ld z hz)
    have : y = x := fst_uniq hg.nd hy hx (e.trans e2)
    subst this
    have := le.anti le2
    have e3 : z = y := Prod.ext e2 this.symm
    rw [← e3]
    exact hz

/-! ### sorted, of pairs of a tuple of ints and an int -/
theorem swo_of {α κ : Type} (lt : κ → κ → Bool) (k : α → κ) (irr : ∀ x, lt x x = false) (tr : ∀ x y z, lt x y = true → lt y z = true → lt x z = true) (tot : ∀ x y, lt x y = false → lt y x = false → x = y) : SrtO.Swo fun v u => lt (k v) (k u) := by
  refine ⟨fun x y h => ?_, fun x y z h1 h2 => ?_⟩
  · cases e : lt (k y) (k x) with
    | false => rfl
    | true =>
      have := tr _ _ _ h e
      rw [irr] at this
      cases this
  · cases e : lt (k z) (k x) with
    | false => rfl
    | true =>
      cases e2 : lt (k x) (k y) with
      | true =>
        have := tr _ _ _ e e2
        rw [h2] at this
        cases this
      | false =>
        have := tot _ _ h1 e2
        rw [this] at h2
        rw [h2] at e
        cases e
def ltK (x y : List Int × Int) : Bool := if x.1 = y.1 then decide (x.2 < y.2) else lexlt x.1 y.1
theorem swo_pk {α : Type} (k : α → List Int × Int) : SrtO.Swo fun v u => ltK (k v) (k u) := by
  refine swo_of ltK k (fun x => ?_) (fun x y z h1 h2 => ?_) (fun x y h1 h2 => ?_)
  · unfold ltK
    rw [if_pos rfl]
    exact decide_eq_false (Int.lt_irrefl _)
  · unfold ltK at h1 h2 ⊢
    by_cases e1 : x.1 = y.1
    · rw [if_pos e1] at h1
      by_cases e2 : y.1 = z.1
      · rw [if_pos e2] at h2
        rw [if_pos (e1.trans e2)]
        have a := of_decide_eq_true h1
        have b := of_decide_eq_true h2
        exact decide_eq_true (by omega)
      · rw [if_neg e2] at h2
        rw [if_neg (by rw [e1]; exact e2), e1]
        exact h2
    · rw [if_neg e1] at h1
      by_cases e2 : y.1 = z.1
      · rw [← e2, if_neg e1]
        exact h1
      · rw [if_neg e2] at h2
        have h3 := lex_trans h1 h2
        rw [if_neg (fun e => by rw [e, lex_irrefl] at h3; cases h3)]
        exact h3
  · unfold ltK at h1 h2
    by_cases e1 : x.1 = y.1
    · rw [if_pos e1] at h1
      rw [if_pos e1.symm] at h2
      have a := of_decide_eq_false h1
      have b := of_decide_eq_false h2
      exact Prod.ext e1 (by omega)
    · rw [if_neg e1] at h1
      rw [if_neg (Ne.symm e1)] at h2
      exact absurd (lex_total h1 h2) e1
def IsInts (h : Heap) (v : Value) (p : List Int) : Prop := ∃ t o its n, v = .ref t ∧ h.get? t = some o ∧ o.cls = .type "tuple" ∧ o.data = .seq its n ∧ IntsAre its.toList p
def IsPK (h : Heap) (v : Value) (p : List Int) (w : Int) : Prop := ∃ a o f t n, v = .ref a ∧ h.get? a = some o ∧ o.cls = .type "tuple" ∧ o.data = .seq #[f, .int w t] n ∧ IsInts h f p
theorem IsInts.keeps {h h' : Heap} {v : Value} {p : List Int} (q : IsInts h v p) (k : ∀ b o, h.get? b = some o → o.cls = .type "tuple" → h'.get? b = some o) : IsInts h' v p := by
  obtain ⟨t, o, its, n, e, ho, hc, r⟩ := q
  exact ⟨t, o, its, n, e, k _ _ ho hc, hc, r⟩
theorem IsPK.keeps {h h' : Heap} {v : Value} {p : List Int} {w : Int} (q : IsPK h v p w) (k : ∀ b o, h.get? b = some o → o.cls = .type "tuple" → h'.get? b = some o) : IsPK h' v p w := by
  obtain ⟨a, o, f, t, n, e, ho, hc, hd, hf⟩ := q
  exact ⟨a, o, f, t, n, e, k _ _ ho hc, hc, hd, hf.keeps k⟩
theorem ints_inj : ∀ {vs : List Value} {p q : List Int}, IntsAre vs p → IntsAre vs q → p = q
  | _, _, _, .nil, .nil => rfl
  | _, _, _, .cons n t r, .cons _ _ r2 => by rw [ints_inj r r2]
theorem all_eq : ∀ (p q : List Int), (((List.range (min p.length q.length)).all fun j => decide (p.getD j 0 = q.getD j 0)) && p.length == q.length) = decide (p = q)
  | [], [] => rfl
  | [], _ :: _ => by simp
  | _ :: _, [] => by simp
  | x :: p, y :: q => by
    have ih := all_eq p q
    have e1 : min (x :: p).length (y :: q).length = min p.length q.length + 1 := by simp only [List.length_cons]; omega
    have e2 : ((x :: p).length == (y :: q).length) = (p.length == q.length) := by simp
    rw [e1, e2, List.range_succ_eq_map, List.all_cons, List.all_map]
    have e3 : ((fun j => decide ((x :: p).getD j 0 = (y :: q).getD j 0)) ∘ Nat.succ) = fun j => decide (p.getD j 0 = q.getD j 0) := by
      funext j
      simp
    rw [e3, Bool.and_assoc, ih]
    by_cases hx : x = y
    · simp [hx]
    · simp [hx]
theorem lex_at : ∀ (p q : List Int) (i : Nat) (P Q : List Int), P.drop i = p → Q.drop i = q → Ob.lexAt (fun j => decide (P.getD j 0 = Q.getD j 0)) (fun j => decide (P.getD j 0 < Q.getD j 0)) (decide (P.length < Q.length)) i (min p.length q.length) = (if p.length = 0 ∨ q.length = 0 then decide (P.length < Q.length) else Ob.lexAt (fun j => decide (P.getD j 0 = Q.getD j 0)) (fun j => decide (P.getD j 0 < Q.getD j 0)) (decide (P.length < Q.length)) i (min p.length q.length)) := fun p q i P Q _ _ => by
  split
  · rename_i h
    have : min p.length q.length = 0 := by omega
    rw [this]
    rfl
  · rfl
theorem lex_lexAt : ∀ (p q : List Int) (i : Nat) (P Q : List Int), P.drop i = p → Q.drop i = q → i ≤ P.length → i ≤ Q.length → Ob.lexAt (fun j => decide (P.getD j 0 = Q.getD j 0)) (fun j => decide (P.getD j 0 < Q.getD j 0)) (decide (P.length < Q.length)) i (min p.length q.length) = lexlt p q
  | [], [], i, P, Q, hP, hQ, h1, h2 => by
    have a := congrArg List.length hP
    have b := congrArg List.length hQ
    rw [List.length_drop] at a b
    simp only [List.length_nil] at a b
    show decide (P.length < Q.length) = false
    exact decide_eq_false (by omega)
  | [], y :: q, i, P, Q, hP, hQ, h1, h2 => by
    have a := congrArg List.length hP
    have b := congrArg List.length hQ
    rw [List.length_drop] at a b
    simp only [List.length_nil, List.length_cons] at a b
    show Ob.lexAt _ _ _ i (min 0 (q.length + 1)) = true
    rw [Nat.zero_min]
    show decide (P.length < Q.length) = true
    exact decide_eq_true (by omega)
  | x :: p, [], i, P, Q, hP, hQ, h1, h2 => by
    have a := congrArg List.length hP
    have b := congrArg List.length hQ
    rw [List.length_drop] at a b
    simp only [List.length_nil, List.length_cons] at a b
    show Ob.lexAt _ _ _ i (min (p.length + 1) 0) = false
    rw [Nat.min_zero]
    show decide (P.length < Q.length) = false
    exact decide_eq_false (by omega)
  | x :: p, y :: q, i, P, Q, hP, hQ, h1, h2 => by
    have a := congrArg List.length hP
    have b := congrArg List.length hQ
    rw [List.length_drop] at a b
    simp only [List.length_cons] at a b
    have gx : P.getD i 0 = x := by
      have : (P.drop i)[0]? = some x := by rw [hP]; rfl
      rw [List.getElem?_drop, Nat.add_zero] at this
      rw [List.getD_eq_getElem?_getD, this]
      rfl
    have gy : Q.getD i 0 = y := by
      have : (Q.drop i)[0]? = some y := by rw [hQ]; rfl
      rw [List.getElem?_drop, Nat.add_zero] at this
      rw [List.getD_eq_getElem?_getD, this]
      rfl
    have dP : P.drop (i + 1) = p := by rw [← List.drop_drop, hP]; rfl
    have dQ : Q.drop (i + 1) = q := by rw [← List.drop_drop, hQ]; rfl
    rw [show min (x :: p).length (y :: q).length = min p.length q.length + 1 by simp only [List.length_cons]; omega, Ob.lexAt_succ, gx, gy, lex_lexAt p q (i + 1) P Q dP dQ (by omega) (by omega), lexlt_cons]
    by_cases e : x = y
    · rw [if_pos (decide_eq_true e), if_pos e]
    · rw [if_neg (by rw [decide_eq_false e]; decide), if_neg e]
section
variable {prog : Program} {w : World} {A : Around} {E : Value → Shared → Prop} {s : Shared}
theorem eq_ints {f g : Value} {p q : List Int} (hu : A.units < cLine) (h1 : IsInts s.heap f p) (h2 : IsInts s.heap g q) : SeqAt.EqAt A s f g (decide (p = q)) := by
  obtain ⟨t, o, its, n, rfl, ho, hc, hd, hi⟩ := h1
  obtain ⟨t', o', its', n', rfl, ho', hc', hd', hi'⟩ := h2
  by_cases e : t = t'
  · subst e
    rw [ho] at ho'
    cases ho'
    rw [hd] at hd'
    cases hd'
    rw [decide_eq_true (ints_inj hi hi')]
    exact SeqAt.EqAt.same _
  · have R := SeqAt.RcAt.tuples (A := A) (s := s) (e := fun j => decide (p.getD j 0 = q.getD j 0)) ⟨o, ho, hc, n, hd⟩ ⟨o', ho', hc', n', hd'⟩ hu (fun j h1 h2 => by
      obtain ⟨t, et⟩ := PyProof.Rows.IntsAre.int_at hi j its[j] (by simp [h1])
      obtain ⟨t', et'⟩ := PyProof.Rows.IntsAre.int_at hi' j its'[j] (by simp [h2])
      rw [et, et']
      have z : (p.getD j 0 == q.getD j 0) = decide (p.getD j 0 = q.getD j 0) := by
        by_cases q' : p.getD j 0 = q.getD j 0
        · rw [decide_eq_true q']; exact beq_iff_eq.mpr q'
        · rw [decide_eq_false q']; exact beq_eq_false_iff_ne.mpr q'
      rw [← z]
      exact SeqAt.EqAt.int_int _ _ _ _)
    have l1 : its.size = p.length := by have := hi.length; simpa using this
    have l2 : its'.size = q.length := by have := hi'.length; simpa using this
    rw [l1, l2, all_eq] at R
    exact SeqAt.EqAt.of_refs e R
theorem lt_ints {f g : Value} {p q : List Int} (hu : A.units < cLine) (h1 : IsInts s.heap f p) (h2 : IsInts s.heap g q) : Ob.RcOp .Lt A s f g (lexlt p q) := by
  obtain ⟨t, o, its, n, rfl, ho, hc, hd, hi⟩ := h1
  obtain ⟨t', o', its', n', rfl, ho', hc', hd', hi'⟩ := h2
  have at1 : ∀ j (h1 : j < its.size), ∃ t, its[j] = .int (p.getD j 0) t := fun j h1 => PyProof.Rows.IntsAre.int_at hi j its[j] (by simp [h1])
  have at2 : ∀ j (h1 : j < its'.size), ∃ t, its'[j] = .int (q.getD j 0) t := fun j h1 => PyProof.Rows.IntsAre.int_at hi' j its'[j] (by simp [h1])
  have R := Ob.RcOp.tuples_lt (A := A) (s := s) (e := fun j => decide (p.getD j 0 = q.getD j 0)) (r := fun j => decide (p.getD j 0 < q.getD j 0)) ⟨o, ho, hc, n, hd⟩ ⟨o', ho', hc', n', hd'⟩ hu (fun j h1 h2 => by
    obtain ⟨t, et⟩ := at1 j h1
    obtain ⟨t', et'⟩ := at2 j h2
    rw [et, et']
    have z : (p.getD j 0 == q.getD j 0) = decide (p.getD j 0 = q.getD j 0) := by
      by_cases q' : p.getD j 0 = q.getD j 0
      · rw [decide_eq_true q']; exact beq_iff_eq.mpr q'
      · rw [decide_eq_false q']; exact beq_eq_false_iff_ne.mpr q'
    rw [← z]
    exact SeqAt.EqAt.int_int _ _ _ _) (fun j h1 h2 _ => by
    obtain ⟨t, et⟩ := at1 j h1
    obtain ⟨t', et'⟩ := at2 j h2
    rw [et, et']
    exact Ob.RcOp.lt_int _ _ _ _)
  have l1 : its.size = p.length := by have := hi.length; simpa using this
  have l2 : its'.size = q.length := by have := hi'.length; simpa using this
  rw [l1, l2, lex_lexAt p q 0 p q rfl rfl (Nat.zero_le _) (Nat.zero_le _)] at R
  exact R
theorem pk_cmp {vs : List Value} {k : Value → List Int × Int} (hu : A.units < cLine) (hp : ∀ v ∈ vs, IsPK s.heap v (k v).1 (k v).2) : SrtO.Cmp prog w A s (PyProof.Rows.tuples' false) (fun p => p.1 ∈ vs) (SrtO.lt2 fun v u => ltK (k v) (k u)) := by
  intro p q hm hm'
  have h1 := hp _ hm
  have h2 := hp _ hm'
  show wpAny (model prog w) A (PyProof.Rows.keyLt' (PyProof.Rows.tuples' false) p.1 q.1) (fun r s' => s' = s ∧ r = ltK (k p.1) (k q.1)) (fun _ _ => False) s
  unfold ltK
  generalize (k p.1).1 = x at h1 ⊢
  generalize (k p.1).2 = y at h1 ⊢
  generalize (k q.1).1 = x' at h2 ⊢
  generalize (k q.1).2 = y' at h2 ⊢
  obtain ⟨a, o, f, u, n, e, ho, hc, hd, hf⟩ := h1
  obtain ⟨a', o', f', u', n', e', ho', hc', hd', hf'⟩ := h2
  rw [e, e']
  refine PySem.W.kat_lt ho hd ho' hd' ?_
  show PySem.W.KatLex prog w A false (decide (2 < 2)) _ [(f, f'), (.int y u, .int y' u')] 0 s
  refine PySem.W.kat_cons (eq_ints hu hf hf' prog w _ _ ?_)
  refine PySem.W.kat_go (fun e1 => ?_) (fun e1 => ?_)
  · have ex : x = x' := of_decide_eq_true e1
    refine PySem.W.kat_yes (PySem.W.kat_cons (SeqAt.EqAt.int_int y u y' u' prog w _ _ ?_))
    rw [if_pos ex]
    refine PySem.W.kat_go (fun e2 => ?_) (fun e2 => ?_)
    · have ey : y = y' := by simpa using e2
      exact PySem.W.kat_yes (PySem.W.kat_nil ⟨rfl, (decide_eq_false (by omega)).symm⟩)
    · exact PySem.W.kat_no (PySem.W.kat_one _ _ (PyProof.Rows.lt_int (show s = s ∧ decide (y < y') = decide (y < y') from ⟨rfl, rfl⟩)))
  · have ex : ¬ x = x' := of_decide_eq_false e1
    rw [if_neg ex]
    refine PySem.W.kat_no (PySem.W.kat_one _ _ ?_)
    exact lt_ints hu hf hf' prog w _ _ (show s = s ∧ lexlt x x' = lexlt x x' from ⟨rfl, rfl⟩)
theorem firsts_pk {h : Heap} : ∀ {vs : List Value}, (∀ v ∈ vs, ∃ p w, IsPK h v p w) → ∃ fs : List Value, PySem.W.KatTups h vs fs ∧ fs.length = vs.length ∧ ∀ f ∈ fs, ∃ p, IsInts h f p
  | [], _ => ⟨[], PySem.W.KatTups.nil, rfl, fun _ hm => by simp at hm⟩
  | v :: vs, hp => by
    obtain ⟨fs, h1, h2, h3⟩ := firsts_pk (vs := vs) fun v' hm => hp v' (List.mem_cons_of_mem _ hm)
    obtain ⟨p, w, a, o, f, t, n, e, ho, hc, hd, hf⟩ := hp v (List.mem_cons_self ..)
    subst e
    refine ⟨f :: fs, PySem.W.KatTups.cons ho hc hd rfl h1, by rw [List.length_cons, List.length_cons, h2], fun f' hm => ?_⟩
    rcases List.mem_cons.mp hm with e | hm
    · rw [e]
      exact ⟨p, hf⟩
    · exact h3 f' hm
theorem pk_sortableO {a : Addr} {vs : List Value} {k : Value → List Int × Int} (hu : A.units < cLine) (h0 : 0 < vs.length) (hp : ∀ v ∈ vs, IsPK s.heap v (k v).1 (k v).2) (ha : ∀ o, s.heap.get? a = some o → o.cls ≠ .type "tuple") : SrtO.SortableO prog w A s a vs fun v u => ltK (k v) (k u) := by
  intro h' keep
  have hp' : ∀ v ∈ vs, IsPK h' v (k v).1 (k v).2 := fun v hm => (hp v hm).keeps fun b o e c => keep b o (fun z => by subst z; exact ha o e c) e
  obtain ⟨fs, h1, h2, h3⟩ := firsts_pk fun v hm => ⟨_, _, hp' v hm⟩
  refine ⟨PyProof.Rows.tuples' false, fun Q E hq => ?_, pk_cmp hu hp'⟩
  refine PySem.W.kat_kind (T := .type "tuple") h1 (by omega) (fun f hm => ?_) (by rfl) ?_
  · obtain ⟨p, t, o, its, n, rfl, ho, hc, _⟩ := h3 f hm
    rw [← hc]
    exact (PySem.W.Looks.ld ho).andThen .now
  · have e : (Value.type "tuple" != Value.type "tuple") = false := by first | decide +kernel | rfl | decide
    rw [e]
    exact hq
end
def rSortPK (K : PySem.W.Frag) : List V → Hp → VK → Prop := fun vs H Q => ∃ (a : Addr) (xs : List V) (k : V → List Int × Int), vs = [V.ref a] ∧ SqL K H a xs ∧ (∀ x ∈ xs, ∃ t f, x = V.ref t ∧ H t = some (.tup [.ref f, .int (k x).2]) ∧ H f = some (.tup ((k x).1.map V.int))) ∧
  ∀ ys p, ys.Pairwise (fun x y => ltK (k y) (k x) = false) → ys.Perm xs → H p = none → Q (.ref p) (upd H p (.lst ys))
theorem cr_sortPK {X : Cx} (hu : X.A.units + 16 < cLine) : CallR X (.builtin "sorted") (rSortPK X.K) := by
  intro pins s σ H vs us Q I r h
  obtain ⟨a, xs, k, rfl, hs, hx, q⟩ := h
  obtain ⟨its, rv, hl, hz⟩ := I.list hs
  obtain ⟨u, rfl, ru⟩ := vals1 r
  obtain rfl : u = Value.ref a := ru
  obtain ⟨e1, e2⟩ := refs_back rv fun x m => by
    obtain ⟨t, _, e, _⟩ := hx x m
    exact ⟨t, e⟩
  have hv : ∀ v ∈ its, IsPK s.heap v (k (backV v)).1 (k (backV v)).2 := fun v hv => by
    obtain ⟨t, rfl⟩ := e2 v hv
    have hm : V.ref t ∈ xs := by rw [e1]; exact List.mem_map.mpr ⟨_, hv, rfl⟩
    obtain ⟨t', f, e, ht, hf⟩ := hx _ hm
    cases e
    obtain ⟨_, its2, r2, o, ho, hc, n, hd⟩ := I.hok _ _ ht
    obtain ⟨u1, u2, rfl, ri, rj⟩ := vals2 r2
    obtain rfl : u1 = Value.ref f := ri
    obtain ⟨t2, rfl⟩ := rj
    obtain ⟨_, its3, r3, o3, ho3, hc3, n3, hd3⟩ := I.hok _ _ hf
    exact ⟨t, o, _, t2, n, rfl, ho, hc, hd, f, o3, its3.toArray, n3, rfl, ho3, hc3, hd3, (show IntsAre its3.toArray.toList (k (V.ref t)).1 by simpa using Vals.ints r3)⟩
  refine SrtO.sorted_ord (swo_pk fun u => k (backV u)) hl.isList (by rw [← rv.length]; exact hz) (fun h2 h₁ a' ha kk => ?_) fun out hs hb => ?_
  · refine pk_sortableO (s := { s with heap := h₁ }) (by show X.A.units + 1 + 1 < cLine; omega) (by omega) (fun v hm => (hv v hm).keeps fun b o e _ => (kk b o e).2) fun o e => ?_
    have e' : some o = some _ := e.symm.trans ha
    cases e'
    intro c
    exact absurd (Value.type.inj c) (by decide)
  · have h3 : ∀ u ∈ out, ∃ a, u = Value.ref a := fun u hu => e2 u (hb.perm.mem_iff.mp hu)
    obtain ⟨ep, he'⟩ := PyProof.Rows.sortedAll_at s.heap its out.toArray
    have pm : (out.map backV).Perm xs := by
      rw [e1]
      exact hb.perm.map backV
    refine ⟨.ref _, upd H (s.heap.objs.size + 1) (.lst (out.map backV)), I.laid (t' := s.toks) (fun _ _ => PyProof.Rows.sortedAll_old) (Nat.le_succ _) ⟨?_, out, ep, vals_back h3, he'⟩, rfl, q _ _ (List.pairwise_map.mpr (hs.imp fun {x y} h => h)) pm (I.hok.fresh (Nat.le_succ _))⟩
    rw [pm.length_eq]
    exact hz
theorem un16 {k : Nat} {A : Around} (hr : Room k A) : A.units + 16 < cLine := by
  have := hr.un
  omega

/-! ### the rows of the law: a dict that is locked, of lists -/
structure LB where
  p : Addr
  o : OB
def rowL (bs : List LB) : List OB := bs.map (·.o)
def dicL (bs : List LB) : List (Key × V) := bs.map fun b => (Sum.inl b.o.num, V.ref b.p)
structure Dr (H : Hp) (d : Addr) (bs : List LB) : Prop where
  hd : ∃ od, H d = some (.frz od (.dK (dicL bs)))
  one : ∀ b ∈ bs, H b.p = some (.lst ((b.o.kind :: b.o.sl).map V.int))
structure Bs (bs : List LB) : Prop where
  al : ∀ b ∈ bs, b.o.al = true
  nd : (bs.map (·.o.num)).Nodup
  len : bs.length ≤ 60
  sl : ∀ b ∈ bs, b.o.sl.length ≤ 20
theorem Dr.same {H H' d bs} (h : Dr H d bs) (s : Same H H') : Dr H' d bs := by
  obtain ⟨⟨od, e⟩, o⟩ := h
  exact ⟨⟨od, s _ _ e⟩, fun b hb => s _ _ (o b hb)⟩
theorem nums_rowL {bs : List LB} (h : ∀ b ∈ bs, b.o.al = true) : nums (rowL bs) = bs.map (·.o.num) := by
  unfold nums rowL
  rw [List.filter_map, List.map_map, List.filter_eq_self.mpr]
  · rfl
  · intro b hb
    exact h b hb
theorem dicL_keys {bs : List LB} : (dicL bs).map (·.1) = (bs.map (·.o.num)).map Sum.inl := by
  unfold dicL
  rw [List.map_map, List.map_map]
  rfl
theorem dicL_len {bs : List LB} : (dicL bs).length = bs.length := by
  unfold dicL
  rw [List.length_map]
theorem dicL_none {bs : List LB} {n : Int} (h : n ∉ bs.map (·.o.num)) : valV (dicL bs) (Sum.inl n) = none := by
  unfold valV
  rw [Option.map_eq_none_iff, List.find?_eq_none]
  intro p hp
  rw [decide_eq_true_eq]
  intro e
  unfold dicL at hp
  obtain ⟨b, hb, rfl⟩ := List.mem_map.mp hp
  exact h (List.mem_map.mpr ⟨b, hb, Sum.inl.inj e⟩)
theorem dicL_get : ∀ {bs : List LB} {b : LB}, (bs.map (·.o.num)).Nodup → b ∈ bs → valV (dicL bs) (Sum.inl b.o.num) = some (.ref b.p)
  | [], b, _, h => by cases h
  | c :: bs, b, nd, h => by
    show valV ((Sum.inl c.o.num, V.ref c.p) :: dicL bs) (Sum.inl b.o.num) = _
    have n2 := List.nodup_cons.mp nd
    rcases List.mem_cons.mp h with rfl | h
    · rw [valV_pos rfl]
    · rw [valV_neg (fun z => n2.1 (by show c.o.num ∈ _; rw [Sum.inl.inj z]; exact List.mem_map.mpr ⟨b, h, rfl⟩))]
      exact dicL_get n2.2 h
theorem dicL_some {bs : List LB} {n : Int} (nd : (bs.map (·.o.num)).Nodup) : (valV (dicL bs) (Sum.inl n)).isSome = decide (n ∈ bs.map (·.o.num)) := by
  by_cases c : n ∈ bs.map (·.o.num)
  · obtain ⟨b, hb, e⟩ := List.mem_map.mp c
    rw [decide_eq_true c, ← e, dicL_get nd hb]
    rfl
  · rw [decide_eq_false c, dicL_none c]
    rfl
theorem dicL_put {bs : List LB} {p : Addr} {o : OB} (h : o.num ∉ bs.map (·.o.num)) : putK (dicL bs) (Sum.inl o.num) (.ref p) = dicL (bs ++ [⟨p, o⟩]) := by
  rw [putK_new _ (dicL_none h)]
  unfold dicL
  rw [List.map_append]
  rfl
theorem rowL_getO {bs : List LB} (h : Bs bs) {b : LB} (hb : b ∈ bs) : getO (rowL bs) b.o.num = some b.o := by
  have nd : (nums (rowL bs)).Nodup := by rw [nums_rowL h.al]; exact h.nd
  obtain ⟨i, hi⟩ := List.mem_iff_getElem?.mp hb
  exact getO_at nd (by unfold rowL; rw [List.getElem?_map, hi]; rfl) (h.al b hb)
theorem rowL_mem {bs : List LB} (h : Bs bs) {n : Int} (hn : n ∈ nums (rowL bs)) : ∃ b ∈ bs, b.o.num = n := by
  rw [nums_rowL h.al] at hn
  obtain ⟨b, hb, e⟩ := List.mem_map.mp hn
  exact ⟨b, hb, e⟩
theorem Bs.nums {bs : List LB} (h : Bs bs) {n : Int} : n ∈ My.nums (rowL bs) ↔ n ∈ bs.map (·.o.num) := by rw [nums_rowL h.al]
theorem pick_num {bs : List LB} (h : 0 < bs.length) (z : Int) : ∃ b ∈ bs, atI ((bs.map (·.o.num)).map V.int) (z % (bs.length : Int)) = some (.int b.o.num) := by
  have z0 := Int.emod_nonneg z (show (bs.length : Int) ≠ 0 by omega)
  have z1 := Int.emod_lt_of_pos z (show (0 : Int) < (bs.length : Int) by omega)
  obtain ⟨i, hi⟩ := Int.eq_ofNat_of_zero_le z0
  rw [hi]
  have hl : i < bs.length := by omega
  exact ⟨bs[i], List.getElem_mem hl, atI_nat (by rw [List.getElem?_map, List.getElem?_map, List.getElem?_eq_getElem hl]; rfl)⟩
theorem Plc.obj_num {n : Int} {o : OB} (pc : Plc) : (pc.obj n o).num = o.num ∧ (pc.obj n o).al = o.al ∧ (pc.obj n o).sl.length = o.sl.length := by
  cases pc with
  | root k => exact ⟨rfl, rfl, rfl⟩
  | kind m =>
    show (if n = m then { o with kind := 0 } else o).num = o.num ∧ (if n = m then { o with kind := 0 } else o).al = o.al ∧ (if n = m then { o with kind := 0 } else o).sl.length = o.sl.length
    split <;> exact ⟨rfl, rfl, rfl⟩
  | slot m j =>
    show (if n = m then { o with sl := o.sl.set j 0 } else o).num = o.num ∧ (if n = m then { o with sl := o.sl.set j 0 } else o).al = o.al ∧ (if n = m then { o with sl := o.sl.set j 0 } else o).sl.length = o.sl.length
    split
    · exact ⟨rfl, rfl, by simp⟩
    · exact ⟨rfl, rfl, rfl⟩
theorem setO_al {n : Int} {f : OB → OB} {o : OB} (h : o.al = true) : setO n f o = if o.num = n then f o else o := by
  unfold setO hasN
  rw [h]
  simp
theorem Plc.emptied_map {row : List OB} (pc : Plc) (h : ∀ o ∈ row, o.al = true) : pc.emptied row = row.map fun o => pc.obj o.num o := by
  cases pc with
  | root k =>
    show row = row.map fun o => o
    simp
  | kind m =>
    show row.map (setO m fun o => { o with kind := 0 }) = _
    exact List.map_congr_left fun o ho => setO_al (h o ho)
  | slot m j =>
    show row.map (setO m fun o => { o with sl := o.sl.set j 0 }) = _
    exact List.map_congr_left fun o ho => setO_al (h o ho)
/-- the rows with a place emptied, in the lists where they lie -/
def emL (pc : Plc) (cs : List LB) : List LB := cs.map fun c => ⟨c.p, pc.obj c.o.num c.o⟩
theorem emL_row {pc : Plc} {cs : List LB} (h : ∀ c ∈ cs, c.o.al = true) : rowL (emL pc cs) = pc.emptied (rowL cs) := by
  rw [Plc.emptied_map pc (fun o ho => by
    unfold rowL at ho
    obtain ⟨c, hc, e⟩ := List.mem_map.mp ho
    rw [← e]
    exact h c hc)]
  unfold rowL emL
  rw [List.map_map, List.map_map]
  rfl
theorem emL_dic {pc : Plc} {cs : List LB} : dicL (emL pc cs) = dicL cs := by
  unfold dicL emL
  rw [List.map_map]
  exact List.map_congr_left fun c _ => by
    show (Sum.inl (pc.obj c.o.num c.o).num, V.ref c.p) = (Sum.inl c.o.num, V.ref c.p)
    rw [pc.obj_num.1]
theorem emL_bs {pc : Plc} {cs : List LB} (B : Bs cs) : Bs (emL pc cs) := by
  refine ⟨fun b hb => ?_, ?_, by unfold emL; rw [List.length_map]; exact B.len, fun b hb => ?_⟩
  · obtain ⟨c, hc, e⟩ := List.mem_map.mp hb
    rw [← e]
    show (pc.obj c.o.num c.o).al = true
    rw [pc.obj_num.2.1]
    exact B.al c hc
  · have : (emL pc cs).map (·.o.num) = cs.map (·.o.num) := by
      unfold emL
      rw [List.map_map]
      exact List.map_congr_left fun c _ => pc.obj_num.1
    rw [this]
    exact B.nd
  · obtain ⟨c, hc, e⟩ := List.mem_map.mp hb
    rw [← e]
    show (pc.obj c.o.num c.o).sl.length ≤ 20
    rw [pc.obj_num.2.2]
    exact B.sl c hc
theorem Bs.of_objs {bs cs : List LB} (B : Bs bs) (e : cs.map (·.o) = bs.map (·.o)) : Bs cs := by
  have mem : ∀ c ∈ cs, ∃ b ∈ bs, b.o = c.o := fun c hc => by
    have : c.o ∈ bs.map (·.o) := by rw [← e]; exact List.mem_map.mpr ⟨c, hc, rfl⟩
    obtain ⟨b, hb, e2⟩ := List.mem_map.mp this
    exact ⟨b, hb, e2⟩
  have en : cs.map (·.o.num) = bs.map (·.o.num) := by
    have := congrArg (List.map fun o : OB => o.num) e
    rw [List.map_map, List.map_map] at this
    exact this
  refine ⟨fun c hc => ?_, by rw [en]; exact B.nd, ?_, fun c hc => ?_⟩
  · obtain ⟨b, hb, e2⟩ := mem c hc
    rw [← e2]
    exact B.al b hb
  · have := congrArg List.length e
    rw [List.length_map, List.length_map] at this
    rw [this]
    exact B.len
  · obtain ⟨b, hb, e2⟩ := mem c hc
    rw [← e2]
    exact B.sl b hb
theorem nodup_inj {α β : Type} {f : α → β} : ∀ {l : List α} {x y : α}, (l.map f).Nodup → x ∈ l → y ∈ l → f x = f y → x = y
  | [], _, _, _, h, _, _ => by cases h
  | a :: l, x, y, nd, hx, hy, e => by
    have n := List.nodup_cons.mp nd
    rcases List.mem_cons.mp hx with h1 | h1
    · rcases List.mem_cons.mp hy with h2 | h2
      · rw [h1, h2]
      · exact (n.1 (List.mem_map.mpr ⟨y, h2, by rw [← e, h1]⟩)).elim
    · rcases List.mem_cons.mp hy with h2 | h2
      · exact (n.1 (List.mem_map.mpr ⟨x, h1, by rw [e, h2]⟩)).elim
      · exact nodup_inj n.2 h1 h2 e
theorem em_set {H : Hp} {cs : List LB} {c : LB} {pc : Plc} (co : ∀ b ∈ cs, H b.p = some (.lst ((b.o.kind :: b.o.sl).map V.int))) (cn : (cs.map (·.p)).Nodup) (hc : c ∈ cs) (nn : (cs.map (·.o.num)).Nodup) (ot : ∀ b ∈ cs, b.o.num ≠ c.o.num → pc.obj b.o.num b.o = b.o) :
    ∀ b ∈ emL pc cs, upd H c.p (.lst (((pc.obj c.o.num c.o).kind :: (pc.obj c.o.num c.o).sl).map V.int)) b.p = some (.lst ((b.o.kind :: b.o.sl).map V.int)) := fun b hb => by
  obtain ⟨b', hb', e⟩ := List.mem_map.mp hb
  subst e
  show upd H c.p _ b'.p = some (.lst (((pc.obj b'.o.num b'.o).kind :: (pc.obj b'.o.num b'.o).sl).map V.int))
  by_cases q : b'.p = c.p
  · have := nodup_inj cn hb' hc q
    subst this
    rw [upd_same]
  · rw [upd_ne q]
    have nnum : b'.o.num ≠ c.o.num := fun z => q (by rw [nodup_inj nn hb' hc z])
    rw [ot b' hb' nnum]
    exact co b' hb'
theorem emL_none {H : Hp} {cs : List LB} {pc : Plc} (co : ∀ b ∈ cs, H b.p = some (.lst ((b.o.kind :: b.o.sl).map V.int))) (ot : ∀ b ∈ cs, pc.obj b.o.num b.o = b.o) : ∀ b ∈ emL pc cs, H b.p = some (.lst ((b.o.kind :: b.o.sl).map V.int)) := fun b hb => by
  obtain ⟨b', hb', e⟩ := List.mem_map.mp hb
  subst e
  show H b'.p = some (.lst (((pc.obj b'.o.num b'.o).kind :: (pc.obj b'.o.num b'.o).sl).map V.int))
  rw [ot b' hb']
  exact co b' hb'
theorem lc_frz {td : TE} {g : TG} {tt : TT} {te : TE} {vs : List Nat} {σ : L2.St} {H : Hp} {Q : VK} {d : Addr} {u : HO} (hd : H d = some u) (mu : Mut (some u)) (htd : ∀ R : V → Hp → Prop, R (.ref d) H → td σ H R)
    (h : ∀ od, tLc (iKeys fun _ H Q => Q (.ref d) H) g tt te vs σ (upd H d (.frz od u)) Q) : tLc (iKeys (tFrz td)) g tt te vs σ H Q :=
  htd _ ⟨d, rfl, .inl ⟨u, hd, mu, fun od => h od⟩⟩
theorem Plc.words_len {W : List Int} (pc : Plc) : (pc.words W).length = W.length := by
  cases pc <;> simp [Plc.words]
/-- the frame with all that is new -/
def grow (F H H' : Hp) : Hp := fun b => match H b with
  | none => H' b
  | some _ => F b
theorem grow_new {F H H' : Hp} {p : Addr} {o : HO} (h : H p = none) (e : H' p = some o) : grow F H H' p = some o := by
  unfold grow
  rw [h]
  exact e
theorem SQ.grow {A H H' a rm en row al mom na nc roots held F} (Z : SQ A H a rm en row al mom na nc roots held F) (s : Same H H') : SQ A H' a rm en row al mom na nc roots held (My.grow F H H') := Z.more s fun b o e => by
  unfold My.grow at e
  split at e
  · rename_i q
    exact .inr ⟨q, e⟩
  · exact .inl e
theorem SQ.grow_old {A H H' a rm en row al mom na nc roots held F} (Z : SQ A H a rm en row al mom na nc roots held F) : Same F (My.grow F H H') := fun b o e => by
  unfold My.grow
  rw [Z.get e]
  exact e
theorem rch_sub {row : List OB} {W : List Int} {pc : Plc} {n : Int} (h : Rch (pc.emptied row) (0 :: pc.words W) n) : Rch row (0 :: W) n := by
  induction h with
  | root hw h1 h2 =>
    rw [pc.nums] at h2
    refine .root ?_ h1 h2
    rcases List.mem_cons.mp hw with e | hw
    · rw [e]
      exact List.mem_cons_self ..
    · cases pc with
      | root k =>
        rcases List.mem_or_eq_of_mem_set hw with q | q
        · exact List.mem_cons_of_mem _ q
        · rw [q]
          exact List.mem_cons_self ..
      | kind m => exact List.mem_cons_of_mem _ hw
      | slot m j => exact List.mem_cons_of_mem _ hw
  | step r ho hw h1 h2 ih =>
    rename_i n o' w
    rw [pc.nums] at h2
    have hn := getO_nums ho
    rw [pc.nums] at hn
    obtain ⟨o, hoo⟩ := getO_of_mem hn
    have e := pc.get hoo
    rw [ho] at e
    have e2 := Option.some.inj e
    have key : w ∈ o.kind :: o.sl ∨ w = 0 := by
      rw [e2] at hw
      cases pc with
      | root k => exact .inl hw
      | kind m =>
        by_cases c : m = n
        · subst c
          rw [Plc.kind_eq] at hw
          rcases List.mem_cons.mp hw with q | q
          · exact .inr q
          · exact .inl (List.mem_cons_of_mem _ q)
        · rw [Plc.kind_ne c] at hw
          exact .inl hw
      | slot m j =>
        by_cases c : m = n
        · subst c
          rw [Plc.slot_eq] at hw
          rcases List.mem_cons.mp hw with q | q
          · exact .inl (by rw [q]; exact List.mem_cons_self ..)
          · rcases List.mem_or_eq_of_mem_set q with q | q
            · exact .inl (List.mem_cons_of_mem _ q)
            · exact .inr q
        · rw [Plc.slot_ne c] at hw
          exact .inl hw
    rcases key with q | q
    · exact .step ih hoo q h1 h2
    · exact .root (by rw [q]; exact List.mem_cons_self ..) h1 h2
def Plc.rts (roots : List Int) : Plc → List Int
  | root k => roots.set k 0
  | _ => roots
theorem Plc.rts_len {roots : List Int} (pc : Plc) : (pc.rts roots).length = roots.length := by
  cases pc <;> simp [Plc.rts]
theorem Plc.words_app {row : List OB} {roots held : List Int} (pc : Plc) (h : pc.fits row roots.length) : pc.words (roots ++ held) = pc.rts roots ++ held := by
  cases pc with
  | root k =>
    show (roots ++ held).set k 0 = roots.set k 0 ++ held
    rw [List.set_append_left _ _ h]
  | kind m => rfl
  | slot m j => rfl
theorem keep_rowL {bs : List LB} (B : Bs bs) {ks : List Int} : rowL (bs.filter fun c => decide (c.o.num ∈ ks)) = keep (rowL bs) ks := by
  unfold rowL keep
  rw [List.filter_map]
  congr 1
  refine List.filter_congr fun c hc => ?_
  show decide (c.o.num ∈ ks) = (c.o.al && decide (c.o.num ∈ ks))
  rw [B.al c hc, Bool.true_and]
theorem Bs.filter {bs : List LB} (B : Bs bs) (p : LB → Bool) : Bs (bs.filter p) :=
  ⟨fun b hb => B.al b (List.mem_filter.mp hb).1, B.nd.sublist (List.filter_sublist.map _), Nat.le_trans (List.length_filter_le ..) B.len, fun b hb => B.sl b (List.mem_filter.mp hb).1⟩
theorem em_nums {bs bsE : List LB} {pc : Plc} (B : Bs bs) (e : rowL bsE = pc.emptied (rowL bs)) : bsE.map (·.o.num) = bs.map (·.o.num) := by
  rw [Plc.emptied_map pc (fun o ho => by
    obtain ⟨c, hc, q⟩ := List.mem_map.mp ho
    rw [← q]
    exact B.al c hc)] at e
  have := congrArg (List.map fun o : OB => o.num) e
  unfold rowL at this
  rw [List.map_map, List.map_map, List.map_map] at this
  refine this.trans (List.map_congr_left fun c _ => ?_)
  exact pc.obj_num.1

/-- an even word tells a number -/
def Wd (z : Int) : Prop := z % 2 = 0 → 0 ≤ z
theorem wd0 : Wd 0 := fun _ => by decide
theorem same_upd {H H' : Hp} {p : Addr} {o : HO} (s : Same H H') (h : H p = none) : Same H (upd H' p o) := fun b x e => by
  rw [upd_ne (ne_of_none e h)]
  exact s _ _ e

def sp_lword : Sp := fun vs H Q _ => ∃ (x many : Int), vs = [.int x, .int many] ∧ 0 ≤ many ∧ ∀ z : Int, Wd z → Q (.int z) H
theorem sp_lword_len {vs H Q E} (h : sp_lword vs H Q E) : vs.length = (["x", "many"] : List Str).length := by
  obtain ⟨_, _, rfl, _⟩ := h
  rfl
section
variable {P : Program} {w : World} {K : PySem.W.Frag} {mg : Str → Option Value} {base : Heap} {A : Ad}
theorem ok__law_word (T : Txt K mg A) : FnOk P w K mg base CX0 1 A.f__law_word A.d__law_word ["x", "many"] (sp_lword) := by
  refine Fun.ok T.F__law_word sc__law_word (fun vs H Q E h => ?_) (fun cdv Ar outer s H vs Q E hr h => ?_)
  · exact sp_lword_len h
  · have hu := hu_of hr
    refine ⟨_, (pss_cons (ps_asg (pe_op op_fdiv (pv 0) pe_int) (pg_name (i := 2) sc__law_word.nd rfl (Or.inl rfl)))
    (pss_cons (ps_if (pt_cmpR op_eq (pe_op op_mod (pe_callTy call_intI (by rfl) T.z_int (by decide +kernel) (pa_cons (pv 0) pa_nil)) pe_int) pe_int (nomark _)) (pss_one (ps_ret (pe_op op_add (pe_op op_mul pe_int (pe_op op_sub (pe_op op_mod (pe_callTy call_intI (by rfl) T.z_int (by decide +kernel) (pa_cons (pe_op op_mul (pv 2) pe_int) pa_nil)) pe_int) pe_int)) pe_int))) pss_nil)
    (pss_cons (ps_if (pt_cmpR op_eq (pe_op op_mod (pe_callTy call_intI (by rfl) T.z_int (by decide +kernel) (pa_cons (pv 0) pa_nil)) pe_int) pe_int (nomark _)) (pss_one (ps_ret (pe_op op_add (pe_op op_mul pe_int (pe_op op_mod (pe_callTy call_intI (by rfl) T.z_int (by decide +kernel) (pa_cons (pe_op op_mul (pv 2) pe_int) pa_nil)) pe_int)) pe_int))) pss_nil)
    (pss_cons (ps_if (pt_cmpR op_eq (pe_op op_mod (pe_callTy call_intI (by rfl) T.z_int (by decide +kernel) (pa_cons (pv 0) pa_nil)) pe_int) pe_int (nomark _)) (pss_one (ps_ret pe_int)) pss_nil)
    (pss_one (ps_ret (pe_op op_mul pe_int (pe_op op_mod (pe_callTy call_intI (by rfl) T.z_int (by decide +kernel) (pa_cons (pv 2) pa_nil)) (pe_op op_add (pv 1) pe_int))))))))), ?_⟩
    obtain ⟨x, many, rfl, hm, k⟩ := h
    simp! only [rIsL]
    have a1 := Int.emod_nonneg x (show (8 : Int) ≠ 0 by decide)
    have b0 := Int.emod_nonneg (x / 8) (show many + 1 ≠ 0 by omega)
    exact ⟨⟨by decide, by decide⟩, by decide, ite2 (fun _ => ⟨.inr ⟨by decide, by decide⟩, by decide, .inl ⟨by decide, by decide⟩, k _ (fun z => by omega)⟩) (fun _ => ⟨by decide, ite2 (fun _ => ⟨.inr ⟨by decide, by decide⟩, by decide, .inl ⟨by decide, by decide⟩, k _ (fun z => by omega)⟩) (fun _ => ⟨by decide, ite2 (fun _ => k _ (fun _ => by omega)) (fun _ => ⟨by omega, .inl ⟨by decide, by decide⟩, k _ (fun _ => by omega)⟩)⟩)⟩)⟩
end

def sp_sizes : Sp := fun vs H Q _ => ∃ (x : Int), vs = [.int x] ∧ ∀ H' q (ns : List Nat), Same H H' → H q = none → H' q = some (.lst (ns.map fun (n : Nat) => V.int (n : Int))) → ns.length ≤ 40 → (∀ n ∈ ns, n ≤ 20) → Q (.ref q) H'
theorem sp_sizes_len {vs H Q E} (h : sp_sizes vs H Q E) : vs.length = (["x"] : List Str).length := by
  obtain ⟨_, rfl, _⟩ := h
  rfl
section
variable {P : Program} {w : World} {K : PySem.W.Frag} {mg : Str → Option Value} {base : Heap} {A : Ad}
theorem ok__law_sizes (T : Txt K mg A) : FnOk P w K mg base CX0 2 A.f__law_sizes A.d__law_sizes ["x"] (sp_sizes) := by
  refine Fun.ok T.F__law_sizes sc__law_sizes (fun vs H Q E h => ?_) (fun cdv Ar outer s H vs Q E hr h => ?_)
  · exact sp_sizes_len h
  · have hu := hu_of hr
    refine ⟨_, (pss_cons (ps_asg (pe_op op_mod (pe_callTy call_intI (by rfl) T.z_int (by decide +kernel) (pa_cons (pv 0) pa_nil)) pe_int) (pg_name (i := 1) sc__law_sizes.nd rfl (Or.inl rfl)))
    (Evl.pss_cut (ps_if (pt_cmpR op_eq (pe_op op_mod (pe_op op_fdiv (pv 0) pe_int) pe_int) pe_int (nomark _)) (pss_one (ps_asg (pe_op op_mod (pe_op op_fdiv (pv 0) pe_int) pe_int) (pg_name (i := 1) sc__law_sizes.nd rfl (Or.inl rfl)))) pss_nil)
    (pss_cons (ps_asg (pe_op op_fdiv (pv 0) pe_int) (pg_name (i := 2) sc__law_sizes.nd rfl (Or.inl rfl)))
    (pss_cons (ps_asg (pe_lst pa_nil) (pg_name (i := 3) sc__law_sizes.nd rfl (Or.inl rfl)))
    (pss_cons (ps_for PassesOwn.never rfl (pi_range1 (by rfl) T.z_range (pa_cons (pv 1) pa_nil)) (pg_name (i := 4) sc__law_sizes.nd rfl (Or.inl rfl))
      (pss_cons (ps_asg (pe_call (ok__law_number T) (hr.mono (by decide)) (by rfl) T.g__law_number T.k__law_number T.b__law_number .nil pass0 (pa_cons (pe_op op_add (pv 2) (pv 4)) (pa_cons (pe_op op_add (pv 4) pe_int) pa_nil))) (pg_name (i := 5) sc__law_sizes.nd rfl (Or.inl rfl)))
    (pss_cons (ps_asg (pe_op op_fdiv (pv 2) pe_int) (pg_name (i := 2) sc__law_sizes.nd rfl (Or.inl rfl)))
    (pss_cons (ps_expr (pe_bmM PySem.F.slot_list_append PySem.F.type_list_append mt_append (pv 3) (pa_cons (pe_op op_mod (pe_callTy call_intI (by rfl) T.z_int (by decide +kernel) (pa_cons (pv 5) pa_nil)) pe_int) pa_nil)))
    (Evl.pss_cut (ps_if (pt_cmpR op_eq (pe_op op_mod (pe_op op_fdiv (pv 5) pe_int) pe_int) pe_int (nomark _)) (pss_one (ps_asg (pe_op op_mod (pe_op op_fdiv (pv 5) pe_int) pe_int) (pg_sub (pv 3) (pv 4) set_lstM))) pss_nil)
    (pss_one (ps_if (PW.pt (pw_and (pt_cmpR op_eq (pv 4) pe_int (nomark _)) (pw_and1 (pt_cmpR op_gt (pe_op op_mod (pe_op op_fdiv (pv 5) pe_int) pe_int) pe_int (nomark _))))) (pss_one (ps_asg pe_int (pg_sub (pv 3) (pv 4) set_lstM))) pss_nil)))))))
    (pss_one (ps_ret (pv 3)))))))), ?_⟩
    obtain ⟨x, rfl, k⟩ := h
    simp! only [rIsL]
    have sz : (300000 : Nat) ≤ sizeLine := by decide
    have a0 := Int.emod_nonneg x (show (11 : Int) ≠ 0 by decide)
    have a1 := Int.emod_lt_of_pos x (show (0 : Int) < 11 by decide)
    have b0 := Int.emod_nonneg (x / 88) (show (40 : Int) ≠ 0 by decide)
    have b1 := Int.emod_lt_of_pos (x / 88) (show (0 : Int) < 40 by decide)
    refine ⟨by decide, fun σ2 H2 => ∃ c : Nat, σ2 = [some (V.int x), some (V.int (c : Int)), none, none, none, none] ∧ c ≤ 39 ∧ H2 = H, ?_, ?_⟩
    · simp! only [rIsL]
      refine ⟨⟨by decide, by decide⟩, by decide, ite2 (fun _ => ⟨⟨by decide, by decide⟩, by decide, ?_⟩) (fun _ => ?_)⟩
      · exact ⟨(x / 88 % 40).toNat, by omega, by omega⟩
      · exact ⟨(x % 11).toNat, by omega, by omega⟩
    · rintro σ2 H2 ⟨c, rfl, hc, rfl⟩
      simp! only [rIsL]
      refine ⟨⟨by decide, by decide⟩, by decide, fun q hq => ?_⟩
      refine for_rng (c : Int) (fun R h => ?_) (by omega) (by omega) (fun i σ' H' => ∃ (r : Int) (ns : List Nat) (n4 n5 : Option V), σ' = [some (V.int x), some (V.int (c : Int)), some (V.int r), some (V.ref q), n4, n5] ∧ ns.length = i ∧ (∀ n ∈ ns, n ≤ 20) ∧ Same H2 H' ∧ H' q = some (.lst (ns.map fun (n : Nat) => V.int (n : Int)))) ⟨_, [], _, _, rfl, rfl, by simp, same_new hq, upd_same⟩ ?_ ?_
      · simp! only [rIsL]
        exact h
      · rintro i σ' H' hi ⟨r, ns, n4, n5, rfl, hl, hs, sm, g⟩
        simp! only [g, List.length_map]
        refine ⟨_, _, rfl, fun y => ⟨⟨by decide, by decide⟩, ?_⟩⟩
        simp! only [g, List.length_map]
        refine ⟨by decide, by omega, ?_⟩
        have y0 := Int.emod_nonneg y (show (4 : Int) ≠ 0 by decide)
        have y1 := Int.emod_lt_of_pos y (show (0 : Int) < 4 by decide)
        have z0 := Int.emod_nonneg (y / 64) (show (20 : Int) ≠ 0 by decide)
        have z1 := Int.emod_lt_of_pos (y / 64) (show (0 : Int) < 20 by decide)
        have e1 : (ns.map fun (n : Nat) => V.int (n : Int)) ++ [V.int (y % 4)] = (ns ++ [(y % 4).toNat]).map fun (n : Nat) => V.int (n : Int) := by
          rw [List.map_append]
          show _ = _ ++ [V.int (((y % 4).toNat : Nat) : Int)]
          rw [Int.toNat_of_nonneg y0]
        rw [e1]
        have sm2 : Same H2 (upd H' q (.lst ((ns ++ [(y % 4).toNat]).map fun (n : Nat) => V.int (n : Int)))) := fun b u e => by rw [upd_ne (ne_of_none e hq)]; exact sm _ _ e
        have g2 : upd H' q (.lst ((ns ++ [(y % 4).toNat]).map fun (n : Nat) => V.int (n : Int))) q = some (.lst ((ns ++ [(y % 4).toNat]).map fun (n : Nat) => V.int (n : Int))) := upd_same
        generalize upd H' q (.lst ((ns ++ [(y % 4).toNat]).map fun (n : Nat) => V.int (n : Int))) = H3 at sm2 g2 ⊢
        have hs2 : ∀ n ∈ ns ++ [(y % 4).toNat], n ≤ 20 := fun n hn => by
          rcases List.mem_append.mp hn with hn | hn
          · exact hs n hn
          · rw [List.mem_singleton] at hn
            omega
        have setv : ∀ (ms : List Nat) (v : Nat), ms.length = i + 1 → setI (ms.map fun (n : Nat) => V.int (n : Int)) (i : Int) (.int (v : Int)) = some ((ms.set i v).map fun (n : Nat) => V.int (n : Int)) := fun ms v hm => by
          rw [setI_nat (by rw [List.length_map]; omega), List.map_set]
        have setm : ∀ (ms : List Nat) (v : Nat), v ≤ 20 → (∀ n ∈ ms, n ≤ 20) → ∀ n ∈ ms.set i v, n ≤ 20 := fun ms v hv hm n hn => by
          rcases List.mem_or_eq_of_mem_set hn with h | h
          · exact hm n h
          · omega
        refine ⟨fun σ4 H4 => ∃ (ms : List Nat), σ4 = [some (V.int x), some (V.int (c : Int)), some (V.int (r / 10007)), some (V.ref q), some (V.int (i : Int)), some (V.int y)] ∧ ms.length = i + 1 ∧ (∀ n ∈ ms, n ≤ 20) ∧ Same H2 H4 ∧ H4 q = some (.lst (ms.map fun (n : Nat) => V.int (n : Int))), ?_, ?_⟩
        · simp! only [g2]
          refine ⟨⟨by decide, by decide⟩, by decide, ite2 (fun _ => ?_) (fun _ => ?_)⟩
          · have := setv (ns ++ [(y % 4).toNat]) (y / 64 % 20).toNat (by rw [List.length_append, hl]; rfl)
            rw [Int.toNat_of_nonneg z0] at this
            exact ⟨⟨by decide, by decide⟩, by decide, _, this, (ns ++ [(y % 4).toNat]).set i (y / 64 % 20).toNat, by rw [List.length_set, List.length_append, hl]; rfl, setm _ _ (by omega) hs2, fun b u e => by rw [upd_ne (ne_of_none e hq)]; exact sm2 _ _ e, rfl⟩
          · exact ⟨_, by rw [List.length_append, hl]; rfl, hs2, sm2, rfl⟩
        · rintro σ4 H4 ⟨ms, rfl, ml, mm, sm4, g4⟩
          simp! only [g4]
          exact ite2 (fun _ => ⟨⟨by decide, by decide⟩, by decide, ite2 (fun _ => ⟨_, setv ms 0 ml, ms.set i 0, by rw [List.length_set]; exact ml, setm _ _ (by omega) mm, fun b u e => by rw [upd_ne (ne_of_none e hq)]; exact sm4 _ _ e, rfl⟩) (fun _ => ⟨_, ml, mm, sm4, rfl⟩)⟩) (fun _ => ⟨_, ml, mm, sm4, rfl⟩)
      · rintro σ' H' ⟨r, ns, n4, n5, rfl, hl, hs, sm, g⟩
        simp! only [rIsL]
        exact k H' q ns sm hq g (by omega) hs
end

def sp_wroots : Sp := fun vs H Q _ => ∃ (m x : Int), vs = [.int m, .int x] ∧ 0 ≤ m ∧ ∀ H' q (ws : List Int), Same H H' → H q = none → H' q = some (.lst (ws.map V.int)) → 16 ≤ ws.length → ws.length ≤ 20 → (∀ z ∈ ws, Wd z) → Q (.ref q) H'
theorem sp_wroots_len {vs H Q E} (h : sp_wroots vs H Q E) : vs.length = (["many", "x"] : List Str).length := by
  obtain ⟨_, _, rfl, _⟩ := h
  rfl
section
variable {P : Program} {w : World} {K : PySem.W.Frag} {mg : Str → Option Value} {base : Heap} {A : Ad}
theorem ok__law_roots (T : Txt K mg A) : FnOk P w K mg base CX0 2 A.f__law_roots A.d__law_roots ["many", "x"] (sp_wroots) := by
  refine Fun.ok T.F__law_roots sc__law_roots (fun vs H Q E h => ?_) (fun cdv Ar outer s H vs Q E hr h => ?_)
  · exact sp_wroots_len h
  · have hu := hu_of hr
    refine ⟨_, (pss_cons (ps_asg (pe_lst pa_nil) (pg_name (i := 2) sc__law_roots.nd rfl (Or.inl rfl)))
    (pss_cons (ps_asg (pv 1) (pg_name (i := 3) sc__law_roots.nd rfl (Or.inl rfl)))
    (pss_cons (ps_for PassesOwn.never rfl (pi_range1 (by rfl) T.z_range (pa_cons pe_int pa_nil)) (pg_name (i := 4) sc__law_roots.nd rfl (Or.inl rfl))
      (pss_cons (ps_asg (pe_call (ok__law_number T) (hr.mono (by decide)) (by rfl) T.g__law_number T.k__law_number T.b__law_number .nil pass0 (pa_cons (pe_op op_add (pv 3) (pv 4)) (pa_cons (pe_op op_add (pv 4) pe_int) pa_nil))) (pg_name (i := 5) sc__law_roots.nd rfl (Or.inl rfl)))
    (pss_cons (ps_asg (pe_op op_fdiv (pv 3) pe_int) (pg_name (i := 3) sc__law_roots.nd rfl (Or.inl rfl)))
    (pss_one (ps_if (pt_cmpR op_gt (pv 4) pe_int (nomark _)) (pss_one (ps_if (pt_cmpR op_eq (pe_op op_mod (pe_callTy call_intI (by rfl) T.z_int (by decide +kernel) (pa_cons (pv 5) pa_nil)) pe_int) pe_int (nomark _)) (pss_one (ps_expr (pe_bmM PySem.F.slot_list_append PySem.F.type_list_append mt_append (pv 2) (pa_cons (pe_call (ok__law_word T) (hr.mono (by decide)) (by rfl) T.g__law_word T.k__law_word T.b__law_word .nil pass0 (pa_cons (pe_op op_fdiv (pv 5) pe_int) (pa_cons (pv 0) pa_nil))) pa_nil)))) pss_nil)) (pss_one (ps_if (pt_cmpR op_eq (pe_op op_mod (pe_callTy call_intI (by rfl) T.z_int (by decide +kernel) (pa_cons (pv 5) pa_nil)) pe_int) pe_int (nomark _)) (pss_one (ps_expr (pe_bmM PySem.F.slot_list_append PySem.F.type_list_append mt_append (pv 2) (pa_cons (pe_call (ok__law_word T) (hr.mono (by decide)) (by rfl) T.g__law_word T.k__law_word T.b__law_word .nil pass0 (pa_cons (pe_op op_fdiv (pv 5) pe_int) (pa_cons (pv 0) pa_nil))) pa_nil)))) (pss_one (ps_expr (pe_bmM PySem.F.slot_list_append PySem.F.type_list_append mt_append (pv 2) (pa_cons pe_int pa_nil)))))))))))
    (pss_one (ps_ret (pv 2)))))), ?_⟩
    obtain ⟨m, x, rfl, hm, k⟩ := h
    simp! only [rIsL]
    have sz : (300000 : Nat) ≤ sizeLine := by decide
    refine ⟨by decide, fun q hq => ?_⟩
    refine for_rng 20 (fun R h => ?_) (by omega) (by omega) (fun i σ' H' => ∃ (r : Int) (ws : List Int) (n4 n5 : Option V), σ' = [some (V.int m), some (V.int x), some (V.ref q), some (V.int r), n4, n5] ∧ ws.length ≤ i ∧ (i ≤ 16 → ws.length = i) ∧ (16 ≤ i → 16 ≤ ws.length) ∧ (∀ z ∈ ws, Wd z) ∧ Same H H' ∧ H' q = some (.lst (ws.map V.int))) ⟨_, [], _, _, rfl, Nat.le_refl _, fun _ => rfl, fun h => by omega, fun z hz => absurd hz List.not_mem_nil, same_new hq, upd_same⟩ ?_ ?_
    · simp! only [rIsL]
      exact h
    · rintro i σ' H' hi ⟨r, ws, n4, n5, rfl, h1, h2, h3, hw, sm, g⟩
      simp! only [g, List.length_map]
      have app : ∀ z : Int, Wd z → (ws ++ [z]).length ≤ i + 1 ∧ (i + 1 ≤ 16 → (ws ++ [z]).length = i + 1) ∧ (16 ≤ i + 1 → 16 ≤ (ws ++ [z]).length) ∧ (∀ y ∈ ws ++ [z], Wd y) ∧ Same H (upd H' q (.lst (ws.map V.int ++ [.int z]))) ∧ upd H' q (.lst (ws.map V.int ++ [.int z])) q = some (.lst ((ws ++ [z]).map V.int)) := fun z hz => by
        rw [List.length_append, List.length_singleton]
        refine ⟨by omega, fun h => by have := h2 (by omega); omega, fun h => ?_, fun y hy => (List.mem_append.mp hy).elim (hw y) (fun e => by rw [List.mem_singleton.mp e]; exact hz), fun b u e => by rw [upd_ne (ne_of_none e hq)]; exact sm _ _ e, by rw [upd_same, List.map_append]; rfl⟩
        by_cases c : 16 ≤ i
        · have := h3 c
          omega
        · have := h2 (by omega)
          omega
      refine ⟨_, _, rfl, fun y => ⟨⟨by decide, by decide⟩, ?_⟩⟩
      simp! only [g, List.length_map]
      have ap2 : ∀ z : Int, ws.map V.int ++ [V.int z] = (ws ++ [z]).map V.int := fun z => by rw [List.map_append]; rfl
      exact ite2 (fun c => ⟨by decide, ite2 (fun _ => ⟨⟨by decide, by decide⟩, _, _, rfl, hm, fun z wz => ⟨_, g, by rw [List.length_map]; omega, ws ++ [z], (app z wz).1, (app z wz).2.1, (app z wz).2.2.1, (app z wz).2.2.2.1, (app z wz).2.2.2.2.1, ap2 z⟩⟩) (fun _ => ⟨ws, by omega, fun h => by omega, fun h => h3 (by omega), hw, sm, rfl⟩)⟩)
        (fun c => ⟨by decide, ite2 (fun _ => ⟨⟨by decide, by decide⟩, _, _, rfl, hm, fun z wz => ⟨_, g, by rw [List.length_map]; omega, ws ++ [z], (app z wz).1, (app z wz).2.1, (app z wz).2.2.1, (app z wz).2.2.2.1, (app z wz).2.2.2.2.1, ap2 z⟩⟩) (fun _ => ⟨by omega, ws ++ [0], (app 0 wd0).1, (app 0 wd0).2.1, (app 0 wd0).2.2.1, (app 0 wd0).2.2.2.1, (app 0 wd0).2.2.2.2.1, ap2 0⟩)⟩)
    · rintro σ' H' ⟨r, ws, n4, n5, rfl, h1, h2, h3, hw, sm, g⟩
      simp! only [rIsL]
      exact k H' q ws sm hq g (h3 (by decide)) h1 hw
end

/-- the rows that the law has built -/
structure Bl (cs : List LB) : Prop where
  al : ∀ c ∈ cs, c.o.al = true
  num : ∀ (i : Nat) (c : LB), cs[i]? = some c → c.o.num = (i : Int)
  sl : ∀ c ∈ cs, c.o.sl.length ≤ 20
  len : cs.length ≤ 60
def prefs (cs : List LB) : List V := cs.map fun c => .ref c.p
theorem prefs_len {cs : List LB} : (prefs cs).length = cs.length := by
  unfold prefs
  rw [List.length_map]
theorem prefs_app {cs : List LB} {c : LB} : prefs cs ++ [.ref c.p] = prefs (cs ++ [c]) := by
  unfold prefs
  rw [List.map_append]
  rfl
theorem prefs_at {cs : List LB} {i : Nat} {c : LB} (h : cs[i]? = some c) : atI (prefs cs) (i : Int) = some (.ref c.p) := atI_nat (by unfold prefs; rw [List.getElem?_map, h]; rfl)
/-- each word of the rows -/
def Wds (cs : List LB) : Prop := ∀ c ∈ cs, ∀ z ∈ c.o.kind :: c.o.sl, Wd z
def sp_rows : Sp := fun vs H Q _ => ∃ (q : Addr) (ns : List Nat) (x : Int), vs = [.ref q, .int x] ∧ H q = some (.lst (ns.map fun (n : Nat) => V.int (n : Int))) ∧ ns.length ≤ 60 ∧ (∀ n ∈ ns, n ≤ 20) ∧ ∀ H' r (cs : List LB), Same H H' → H r = none → H' r = some (.lst (prefs cs)) → (∀ c ∈ cs, H' c.p = some (.lst ((c.o.kind :: c.o.sl).map V.int))) → Bl cs → Wds cs → Q (.ref r) H'
theorem sp_rows_len {vs H Q E} (h : sp_rows vs H Q E) : vs.length = (["sizes", "x"] : List Str).length := by
  obtain ⟨_, _, _, rfl, _⟩ := h
  rfl
section
variable {P : Program} {w : World} {K : PySem.W.Frag} {mg : Str → Option Value} {base : Heap} {A : Ad}
theorem ok__law_rows (T : Txt K mg A) : FnOk P w K mg base CX0 2 A.f__law_rows A.d__law_rows ["sizes", "x"] (sp_rows) := by
  refine Fun.ok T.F__law_rows sc__law_rows (fun vs H Q E h => ?_) (fun cdv Ar outer s H vs Q E hr h => ?_)
  · exact sp_rows_len h
  · have hu := hu_of hr
    refine ⟨_, (pss_cons (ps_asg (pe_lst pa_nil) (pg_name (i := 2) sc__law_rows.nd rfl (Or.inl rfl)))
    (pss_cons (ps_asg (pv 1) (pg_name (i := 3) sc__law_rows.nd rfl (Or.inl rfl)))
    (pss_cons (ps_for PassesOwn.never rfl (pi_range1 (by rfl) T.z_range (pa_cons (pe_callB call_lenM (by rfl) T.z_len PySem.boot_len (pa_cons (pv 0) pa_nil)) pa_nil)) (pg_name (i := 4) sc__law_rows.nd rfl (Or.inl rfl))
      (pss_cons (ps_asg (pe_call (ok__law_number T) (hr.mono (by decide)) (by rfl) T.g__law_number T.k__law_number T.b__law_number .nil pass0 (pa_cons (pe_op op_add (pv 3) (pv 4)) (pa_cons (pv 4) pa_nil))) (pg_name (i := 5) sc__law_rows.nd rfl (Or.inr rfl)))
    (pss_cons (ps_asg (pe_op op_fdiv (pv 3) pe_int) (pg_name (i := 3) sc__law_rows.nd rfl (Or.inl rfl)))
    (pss_cons (ps_setLc (i := 6) (own := [("at", 7)]) (g := gName 7) rfl sc__law_rows.nd rfl rfl (sw_true rfl rfl rfl (by decide +kernel)) (pi_range1 (by rfl) T.z_range (pa_cons (pe_op op_add pe_int (pe_ix ix_lstM (pv 0) (pv 4) (fun _ _ => rfl))) pa_nil)) (blkOk_by (own := [("at", 7)]) (N := ["sizes", "x", "rows", "rest", "k", "y", "row", "at"]) (sc := defScope s__law_rows) (by decide +kernel)) (fun _ _ _ _ _ => pg_name (i := 7) sc__law_rows.nd rfl (Or.inl rfl)) (fun _ _ _ _ _ => pts_nil) (fun _ _ _ _ _ => (pe_call (ok__law_word T) (hr.mono (by decide)) (by rfl) T.g__law_word T.k__law_word T.b__law_word .nil pass0 (pa_cons (pe_op op_add (pe_op op_add (pe_op op_fdiv (pv 5) pe_int) (pe_op op_mul (pv 7) pe_int)) (pe_op op_mul (pv 7) (pv 7))) (pa_cons (pe_callB call_lenM (by rfl) T.z_len PySem.boot_len (pa_cons (pv 0) pa_nil)) pa_nil)))))
    (Evl.pss_cut (ps_if (pt_cmpR op_eq (pe_op op_mod (pe_callTy call_intI (by rfl) T.z_int (by decide +kernel) (pa_cons (pv 5) pa_nil)) pe_int) pe_int (nomark _)) (pss_one (ps_asg pe_int (pg_sub (pv 6) pe_int set_lstM))) pss_nil)
    (Evl.pss_cut (ps_if (PW.pt (pw_and (pt_cmpR op_eq (pe_op op_mod (pe_callTy call_intI (by rfl) T.z_int (by decide +kernel) (pa_cons (pv 5) pa_nil)) pe_int) pe_int (nomark _)) (pw_and (pt_cmpR op_gt (pe_ix ix_lstM (pv 0) (pv 4) (fun _ _ => rfl)) pe_int (nomark _)) (pw_and1 (pt_cmpR op_gt (pv 4) pe_int (nomark _)))))) (pss_one (ps_asg (pe_op op_mul pe_int (pe_op op_sub (pv 4) pe_int)) (pg_sub (pv 6) pe_int set_lstM))) pss_nil)
    (pss_one (ps_expr (pe_bmM PySem.F.slot_list_append PySem.F.type_list_append mt_append (pv 2) (pa_cons (pv 6) pa_nil))))))))))
    (pss_one (ps_ret (pv 2)))))), ?_⟩
    obtain ⟨q, ns, x, rfl, hq, nl, nn, k⟩ := h
    simp! only [rIsL]
    have sz : (300000 : Nat) ≤ sizeLine := by decide
    refine ⟨by decide, fun r hr => ?_⟩
    refine for_rng (ns.length : Int) (fun R h => ?_) (by omega) (by omega) (fun i σ' H' => ∃ (rest : Int) (cs : List LB) (n4 n5 n6 n7 : Option V), σ' = [some (V.ref q), some (V.int x), some (V.ref r), some (V.int rest), n4, n5, n6, n7] ∧ cs.length = i ∧ Same H H' ∧ H' r = some (.lst (prefs cs)) ∧ (∀ c ∈ cs, H' c.p = some (.lst ((c.o.kind :: c.o.sl).map V.int))) ∧ Bl cs ∧ (∀ c ∈ cs, c.p ≠ r) ∧ Wds cs) ⟨_, [], _, _, _, _, rfl, rfl, same_new hr, upd_same, fun c hc => absurd hc List.not_mem_nil, ⟨fun c hc => absurd hc List.not_mem_nil, fun i c hc => by simp at hc, fun c hc => absurd hc List.not_mem_nil, by simp⟩, fun c hc => absurd hc List.not_mem_nil, fun c hc => absurd hc List.not_mem_nil⟩ ?_ ?_
    · have g := same_new (o := HO.lst []) hr _ _ hq
      simp! only [g, List.length_map]
      exact h
    · rintro i σ' H' hi ⟨rest, cs, n4, n5, n6, n7, rfl, cl, sm, g, one, B, rc, wd⟩
      have gq := sm _ _ hq
      have hlt : i < ns.length := by omega
      have hat : atI (ns.map fun (n : Nat) => V.int (n : Int)) (i : Int) = some (.int (ns[i] : Int)) := atI_nat (by rw [List.getElem?_map, List.getElem?_eq_getElem hlt]; rfl)
      have m20 : ns[i] ≤ 20 := nn _ (List.getElem_mem hlt)
      simp! only [g, gq, List.length_map]
      refine ⟨_, _, rfl, fun y => ⟨⟨by decide, by decide⟩, ?_⟩⟩
      refine lc_rngI (1 + ns[i]) (fun _ => true) (fun _ v => ∃ z, v = .int z ∧ Wd z) (fun R h => ?_) (by omega) (fun j H4 R _ _ h => h) (fun j H4 R hj _ sm h => ?_) (fun D ys hD hy => ?_)
      · simp! only [gq, hat]
        exact h
      · have gq4 := sm _ _ gq
        simp! only [gq4, List.length_map]
        exact ⟨⟨by decide, by decide⟩, .inr ⟨by decide, by decide⟩, .inr ⟨by omega, by omega⟩, _, _, rfl, by omega, fun z wz => h _ ⟨z, rfl, wz⟩⟩
      · obtain ⟨zs, rfl⟩ := hy.ints
        have zl : zs.length = 1 + ns[i] := by
          have := hy.all.1
          rw [List.length_map] at this
          exact this
        have zw : ∀ z ∈ zs, Wd z := fun z hz => by
          obtain ⟨j, hj⟩ := List.mem_iff_getElem?.mp hz
          obtain ⟨z', e, hz'⟩ := hy.all.2 j (.int z) (by rw [List.getElem?_map, hj]; rfl)
          rw [V.int.inj e]
          exact hz'
        have setw : ∀ (ms : List Int) (k : Nat) (v : Int), Wd v → (∀ z ∈ ms, Wd z) → ∀ z ∈ ms.set k v, Wd z := fun ms k v hv hm z hz => by
          rcases List.mem_or_eq_of_mem_set hz with h | h
          · exact hm z h
          · rw [h]
            exact hv
        have Dr1 : r ≠ D := fun e => by rw [e, hD] at g; cases g
        have Dc : ∀ c ∈ cs, c.p ≠ D := fun c hc e => by
          have := one c hc
          rw [e, hD] at this
          cases this
        have HD : H D = none := none_of sm hD
        have stp : ∀ (H2 : Hp) (ws : List Int), (Same H H2 ∧ H2 r = some (.lst (prefs cs)) ∧ ∀ c ∈ cs, H2 c.p = some (.lst ((c.o.kind :: c.o.sl).map V.int))) → (Same H (upd H2 D (.lst (ws.map V.int))) ∧ upd H2 D (.lst (ws.map V.int)) r = some (.lst (prefs cs)) ∧ ∀ c ∈ cs, upd H2 D (.lst (ws.map V.int)) c.p = some (.lst ((c.o.kind :: c.o.sl).map V.int))) := fun H2 ws h => ⟨same_upd h.1 HD, by rw [upd_ne Dr1]; exact h.2.1, fun c hc => by rw [upd_ne (Dc c hc)]; exact h.2.2 c hc⟩
        have G8 := stp H' zs ⟨sm, g, one⟩
        have gD8 : upd H' D (HO.lst (zs.map V.int)) D = some (.lst (zs.map V.int)) := upd_same
        generalize upd H' D (HO.lst (zs.map V.int)) = H8 at G8 gD8 ⊢
        have setv : ∀ (ms : List Int) (k : Nat) (v : Int), k < ms.length → setI (ms.map V.int) (k : Int) (.int v) = some ((ms.set k v).map V.int) := fun ms k v hm => by
          rw [setI_nat (by rw [List.length_map]; exact hm), List.map_set]
        refine ⟨fun σ2 H2 => ∃ ws : List Int, σ2 = [some (V.ref q), some (V.int x), some (V.ref r), some (V.int (rest / 1000003)), some (V.int i), some (V.int y), some (V.ref D), n7] ∧ ws.length = 1 + ns[i] ∧ (∀ z ∈ ws, Wd z) ∧ H2 D = some (.lst (ws.map V.int)) ∧ (Same H H2 ∧ H2 r = some (.lst (prefs cs)) ∧ ∀ c ∈ cs, H2 c.p = some (.lst ((c.o.kind :: c.o.sl).map V.int))), ?_, ?_⟩
        · simp! only [gD8]
          refine ⟨by decide, ite2 (fun _ => ?_) (fun _ => ?_)⟩
          · exact ⟨_, setv zs 0 0 (by omega), zs.set 0 0, by rw [List.length_set]; exact zl, setw zs 0 0 wd0 zw, rfl, stp _ _ G8⟩
          · exact ⟨zs, zl, zw, rfl, G8⟩
        · rintro σ2 H2 ⟨ws, rfl, wl, ww, gD2, G2⟩
          have gq2 := G2.1 _ _ hq
          refine ⟨fun σ2 H2 => ∃ ws : List Int, σ2 = [some (V.ref q), some (V.int x), some (V.ref r), some (V.int (rest / 1000003)), some (V.int i), some (V.int y), some (V.ref D), n7] ∧ ws.length = 1 + ns[i] ∧ (∀ z ∈ ws, Wd z) ∧ H2 D = some (.lst (ws.map V.int)) ∧ (Same H H2 ∧ H2 r = some (.lst (prefs cs)) ∧ ∀ c ∈ cs, H2 c.p = some (.lst ((c.o.kind :: c.o.sl).map V.int))), ?_, ?_⟩
          · simp! only [gD2, gq2, hat]
            refine ⟨by decide, ite2 (fun _ => ite2 (fun c1 => ite2 (fun c2 => ?_) (fun _ => ⟨ws, wl, ww, rfl, G2⟩)) (fun _ => ⟨ws, wl, ww, rfl, G2⟩)) (fun _ => ⟨ws, wl, ww, rfl, G2⟩)⟩
            exact ⟨.inl ⟨by decide, by decide⟩, _, setv ws 1 _ (by omega), ws.set 1 _, by rw [List.length_set]; exact wl, setw ws 1 _ (fun _ => by omega) ww, rfl, stp _ _ G2⟩
          · rintro σ3 H3 ⟨us, rfl, ul, uw, gD3, G3⟩
            have gr3 := G3.2.1
            simp! only [gr3, prefs_len]
            obtain ⟨sm3, _, one3⟩ := G3
            cases us with
            | nil => simp at ul; omega
            | cons kd sl =>
              refine ⟨by omega, cs ++ [⟨D, ⟨(i : Int), kd, sl, true⟩⟩], by rw [List.length_append, cl]; rfl, same_upd sm3 hr, prefs_app (c := ⟨D, ⟨(i : Int), kd, sl, true⟩⟩), fun c hc => ?_, ⟨fun c hc => ?_, fun j c hc => ?_, fun c hc => ?_, by rw [List.length_append, List.length_singleton]; omega⟩, fun c hc => ?_, fun c hc => (List.mem_append.mp hc).elim (wd c) fun e => by rw [List.mem_singleton.mp e]; exact uw⟩
              · rcases List.mem_append.mp hc with hc | hc
                · rw [upd_ne (rc c hc)]
                  exact one3 c hc
                · rw [List.mem_singleton.mp hc]
                  show upd H3 r _ D = _
                  rw [upd_ne (Ne.symm Dr1)]
                  exact gD3
              · rcases List.mem_append.mp hc with hc | hc
                · exact B.al c hc
                · rw [List.mem_singleton.mp hc]
              · by_cases q : j < cs.length
                · rw [List.getElem?_append_left q] at hc
                  exact B.num j c hc
                · have jl := (List.getElem?_eq_some_iff.mp hc).1
                  rw [List.length_append, List.length_singleton] at jl
                  have : j = cs.length := by omega
                  rw [this, List.getElem?_append_right (Nat.le_refl _), Nat.sub_self] at hc
                  have e := Option.some.inj hc
                  rw [← e, this, cl]
              · rcases List.mem_append.mp hc with hc | hc
                · exact B.sl c hc
                · rw [List.mem_singleton.mp hc]
                  rw [List.length_cons] at ul
                  show sl.length ≤ 20
                  omega
              · rcases List.mem_append.mp hc with hc | hc
                · exact rc c hc
                · rw [List.mem_singleton.mp hc]
                  exact Ne.symm Dr1
    · rintro σ' H' ⟨rest, cs, n4, n5, n6, n7, rfl, cl, sm, g, one, B, rc, wd⟩
      simp! only [rIsL]
      exact k H' r cs sm hr g one B wd
end

/-- an object of the space while the law fills it: those before k whole, k itself up to j -/
def pr (k j : Nat) (o : OB) : OB := { o with sl := if o.num < (k : Int) then o.sl else if o.num = (k : Int) then o.sl.take j ++ List.replicate (o.sl.length - j) 0 else List.replicate o.sl.length 0 }
def prow (cs : List LB) (k j : Nat) : List OB := cs.map fun c => pr k j c.o
theorem pr_len {k j : Nat} {o : OB} (h : o.num = (k : Int) → j ≤ o.sl.length) : (pr k j o).sl.length = o.sl.length := by
  unfold pr
  show (if o.num < (k : Int) then o.sl else if o.num = (k : Int) then o.sl.take j ++ List.replicate (o.sl.length - j) 0 else List.replicate o.sl.length 0).length = _
  split
  · rfl
  · split
    · rename_i e
      have := h e
      rw [List.length_append, List.length_take, List.length_replicate]
      omega
    · rw [List.length_replicate]
theorem pr00 {o : OB} (h : 0 ≤ o.num) : pr 0 0 o = { o with sl := List.replicate o.sl.length 0 } := by
  unfold pr
  rw [if_neg (by omega)]
  split
  · simp
  · rfl
theorem pr_up {k m : Nat} {o : OB} (h : o.num = (k : Int) → o.sl.length = m) : pr k m o = pr (k + 1) 0 o := by
  unfold pr
  by_cases c1 : o.num < (k : Int)
  · rw [if_pos c1, if_pos (by omega)]
  · rw [if_neg c1]
    by_cases c2 : o.num = (k : Int)
    · rw [if_pos c2, if_pos (by omega), ← h c2, List.take_length, Nat.sub_self, List.replicate_zero, List.append_nil]
    · rw [if_neg c2, if_neg (by omega)]
      split
      · simp
      · rfl
theorem pr_all {k : Nat} {o : OB} (h : o.num < (k : Int)) : pr k 0 o = o := by
  unfold pr
  rw [if_pos h]
theorem pr_put {k j : Nat} {o : OB} {v : Int} (ha : o.al = true) (h : o.num = (k : Int) → o.sl[j]? = some v) : setO (k : Int) (fun o => { o with sl := o.sl.set j v }) (pr k j o) = pr k (j + 1) o := by
  rw [setO_al (show (pr k j o).al = true from ha)]
  show (if o.num = (k : Int) then _ else _) = _
  split
  · rename_i e
    have hj := h e
    have hl := (List.getElem?_eq_some_iff.mp hj).1
    unfold pr
    have n1 : ¬ o.num < (k : Int) := by omega
    rw [if_neg n1, if_pos e, if_neg n1, if_pos e]
    congr 1
    show (o.sl.take j ++ List.replicate (o.sl.length - j) 0).set j v = _
    have l1 : (o.sl.take j).length = j := by rw [List.length_take]; omega
    rw [List.set_append_right _ _ (by omega), l1, Nat.sub_self, show o.sl.length - j = (o.sl.length - (j + 1)) + 1 by omega, List.replicate_succ, List.set_cons_zero, List.take_add_one, hj]
    simp
  · rename_i e
    unfold pr
    split
    · rfl
    · rfl
theorem Bl.mem {cs : List LB} (B : Bl cs) {c : LB} (h : c ∈ cs) : ∃ i, i < cs.length ∧ cs[i]? = some c ∧ c.o.num = (i : Int) := by
  obtain ⟨i, hi⟩ := List.mem_iff_getElem?.mp h
  exact ⟨i, (List.getElem?_eq_some_iff.mp hi).1, hi, B.num i c hi⟩
theorem Bl.at_ {cs : List LB} (B : Bl cs) {c d : LB} {k : Nat} (h : c ∈ cs) (hk : cs[k]? = some d) (e : c.o.num = (k : Int)) : c = d := by
  obtain ⟨i, _, hi, e2⟩ := B.mem h
  have : i = k := by omega
  rw [this, hk] at hi
  exact (Option.some.inj hi).symm
theorem Bl.nums {cs : List LB} (B : Bl cs) : cs.map (·.o.num) = (List.range cs.length).map fun (i : Nat) => (i : Int) := by
  refine List.ext_getElem? fun i => ?_
  rw [List.getElem?_map, List.getElem?_map]
  by_cases c : i < cs.length
  · rw [List.getElem?_eq_getElem c, List.getElem?_eq_getElem (by rw [List.length_range]; exact c), List.getElem_range]
    show some (cs[i].o.num) = some _
    rw [B.num i cs[i] (List.getElem?_eq_getElem c)]
  · rw [List.getElem?_eq_none (by omega), List.getElem?_eq_none (by rw [List.length_range]; omega)]
    rfl
theorem Bl.bs {cs : List LB} (B : Bl cs) : Bs cs := ⟨B.al, by
  rw [B.nums]
  exact List.Pairwise.map _ (fun a b (h : a ≠ b) => show ((a : Int) ≠ (b : Int)) by omega) List.nodup_range, B.len, B.sl⟩
theorem prow_nums {cs : List LB} {k j : Nat} (B : Bl cs) : My.nums (prow cs k j) = cs.map (·.o.num) := by
  unfold prow My.nums
  rw [List.filter_map, List.map_map, List.filter_eq_self.mpr]
  · rfl
  · intro b hb
    exact B.al b hb
theorem prow_get {cs : List LB} {k j : Nat} {c : LB} (B : Bl cs) (h : cs[k]? = some c) : getO (prow cs k j) (k : Int) = some (pr k j c.o) := by
  have e := B.num k c h
  rw [← e]
  exact getO_at (by rw [prow_nums B]; exact B.bs.nd) (show (prow cs k j)[k]? = some (pr k j c.o) by unfold prow; rw [List.getElem?_map, h]; rfl) (B.al c (List.mem_of_getElem? h))
theorem prow_put {cs : List LB} {k j : Nat} {c : LB} {v : Int} (B : Bl cs) (h : cs[k]? = some c) (hj : c.o.sl[j]? = some v) : putO (prow cs k j) (k : Int) j v = prow cs k (j + 1) := by
  unfold putO prow
  rw [List.map_map]
  refine List.map_congr_left fun d hd => ?_
  exact pr_put (B.al d hd) fun e => by rw [B.at_ hd h e]; exact hj
theorem prow_up {cs : List LB} {k : Nat} {c : LB} (B : Bl cs) (h : cs[k]? = some c) : prow cs k c.o.sl.length = prow cs (k + 1) 0 := by
  unfold prow
  exact List.map_congr_left fun d hd => pr_up fun e => by rw [B.at_ hd h e]
theorem prow_all {cs : List LB} (B : Bl cs) : prow cs cs.length 0 = rowL cs := by
  unfold prow rowL
  refine List.map_congr_left fun d hd => pr_all ?_
  obtain ⟨i, hi, _, e⟩ := B.mem hd
  omega
theorem flat_le : ∀ {row : List OB}, (∀ o ∈ row, o.sl.length ≤ 20) → (flat row).length ≤ 23 * row.length
  | [], _ => by simp [flat]
  | o :: r, h => by
    have h1 := h o (List.mem_cons_self ..)
    have h2 := flat_le (row := r) fun x hx => h x (List.mem_cons_of_mem _ hx)
    rw [flat, List.length_append, List.length_cons]
    have : (flatO o).length = 3 + o.sl.length := by
      unfold flatO
      simp
      omega
    omega
theorem Bl.take {cs : List LB} (B : Bl cs) (i : Nat) : Bl (cs.take i) := by
  refine ⟨fun c hc => B.al c (List.mem_of_mem_take hc), fun j c hc => ?_, fun c hc => B.sl c (List.mem_of_mem_take hc), ?_⟩
  · rw [List.getElem?_take] at hc
    split at hc
    · exact B.num j c hc
    · cases hc
  · rw [List.length_take]
    have := B.len
    omega
theorem prow_new {cs : List LB} {i : Nat} {c : LB} (B : Bl cs) (h : cs[i]? = some c) : prow (cs.take i) 0 0 ++ [⟨(i : Int), c.o.kind, List.replicate c.o.sl.length 0, true⟩] = prow (cs.take (i + 1)) 0 0 := by
  unfold prow
  have e := B.num i c h
  rw [List.take_add_one, h, List.map_append]
  congr 1
  show _ = [pr 0 0 c.o]
  rw [pr00 (by omega)]
  have ha := B.al c (List.mem_of_getElem? h)
  rw [← e, ← ha]
theorem prow_free {cs : List LB} {i : Nat} (B : Bl cs) (h : i ≤ cs.length) : IsFree (prow (cs.take i) 0 0) (i : Int) := by
  have e := prow_nums (k := 0) (j := 0) (B.take i)
  rw [(B.take i).nums, List.length_take, Nat.min_eq_left h] at e
  refine ⟨by omega, fun z => ?_, fun m m0 m1 => ?_⟩
  · rw [e] at z
    obtain ⟨x, hx, ex⟩ := List.mem_map.mp z
    have := List.mem_range.mp hx
    omega
  · rw [e]
    exact List.mem_map.mpr ⟨m.toNat, List.mem_range.mpr (by omega), by omega⟩
theorem prow_flat {cs : List LB} {i : Nat} (B : Bl cs) : (flat (prow (cs.take i) 0 0)).length ≤ 1400 := by
  have h : ∀ o ∈ prow (cs.take i) 0 0, o.sl.length ≤ 20 := fun o ho => by
    obtain ⟨c, hc, e⟩ := List.mem_map.mp ho
    rw [← e, pr_len fun _ => Nat.zero_le _]
    exact B.sl c (List.mem_of_mem_take hc)
  have h1 := flat_le h
  have h2 : (prow (cs.take i) 0 0).length ≤ 60 := by
    unfold prow
    rw [List.length_map]
    exact (B.take i).len
  omega
def sp_lspace (A : Ad) : Sp := fun vs H Q _ => ∃ (r q : Addr) (cs : List LB) (ws : List Int), vs = [.ref r, .ref q] ∧ H r = some (.lst (prefs cs)) ∧ (∀ c ∈ cs, H c.p = some (.lst ((c.o.kind :: c.o.sl).map V.int))) ∧ Bl cs ∧ H q = some (.lst (ws.map V.int)) ∧ 16 ≤ ws.length ∧ ws.length ≤ 20 ∧
  ∀ H' a na nc roots held, ws = roots ++ held → roots.length = 16 → SQ A H' a 100000 100000 (rowL cs) false [] na nc roots held H → Q (.ref a) H'
theorem sp_lspace_len {A vs H Q E} (h : sp_lspace A vs H Q E) : vs.length = (["rows", "words"] : List Str).length := by
  obtain ⟨_, _, _, _, rfl, _⟩ := h
  rfl
section
variable {P : Program} {w : World} {K : PySem.W.Frag} {mg : Str → Option Value} {base : Heap} {A : Ad}
theorem ok__law_space (T : Txt K mg A) : FnOk P w K mg base CX0 7 A.f__law_space A.d__law_space ["rows", "words"] (sp_lspace A) := by
  refine Fun.ok T.F__law_space sc__law_space (fun vs H Q E h => ?_) (fun cdv Ar outer s H vs Q E hr h => ?_)
  · exact sp_lspace_len h
  · have hu := hu_of hr
    refine ⟨_, (pss_cons (ps_asg (pe_make T.mk_Space (ok_Space___init__ T) (hr.mono (by decide)) (by rfl) T.m_Space T.b_Space___init__ .nil pass0 (pa_cons pe_int (pa_cons pe_int pa_nil))) (pg_name (i := 2) sc__law_space.nd rfl (Or.inl rfl)))
    (pss_cons (ps_for PassesOwn.never rfl (pi_range1 (by rfl) T.z_range (pa_cons (pe_callB call_lenM (by rfl) T.z_len PySem.boot_len (pa_cons (pv 0) pa_nil)) pa_nil)) (pg_name (i := 3) sc__law_space.nd rfl (Or.inl rfl))
      (pss_one (ps_if (pt_not (pt_val (pe_call (ok__law_is T) (hr.mono (by decide)) (by rfl) T.g__law_is T.k__law_is T.b__law_is .nil pass0 (pa_cons (pe_meth (pv 2) T.cl_Space T.me_Space_new (ok_Space_new T) (hr.mono (by decide)) T.b_Space_new .nil pass0 (pa_cons (pe_ix ix_lstM (pe_ix ix_lstM (pv 0) (pv 3) (fun _ _ => rfl)) pe_int (fun _ _ => rfl)) (pa_cons (pe_op op_sub (pe_callB call_lenM (by rfl) T.z_len PySem.boot_len (pa_cons (pe_ix ix_lstM (pv 0) (pv 3) (fun _ _ => rfl)) pa_nil)) pe_int) pa_nil))) (pa_cons (pv 3) pa_nil))))) (pss_one (ps_ret pe_non)) pss_nil)))
    (pss_cons (ps_for PassesOwn.never rfl (pi_range1 (by rfl) T.z_range (pa_cons (pe_callB call_lenM (by rfl) T.z_len PySem.boot_len (pa_cons (pv 0) pa_nil)) pa_nil)) (pg_name (i := 3) sc__law_space.nd rfl (Or.inl rfl))
      (pss_one (ps_for PassesOwn.never rfl (pi_range1 (by rfl) T.z_range (pa_cons (pe_op op_sub (pe_callB call_lenM (by rfl) T.z_len PySem.boot_len (pa_cons (pe_ix ix_lstM (pv 0) (pv 3) (fun _ _ => rfl)) pa_nil)) pe_int) pa_nil)) (pg_name (i := 4) sc__law_space.nd rfl (Or.inl rfl))
      (pss_one (ps_expr (pe_meth (pe_fld (pv 2) rfl) T.cl_Store T.me_Store_put (ok_Store_put T) (hr.mono (by decide)) T.b_Store_put .nil pass0 (pa_cons (pv 3) (pa_cons (pv 4) (pa_cons (pe_ix ix_lstM (pe_ix ix_lstM (pv 0) (pv 3) (fun _ _ => rfl)) (pe_op op_add (pv 4) pe_int) (fun _ _ => rfl)) pa_nil)))))))))
    (pss_cons (ps_for PassesOwn.never rfl (pi_range1 (by rfl) T.z_range (pa_cons (pe_callB call_lenM (by rfl) T.z_len PySem.boot_len (pa_cons (pv 1) pa_nil)) pa_nil)) (pg_name (i := 3) sc__law_space.nd rfl (Or.inl rfl))
      (pss_one (ps_if (pt_cmpR op_lt (pv 3) pe_int (nomark _)) (pss_one (ps_expr (pe_meth (pv 2) T.cl_Space T.me_Space_set_root (ok_Space_set_root T) (hr.mono (by decide)) T.b_Space_set_root .nil pass0 (pa_cons (pv 3) (pa_cons (pe_ix ix_lstM (pv 1) (pv 3) (fun _ _ => rfl)) pa_nil))))) (pss_one (ps_expr (pe_meth (pv 2) T.cl_Space T.me_Space_hold (ok_Space_hold T) (hr.mono (by decide)) T.b_Space_hold .nil pass0 (pa_cons (pe_ix ix_lstM (pv 1) (pv 3) (fun _ _ => rfl)) pa_nil)))))))
    (pss_one (ps_ret (pv 2))))))), ?_⟩
    obtain ⟨r, q, cs, ws, rfl, hr, one, B, hq, w1, w2, k⟩ := h
    simp! only [rIsL]
    intro x dx hx hdx _
    refine ⟨x, dx, 100000, 100000, rfl, by decide, by decide, upd_same, fun H2 hS => ⟨rfl, ?_⟩⟩
    have Z0 := hS H fun p o e => ⟨by rw [upd_ne (ne_of_none e hx), upd_ne (ne_of_none e hdx)]; exact e, ne_of_none e hx⟩
    clear hS
    obtain ⟨r0, hr0, Z0⟩ : ∃ r0 : List Int, r0.length = 16 ∧ SQ A H2 x 100000 100000 [] false [] 0 0 r0 [] H := ⟨_, List.length_replicate, Z0⟩
    have cl := B.len
    refine for_rng (cs.length : Int) (fun R h => ?_) (by omega) (by omega) (fun i σ' H' => ∃ (n3 : Option V) (na : Int), σ' = [some (V.ref r), some (V.ref q), some (V.ref x), n3, none] ∧ SQ A H' x 100000 100000 (prow (cs.take i) 0 0) false [] na 0 r0 [] H) ⟨_, _, rfl, by rw [List.take_zero]; exact Z0⟩ ?_ ?_
    · have g := Z0.get hr
      simp! only [g, prefs_len]
      exact h
    · rintro i σ' H' hi ⟨n3, na, rfl, Z⟩
      have hlt : i < cs.length := by omega
      have hc : cs[i]? = some cs[i] := List.getElem?_eq_getElem hlt
      have cm := List.getElem_mem hlt
      have g := Z.get hr
      have at1 := prefs_at hc
      have gc := Z.get (one _ cm)
      have sl20 := B.sl _ cm
      obtain ⟨dx2, s, pr1, rt, hl, mo, F1, Z1⟩ := id Z
      have ho := Z1.ho
      dsimp! only [g, at1, gc, ho, List.length_map]
      refine ⟨x, 100000, 100000, _, na, 0, r0, [], H, _, cs[i].o.sl.length, (i : Int), by rw [show ((cs[i].o.sl.length + 1 : Nat) : Int) - 1 = (cs[i].o.sl.length : Int) by omega], Z, by have := prow_flat (i := i) B; omega, by have := prow_flat (i := i) B; omega, prow_free B (by omega), by omega, fun H3 Z3 => ⟨_, _, rfl, true, by rw [decide_eq_true rfl], ?_⟩⟩
      rw [if_neg (by decide)]
      rw [prow_new B hc] at Z3
      exact ⟨_, Z3⟩
    · rintro σ' H' ⟨n3, na, rfl, Z⟩
      rw [Int.toNat_natCast, List.take_length] at Z
      simp! only [rIsL]
      refine for_rng (cs.length : Int) (fun R h => ?_) (by omega) (by omega) (fun i σ' H' => ∃ (n3 n4 : Option V), σ' = [some (V.ref r), some (V.ref q), some (V.ref x), n3, n4] ∧ SQ A H' x 100000 100000 (prow cs i 0) false [] na 0 r0 [] H) ⟨_, _, rfl, Z⟩ ?_ ?_
      · have g := Z.get hr
        simp! only [g, prefs_len]
        exact h
      · rintro i σ' H' hi ⟨n3, n4, rfl, Z⟩
        have hlt : i < cs.length := by omega
        have hc : cs[i]? = some cs[i] := List.getElem?_eq_getElem hlt
        have cm := List.getElem_mem hlt
        have at1 := prefs_at hc
        have sl20 := B.sl _ cm
        refine for_rng (cs[i].o.sl.length : Int) (fun R h => ?_) (by omega) (by omega) (fun j σ' H' => ∃ (n4 : Option V), σ' = [some (V.ref r), some (V.ref q), some (V.ref x), some (V.int i), n4] ∧ SQ A H' x 100000 100000 (prow cs i j) false [] na 0 r0 [] H) ⟨_, rfl, Z⟩ ?_ ?_
        · have g := Z.get hr
          have gc := Z.get (one _ cm)
          simp! only [g, at1, gc, List.length_map]
          rw [show ((cs[i].o.sl.length + 1 : Nat) : Int) - 1 = (cs[i].o.sl.length : Int) by omega]
          exact h
        · rintro j σ' H' hj ⟨n4, rfl, Z⟩
          have g := Z.get hr
          have gc := Z.get (one _ cm)
          obtain ⟨dx2, s, pr1, rt, hl, mo, F1, Z1⟩ := id Z
          have ho := Z1.ho
          obtain ⟨dx3, w3, d3, f3, fs3, hs3⟩ := Z1.st.ho
          dsimp! only [g, at1, gc, ho, hs3, List.length_map, T.cl_Store, T.no_Store_room, T.no_Store_entries, T.no_Store_words, T.no_Store__places, T.no_Store__free, T.no_Store__fresh, stF_room, stF_entries, stF_words, stF_places, stF_free, stF_fresh, stF_mused, stF_mexists, stF_mnumbers, stF_mfree, stF_malloc, stF_msize, stF_mkind, stF_mskind, stF_mget, stF_mput, stF_mslots, stF_mdrop, stF_mclose, stF_msnap, stF_mrest, stF_mexch, stF_len, stF_pf, stF_pd, stF_pl]
          have hj2 : j < cs[i].o.sl.length := by omega
          have hv : cs[i].o.sl[j]? = some cs[i].o.sl[j] := List.getElem?_eq_getElem hj2
          have hv2 : atI (V.int cs[i].o.kind :: List.map V.int cs[i].o.sl) ((j : Int) + 1) = some (.int cs[i].o.sl[j]) := by
            rw [show (j : Int) + 1 = ((j + 1 : Nat) : Int) by omega]
            refine atI_nat ?_
            rw [List.getElem?_cons_succ, List.getElem?_map, hv]
            rfl
          refine ⟨_, hv2, s, 100000, 100000, _, F1, (i : Int), pr i j cs[i].o, j, cs[i].o.sl[j], rfl, Z1.st, prow_get B hc, ?_, fun H3 S3 => ?_⟩
          · rw [pr_len fun _ => by omega]
            exact hj2
          · rw [prow_put B hc hv] at S3
            exact ⟨dx2, s, pr1, rt, hl, mo, F1, S3, Z1.sp⟩
        · rintro σ' H' ⟨n4, rfl, Z⟩
          rw [Int.toNat_natCast, prow_up B hc] at Z
          exact ⟨_, _, rfl, Z⟩
      · rintro σ' H' ⟨n3, n4, rfl, Z⟩
        rw [Int.toNat_natCast, prow_all B] at Z
        simp! only [rIsL]
        have wl : ((ws.take 16).take ws.length ++ r0.drop ws.length) = ws.take 16 := by
          rw [List.drop_eq_nil_of_le (by omega), List.append_nil, List.take_of_length_le (by rw [List.length_take]; omega)]
        refine for_rng (ws.length : Int) (fun R h => ?_) (by omega) (by omega) (fun i σ' H' => ∃ (n3 n4 : Option V), σ' = [some (V.ref r), some (V.ref q), some (V.ref x), n3, n4] ∧ SQ A H' x 100000 100000 (rowL cs) false [] na 0 ((ws.take 16).take i ++ r0.drop i) ((ws.take i).drop 16) H) ⟨_, _, rfl, Z⟩ ?_ ?_
        · have g := Z.get hq
          simp! only [g, List.length_map]
          exact h
        · rintro i σ' H' hi ⟨n3, n4, rfl, Z⟩
          have g := Z.get hq
          have hlt : i < ws.length := by omega
          have at1 : atI (ws.map V.int) (i : Int) = some (.int ws[i]) := atI_nat (by rw [List.getElem?_map, List.getElem?_eq_getElem hlt]; rfl)
          obtain ⟨dx2, s, pr1, rt, hl, mo, F1, Z1⟩ := id Z
          have ho := Z1.ho
          dsimp! only [g, at1, ho]
          refine ite2 (fun c => ?_) (fun c => ?_)
          · have c2 : i < 16 := by omega
            have l1 : ((ws.take 16).take i).length = i := by
              rw [List.length_take, List.length_take]
              omega
            have e1 : ((ws.take 16).take i ++ r0.drop i).set i ws[i] = (ws.take 16).take (i + 1) ++ r0.drop (i + 1) := by
              have ui : (ws.take 16)[i]? = some ws[i] := by rw [List.getElem?_take, if_pos c2, List.getElem?_eq_getElem hlt]
              generalize ws.take 16 = u at l1 ui
              rw [List.set_append_right _ _ (by omega), l1, Nat.sub_self, List.drop_eq_getElem_cons (show i < r0.length by omega), List.set_cons_zero, List.take_add_one, ui, List.append_assoc]
              rfl
            have e2 : (ws.take (i + 1)).drop 16 = (ws.take i).drop 16 := by
              rw [List.drop_eq_nil_of_le (by rw [List.length_take]; omega), List.drop_eq_nil_of_le (by rw [List.length_take]; omega)]
            refine ⟨x, 100000, 100000, _, false, [], na, 0, _, _, H, i, ws[i], rfl, Z, ?_, fun H3 Z3 => ?_⟩
            · rw [List.length_append, l1, List.length_drop]
              omega
            · rw [e1] at Z3
              rw [e2]
              exact Z3
          · have c2 : 16 ≤ i := by omega
            have e1 : (ws.take 16).take (i + 1) ++ r0.drop (i + 1) = (ws.take 16).take i ++ r0.drop i := by
              have ul : (ws.take 16).length ≤ 16 := by rw [List.length_take]; omega
              generalize ws.take 16 = u at ul
              rw [List.take_of_length_le (show u.length ≤ i + 1 by omega), List.take_of_length_le (show u.length ≤ i by omega), List.drop_eq_nil_of_le (by omega), List.drop_eq_nil_of_le (by omega)]
            have e2 : (ws.take (i + 1)).drop 16 = (ws.take i).drop 16 ++ [ws[i]] := by
              rw [List.take_add_one, List.getElem?_eq_getElem hlt, List.drop_append_of_le_length (by rw [List.length_take]; omega)]
              rfl
            refine ⟨x, 100000, 100000, _, false, [], na, 0, _, _, H, ws[i], rfl, Z, ?_, fun H3 Z3 => ?_⟩
            · rw [List.length_drop, List.length_take]
              omega
            · rw [e1, e2]
              exact Z3
        · rintro σ' H' ⟨n3, n4, rfl, Z⟩
          rw [Int.toNat_natCast, wl, List.take_length] at Z
          simp! only [rIsL]
          exact k H' x na 0 (ws.take 16) (ws.drop 16) (List.take_append_drop 16 ws).symm (by rw [List.length_take]; omega) Z
end

/-! ### the search level by level -/
abbrev Ks := List (List Int × Int)
structure Lv (N : Int) (R : Int → List Int) (W : List Int) (fs : Fs) (L : Nat) (ks : Ks) : Prop where
  nd : (fs.map (·.1)).Nodup
  ld : ∀ x ∈ fs, Leads N R W x.2 x.1
  lv : ∀ x ∈ fs, x.2.length ≤ L
  all : ∀ (p : List Int) (n : Int), p.length ≤ L → Leads N R W p n → ∃ x ∈ fs, x.1 = n ∧ sle x.2 p
  so : ∀ e ∈ ks, e.1.length = L + 1 ∧ ∀ n, tgt N e.2 = some n → Leads N R W e.1 n
  co : ∀ (p : List Int) (n : Int), p.length = L + 1 → Leads N R W p n → (∃ e ∈ ks, tgt N e.2 = some n ∧ sle e.1 p) ∨ ∃ x ∈ fs, x.1 = n ∧ sle x.2 p
section
variable {N : Int} {R : Int → List Int} {W : List Int} {fs fs0 : Fs} {L : Nat} {ks : Ks} {i : Nat}
theorem Lv.start (so : ∀ e ∈ ks, ∃ j : Int, atK W j = some e.2 ∧ e.1 = [j]) (co : ∀ j w : Int, atK W j = some w → ([j], w) ∈ ks) : Lv N R W [] 0 ks := by
  refine ⟨.nil, fun x h => absurd h List.not_mem_nil, fun x h => absurd h List.not_mem_nil, fun p n h1 h2 => absurd (List.eq_nil_of_length_eq_zero (Nat.le_zero.mp h1)) h2.ne, fun e he => ?_, fun p n h1 h2 => ?_⟩
  · obtain ⟨j, h1, h2⟩ := so e he
    rw [h2]
    exact ⟨rfl, fun n hn => Leads.one h1 hn⟩
  · obtain ⟨q, k, rfl⟩ := snoc_of h2.ne
    obtain ⟨w, h3, ⟨rfl, h4⟩ | ⟨u, hu, h4⟩⟩ := h2.back
    · exact .inl ⟨_, co k w h4, h3, .inl rfl⟩
    · rw [List.length_append, List.length_singleton] at h1
      have : q = [] := List.eq_nil_of_length_eq_zero (by omega)
      exact absurd this hu.ne
/-- while the level's words are gone through -/
structure Pr (N : Int) (R : Int → List Int) (W : List Int) (fs0 fs : Fs) (ks : Ks) (i : Nat) : Prop where
  sub : ∀ x ∈ fs0, x ∈ fs
  nd : (fs.map (·.1)).Nodup
  ld : ∀ x ∈ fs, Leads N R W x.2 x.1
  src : ∀ x ∈ fs, x ∈ fs0 ∨ ∃ (j : Nat) (e : List Int × Int), j < i ∧ ks[j]? = some e ∧ x.2 = e.1
  dn : ∀ (j : Nat) (e : List Int × Int), j < i → ks[j]? = some e → ∀ n, tgt N e.2 = some n → ∃ x ∈ fs, x.1 = n ∧ sle x.2 e.1
theorem Lv.pr (h : Lv N R W fs L ks) (ks' : Ks) : Pr N R W fs fs ks' 0 :=
  ⟨fun _ hx => hx, h.nd, h.ld, fun x hx => .inl hx, fun j e hj => absurd hj (Nat.not_lt_zero j)⟩
theorem le_of_sorted {x y : List Int × Int} (h : ltK y x = false) (hl : x.1.length = y.1.length) : sle x.1 y.1 := by
  unfold ltK at h
  by_cases e : y.1 = x.1
  · exact .inl e.symm
  · rw [if_neg e] at h
    cases h2 : lexlt x.1 y.1 with
    | true => exact .inr (.inr ⟨hl, h2⟩)
    | false => exact absurd (lex_total h h2) e
theorem Pr.skip (P : Pr N R W fs0 fs ks i) {e : List Int × Int} (he : ks[i]? = some e) (hl : ∀ x ∈ fs0, x.2.length ≤ L) (hk : ∀ e ∈ ks, e.1.length = L + 1) (hs : ks.Pairwise fun x y => ltK y x = false) (h : ∀ n, tgt N e.2 = some n → n ∈ fs.map (·.1)) : Pr N R W fs0 fs ks (i + 1) := by
  refine ⟨P.sub, P.nd, P.ld, fun x hx => (P.src x hx).imp id fun ⟨j, e, h1, h2⟩ => ⟨j, e, Nat.lt_succ_of_lt h1, h2⟩, fun j e2 hj hj2 n hn => ?_⟩
  by_cases c : j < i
  · exact P.dn j e2 c hj2 n hn
  · have : j = i := by omega
    subst this
    rw [he] at hj2
    cases hj2
    obtain ⟨x, hx, ex⟩ := List.mem_map.mp (h n hn)
    have hem := hk e (List.mem_of_getElem? he)
    refine ⟨x, hx, ex, ?_⟩
    rcases P.src x hx with h0 | ⟨j2, e3, h1, h2, h3⟩
    · have := hl x h0
      exact .inr (.inl (by omega))
    · rw [h3]
      have hi := (List.getElem?_eq_some_iff.mp he).1
      have hj2 := (List.getElem?_eq_some_iff.mp h2).1
      have := List.pairwise_iff_getElem.mp hs j2 j hj2 hi h1
      rw [List.getElem?_eq_getElem hj2] at h2
      rw [List.getElem?_eq_getElem hi] at he
      rw [Option.some.inj h2, Option.some.inj he] at this
      exact le_of_sorted this (by rw [hem, hk e3 (by rw [← Option.some.inj h2]; exact List.getElem_mem hj2)])
theorem Pr.add (P : Pr N R W fs0 fs ks i) {e : List Int × Int} {n : Int} (he : ks[i]? = some e) (ht : tgt N e.2 = some n) (hl : Leads N R W e.1 n) (h : n ∉ fs.map (·.1)) : Pr N R W fs0 (fs ++ [(n, e.1)]) ks (i + 1) := by
  refine ⟨fun x hx => List.mem_append_left _ (P.sub x hx), ?_, fun x hx => ?_, fun x hx => ?_, fun j e2 hj hj2 m hm => ?_⟩
  · rw [List.map_append, List.nodup_append]
    refine ⟨P.nd, by simp, fun a ha b hb => ?_⟩
    have : b = n := by simpa using hb
    rw [this]
    exact fun e => h (e ▸ ha)
  · rcases List.mem_append.mp hx with hx | hx
    · exact P.ld x hx
    · rw [List.mem_singleton.mp hx]
      exact hl
  · rcases List.mem_append.mp hx with hx | hx
    · exact (P.src x hx).imp id fun ⟨j, e, h1, h2⟩ => ⟨j, e, Nat.lt_succ_of_lt h1, h2⟩
    · rw [List.mem_singleton.mp hx]
      exact .inr ⟨i, e, Nat.lt_succ_self i, he, rfl⟩
  · by_cases c : j < i
    · obtain ⟨x, hx, r⟩ := P.dn j e2 c hj2 m hm
      exact ⟨x, List.mem_append_left _ hx, r⟩
    · have : j = i := by omega
      subst this
      rw [he] at hj2
      cases hj2
      rw [ht] at hm
      cases hm
      exact ⟨_, List.mem_append_right _ (List.mem_singleton.mpr rfl), rfl, .inl rfl⟩
/-- the level is gone through -/
structure Ld (N : Int) (R : Int → List Int) (W : List Int) (fs : Fs) (L : Nat) : Prop where
  nd : (fs.map (·.1)).Nodup
  ld : ∀ x ∈ fs, Leads N R W x.2 x.1
  lv : ∀ x ∈ fs, x.2.length ≤ L
  all : ∀ (p : List Int) (n : Int), p.length ≤ L → Leads N R W p n → ∃ x ∈ fs, x.1 = n ∧ sle x.2 p
theorem Pr.done (h : Lv N R W fs0 L ks) {ks' : Ks} (hm : ∀ e, e ∈ ks' ↔ e ∈ ks) (P : Pr N R W fs0 fs ks' ks'.length) : Ld N R W fs (L + 1) := by
  refine ⟨P.nd, P.ld, fun x hx => ?_, fun p n hp hn => ?_⟩
  · rcases P.src x hx with h0 | ⟨j, e, h1, h2, h3⟩
    · have := h.lv x h0
      omega
    · rw [h3, (h.so e ((hm e).mp (List.mem_of_getElem? h2))).1]
      exact Nat.le_refl _
  · by_cases c : p.length ≤ L
    · obtain ⟨x, hx, r⟩ := h.all p n c hn
      exact ⟨x, P.sub x hx, r⟩
    · rcases h.co p n (by omega) hn with ⟨e, he, ht, hle⟩ | ⟨x, hx, r⟩
      · obtain ⟨j, hj⟩ := List.mem_iff_getElem?.mp ((hm e).mpr he)
        obtain ⟨x, hx, ex, le2⟩ := P.dn j e (List.getElem?_eq_some_iff.mp hj).1 hj n ht
        exact ⟨x, hx, ex, le2.trans hle⟩
      · exact ⟨x, P.sub x hx, r⟩
/-- the words of the next level -/
theorem Ld.next (h : Ld N R W fs L) (hL : 1 ≤ L) (so : ∀ e ∈ ks, ∃ x ∈ fs, x.2.length = L ∧ ∃ j w, atK (R x.1) j = some w ∧ e.1 = x.2 ++ [j] ∧ e.2 = w)
    (co : ∀ x ∈ fs, x.2.length = L → ∀ j w, atK (R x.1) j = some w → (x.2 ++ [j], w) ∈ ks) : Lv N R W fs L ks := by
  refine ⟨h.nd, h.ld, h.lv, h.all, fun e he => ?_, fun p n hp hn => ?_⟩
  · obtain ⟨x, hx, hl, j, w, h1, h2, h3⟩ := so e he
    rw [h2, List.length_append, List.length_singleton, hl]
    refine ⟨rfl, fun n ht => ?_⟩
    rw [h3] at ht
    exact (h.ld x hx).step h1 ht
  · obtain ⟨q, k, rfl⟩ := snoc_of hn.ne
    rw [List.length_append, List.length_singleton] at hp
    obtain ⟨w, h3, ⟨rfl, h4⟩ | ⟨u, hu, h4⟩⟩ := hn.back
    · simp only [List.length_nil] at hp
      omega
    · obtain ⟨x, hx, ex, hle⟩ := h.all q u (by omega) hu
      rw [← ex] at h4
      by_cases c : x.2.length = L
      · exact .inl ⟨_, co x hx c k w h4, h3, hle.app k⟩
      · have := h.lv x hx
        obtain ⟨y, hy, ey, le2⟩ := h.all (x.2 ++ [k]) n (by rw [List.length_append, List.length_singleton]; omega) ((h.ld x hx).step h4 h3)
        exact .inr ⟨y, hy, ey, le2.trans (hle.app k)⟩
theorem Ld.best (h : Ld N R W fs L) : Best N R W fs L := ⟨h.nd, h.ld, h.all⟩
end

/-! ### paths over the rows of the law and of the space -/
def Rf (cs : List LB) (n : Int) : List Int := match cs[n.toNat]? with
  | some c => c.o.kind :: c.o.sl
  | none => []
theorem Bl.inN {cs : List LB} (B : Bl cs) {n : Int} : n ∈ My.nums (rowL cs) ↔ 0 ≤ n ∧ n < (cs.length : Int) := by
  rw [B.bs.nums, B.nums]
  constructor
  · intro h
    obtain ⟨i, hi, e⟩ := List.mem_map.mp h
    have := List.mem_range.mp hi
    omega
  · rintro ⟨h1, h2⟩
    exact List.mem_map.mpr ⟨n.toNat, List.mem_range.mpr (by omega), by omega⟩
theorem Bl.row {cs : List LB} (B : Bl cs) {n : Int} (h : 0 ≤ n ∧ n < (cs.length : Int)) : ∃ c, c ∈ cs ∧ cs[n.toNat]? = some c ∧ getO (rowL cs) n = some c.o ∧ Rf cs n = c.o.kind :: c.o.sl := by
  have hlt : n.toNat < cs.length := by omega
  have hc : cs[n.toNat]? = some cs[n.toNat] := List.getElem?_eq_getElem hlt
  have hn := B.num _ _ hc
  have hm := List.getElem_mem hlt
  refine ⟨cs[n.toNat], hm, hc, ?_, ?_⟩
  · have := rowL_getO B.bs hm
    rw [hn, show ((n.toNat : Nat) : Int) = n by omega] at this
    exact this
  · unfold Rf
    rw [hc]
theorem Bl.tgt_yes {cs : List LB} (B : Bl cs) {w n : Int} (h : tgt (cs.length : Int) w = some n) : n = w / 2 ∧ w % 2 = 0 ∧ w / 2 ∈ My.nums (rowL cs) := by
  obtain ⟨h1, h2, h3, h4⟩ := tgt_some h
  exact ⟨h1, h2, B.inN.mpr (by rw [← h1]; exact ⟨h3, h4⟩)⟩
theorem Bl.tgt_no {cs : List LB} (B : Bl cs) {w : Int} (h : tgt (cs.length : Int) w = none) : ¬ (w % 2 = 0 ∧ w / 2 ∈ My.nums (rowL cs)) := by
  rintro ⟨h1, h2⟩
  have := B.inN.mp h2
  unfold tgt at h
  rw [if_pos ⟨h1, this.1, this.2⟩] at h
  cases h
/-- an object and its path, the tuple at a -/
structure PB where
  n : Int
  p : List Int
  a : Addr
def pbD (bs : List PB) : List (Key × V) := bs.map fun b => (Sum.inl b.n, V.ref b.a)
def pbF (bs : List PB) : Fs := bs.map fun b => (b.n, b.p)
def PbAt (H : Hp) (bs : List PB) : Prop := ∀ b ∈ bs, H b.a = some (.tup (b.p.map V.int))
theorem pbD_len {bs : List PB} : (pbD bs).length = bs.length := by
  unfold pbD
  rw [List.length_map]
theorem pbF_len {bs : List PB} : (pbF bs).length = bs.length := by
  unfold pbF
  rw [List.length_map]
theorem pbF_app {bs : List PB} {b : PB} : pbF (bs ++ [b]) = pbF bs ++ [(b.n, b.p)] := by
  unfold pbF
  rw [List.map_append]
  rfl
theorem pbF_fst {bs : List PB} : (pbF bs).map (·.1) = bs.map (·.n) := by
  unfold pbF
  rw [List.map_map]
  rfl
theorem pbD_keys {bs : List PB} : (pbD bs).map (·.1) = (bs.map (·.n)).map Sum.inl := by
  unfold pbD
  rw [List.map_map, List.map_map]
  rfl
theorem pbD_none {bs : List PB} {n : Int} (h : n ∉ bs.map (·.n)) : valV (pbD bs) (Sum.inl n) = none := by
  unfold valV
  rw [Option.map_eq_none_iff, List.find?_eq_none]
  intro p hp
  rw [decide_eq_true_eq]
  intro e
  unfold pbD at hp
  obtain ⟨b, hb, rfl⟩ := List.mem_map.mp hp
  exact h (List.mem_map.mpr ⟨b, hb, Sum.inl.inj e⟩)
theorem pbD_get : ∀ {bs : List PB} {b : PB}, (bs.map (·.n)).Nodup → b ∈ bs → valV (pbD bs) (Sum.inl b.n) = some (.ref b.a)
  | [], b, _, h => by cases h
  | c :: bs, b, nd, h => by
    show valV ((Sum.inl c.n, V.ref c.a) :: pbD bs) (Sum.inl b.n) = _
    have n2 := List.nodup_cons.mp nd
    rcases List.mem_cons.mp h with rfl | h
    · rw [valV_pos rfl]
    · rw [valV_neg (fun z => n2.1 (by show c.n ∈ _; rw [Sum.inl.inj z]; exact List.mem_map.mpr ⟨b, h, rfl⟩))]
      exact pbD_get n2.2 h
theorem pbD_some {bs : List PB} {n : Int} (nd : (bs.map (·.n)).Nodup) : (valV (pbD bs) (Sum.inl n)).isSome = decide (n ∈ bs.map (·.n)) := by
  by_cases c : n ∈ bs.map (·.n)
  · obtain ⟨b, hb, e⟩ := List.mem_map.mp c
    rw [decide_eq_true c, ← e, pbD_get nd hb]
    rfl
  · rw [decide_eq_false c, pbD_none c]
    rfl
theorem pbD_put {bs : List PB} {b : PB} (h : b.n ∉ bs.map (·.n)) : putK (pbD bs) (Sum.inl b.n) (.ref b.a) = pbD (bs ++ [b]) := by
  rw [putK_new _ (pbD_none h)]
  unfold pbD
  rw [List.map_append]
  rfl
theorem PbAt.same {H H' : Hp} {bs : List PB} (h : PbAt H bs) (s : Same H H') : PbAt H' bs := fun b hb => s _ _ (h b hb)
/-- a path and the word at its end, the pair at t -/
structure WE where
  p : List Int
  w : Int
  t : Addr
  f : Addr
def WeAt (H : Hp) (es : List WE) : Prop := ∀ e ∈ es, H e.t = some (.tup [.ref e.f, .int e.w]) ∧ H e.f = some (.tup (e.p.map V.int))
theorem WeAt.same {H H' : Hp} {es : List WE} (h : WeAt H es) (s : Same H H') : WeAt H' es := fun e he => ⟨s _ _ (h e he).1, s _ _ (h e he).2⟩
theorem keepO {H : Hp} {p d : Addr} {o u v : HO} (hp : H p = some o) (hd : H d = some u) (h : o ≠ u) : upd H d v p = some o := by
  rw [upd_ne (by rintro rfl; rw [hp] at hd; exact h (Option.some.inj hd))]
  exact hp
theorem rowS_app {R : Int → List Int} {W : List Int} {fs : Fs} {x : Int × List Int} {s : Nat} (h : s ≤ fs.length) : rowS R W (fs ++ [x]) s = rowS R W fs s := by
  cases s with
  | zero => rfl
  | succ i =>
    show ((fs ++ [x])[i]?.map fun x => R x.1).getD [] = (fs[i]?.map fun x => R x.1).getD []
    rw [List.getElem?_append_left (by omega)]
/-- what the search holds on the heap: the dict at d, the order at q -/
structure Sr (H0 H : Hp) (d q : Addr) (bs : List PB) : Prop where
  sm : Same H0 H
  dd : H d = some (.dK (pbD bs))
  qq : H q = some (.lst ((bs.map (·.n)).map V.int))
  at_ : PbAt H bs
theorem Sr.same {H0 H H' : Hp} {d q : Addr} {bs : List PB} (h : Sr H0 H d q bs) (s : Same H H') : Sr H0 H' d q bs := ⟨same_trans h.sm s, s _ _ h.dd, s _ _ h.qq, h.at_.same s⟩
theorem Sr.add {H0 H : Hp} {d q : Addr} {bs : List PB} (h : Sr H0 H d q bs) (d0 : H0 d = none) (q0 : H0 q = none) {b : PB} (hb : H b.a = some (.tup (b.p.map V.int))) :
    Sr H0 (upd (upd H d (.dK (pbD (bs ++ [b])))) q (.lst ((bs.map (·.n)).map V.int ++ [.int b.n]))) d q (bs ++ [b]) := by
  have dq : d ≠ q := by
    rintro rfl
    have := h.dd
    rw [h.qq] at this
    cases this
  have hq1 : upd H d (.dK (pbD (bs ++ [b]))) q = some (.lst ((bs.map (·.n)).map V.int)) := by
    rw [upd_ne (Ne.symm dq)]
    exact h.qq
  have tk : ∀ (p : Addr) (xs : List V), H p = some (.tup xs) → upd (upd H d (.dK (pbD (bs ++ [b])))) q (.lst ((bs.map (·.n)).map V.int ++ [.int b.n])) p = some (.tup xs) := fun p xs hp =>
    keepO (keepO hp h.dd (fun z => by cases z)) hq1 (fun z => by cases z)
  refine ⟨same_upd (same_upd h.sm d0) q0, ?_, ?_, fun c hc => ?_⟩
  · rw [upd_ne dq]
    exact upd_same
  · rw [upd_same, List.map_append, List.map_append]
    rfl
  · rcases List.mem_append.mp hc with hc | hc
    · exact tk _ _ (h.at_ c hc)
    · rw [List.mem_singleton.mp hc]
      exact tk _ _ hb
theorem atK_mem {row : List Int} {k w : Int} (h : atK row k = some w) : w ∈ row := by
  unfold atK at h
  by_cases c : 0 ≤ k
  · rw [if_pos c] at h
    exact List.mem_of_getElem? h
  · rw [if_neg c] at h
    cases h
theorem Rf_wd {cs : List LB} (h : Wds cs) {n z : Int} (hz : z ∈ Rf cs n) : Wd z := by
  unfold Rf at hz
  cases hc : cs[n.toNat]? with
  | none =>
    rw [hc] at hz
    cases hz
  | some c =>
    rw [hc] at hz
    exact h c (List.mem_of_getElem? hc) z hz
theorem wkS_wd {cs : List LB} (h : Wds cs) {N : Int} : ∀ (p : List Int) {w v : Int}, Wd w → wkS N (Rf cs) w p = some v → Wd v
  | [], w, v, hw, e => by
    have e' : some w = some v := e
    rw [← Option.some.inj e']
    exact hw
  | k :: p, w, v, hw, e => by
    have e' : ((tgt N w).bind fun n => (atK (Rf cs n) k).bind fun w' => wkS N (Rf cs) w' p) = some v := e
    cases h1 : tgt N w with
    | none =>
      rw [h1] at e'
      cases e'
    | some n =>
      rw [h1] at e'
      have e2 : ((atK (Rf cs n) k).bind fun w' => wkS N (Rf cs) w' p) = some v := e'
      cases h2 : atK (Rf cs n) k with
      | none =>
        rw [h2] at e2
        cases e2
      | some w' =>
        rw [h2] at e2
        exact wkS_wd h p (Rf_wd h (atK_mem h2)) e2
theorem wkP_wd {cs : List LB} (h : Wds cs) {N : Int} {W p : List Int} {v : Int} (hW : ∀ z ∈ W, Wd z) (e : wkP N (Rf cs) (0 :: W) p = some v) : Wd v := by
  cases p with
  | nil => cases e
  | cons k p =>
    have e' : ((atK (0 :: W) k).bind fun w => wkS N (Rf cs) w p) = some v := e
    cases h2 : atK (0 :: W) k with
    | none =>
      rw [h2] at e'
      cases e'
    | some w' =>
      rw [h2] at e'
      exact wkS_wd h p ((List.mem_cons.mp (atK_mem h2)).elim (fun z => by rw [z]; exact wd0) (hW _)) e'
theorem range_sorted (n : Nat) : ((List.range n).map fun (i : Nat) => (i : Int)).Pairwise (· ≤ ·) :=
  List.Pairwise.map _ (fun a b (h : a < b) => show (a : Int) ≤ (b : Int) by omega) List.pairwise_lt_range
def kE (es : List WE) (x : V) : List Int × Int := match es.find? fun e => decide (V.ref e.t = x) with
  | some e => (e.p, e.w)
  | none => ([], 0)
theorem ints_V : ∀ {p q : List Int}, p.map V.int = q.map V.int → p = q
  | [], [], _ => rfl
  | [], _ :: _, h => by cases h
  | _ :: _, [], h => by cases h
  | a :: p, b :: q, h => by
    have h1 := (List.cons.inj h).1
    rw [V.int.inj h1, ints_V (List.cons.inj h).2]
theorem kE_of {H : Hp} {es : List WE} (h : WeAt H es) {e : WE} (he : e ∈ es) : kE es (.ref e.t) = (e.p, e.w) := by
  unfold kE
  cases hf : es.find? fun x => decide (V.ref x.t = V.ref e.t) with
  | none =>
    have := List.find?_eq_none.mp hf e he
    simp at this
  | some x =>
    have hx := List.mem_of_find?_eq_some hf
    have ht := List.find?_some hf
    have ht2 : V.ref x.t = V.ref e.t := of_decide_eq_true ht
    have ht3 : x.t = e.t := V.ref.inj ht2
    have h1 := h x hx
    have h2 := h e he
    rw [ht3, h2.1] at h1
    obtain ⟨h3, h4⟩ := h1
    have h5 := HO.tup.inj (Option.some.inj h3)
    have h6 : e.f = x.f := by
      exact V.ref.inj (List.cons.inj h5).1
    have h7 : e.w = x.w := V.int.inj (List.cons.inj (List.cons.inj h5).2).1
    rw [← h6, h2.2] at h4
    have h8 := ints_V (HO.tup.inj (Option.some.inj h4))
    show (x.p, x.w) = (e.p, e.w)
    rw [← h7, ← h8]
def ksOf (es : List WE) : Ks := es.map fun e => (e.p, e.w)
theorem lc_rngA {ta : TA} {te : TE} {c : Nat} {σ : L2.St} {H : Hp} {Q : VK} (n : Nat) (hta : ∀ R : List V → Hp → Prop, R [.int (n : Int)] H → ta σ H R) (hn : n ≤ 100000) (Pv : Addr → Nat → Hp → Prop)
    (h0 : ∀ D, H D = none → Pv D 0 (upd H D (.lst []))) (hs : ∀ D i H', H D = none → i < n → Pv D i H' → te ((σ.set c none).set c (some (.int (i : Int)))) H' fun y H4 => ∃ acc, H4 D = some (.lst acc) ∧ acc.length < sizeLine ∧ Pv D (i + 1) (upd H4 D (.lst (acc ++ [y]))))
    (hd : ∀ D H', H D = none → Pv D n H' → Q (.ref D) H') : tLc (iRng1 ta) (gName c) tYes te [c] σ H Q := by
  refine hta _ ⟨n, rfl, by omega, by omega, fun D hD => ?_⟩
  rw [Int.toNat_natCast]
  refine lc_range (Pv D) (h0 D hD) ?_ (fun H' p => hd D H' hD p)
  rintro i H' hi p
  rw [Int.zero_add]
  refine ⟨?_, ?_⟩
  · show List.set (List.set (List.set σ c none) c _) c none = List.set σ c none
    rw [List.set_set, List.set_set]
  · show (fun (b : Bool) (H3 : Hp) => if b = true then te ((σ.set c none).set c (some (.int (i : Int)))) H3 _ else Pv D (i + 1) H3) true H'
    dsimp only
    rw [if_pos rfl]
    exact hs D i H' hD hi p
theorem leads_rch {cs : List LB} (B : Bl cs) {W : List Int} : ∀ (m : Nat) (p : List Int) (n : Int), p.length ≤ m → Leads (cs.length : Int) (Rf cs) W p n → Rch (rowL cs) W n := by
  intro m
  induction m with
  | zero =>
    intro p n hm hp
    exact absurd (List.eq_nil_of_length_eq_zero (Nat.le_zero.mp hm)) hp.ne
  | succ m ih =>
    intro p n hm hp
    obtain ⟨q, k, rfl⟩ := snoc_of hp.ne
    obtain ⟨w, h3, ⟨rfl, h2⟩ | ⟨u, hu, h2⟩⟩ := hp.back
    · obtain ⟨e, h4, h5⟩ := B.tgt_yes h3
      rw [e]
      exact .root (atK_mem h2) h4 h5
    · rw [List.length_append, List.length_singleton] at hm
      obtain ⟨e, h4, h5⟩ := B.tgt_yes h3
      obtain ⟨c, hcm, hci, hgo, hrf⟩ := B.row hu.lt
      rw [hrf] at h2
      rw [e]
      exact .step (ih q u (by omega) hu) hgo (atK_mem h2) h4 h5
theorem mem_atK {row : List Int} {w : Int} (h : w ∈ row) : ∃ k : Int, atK row k = some w := by
  obtain ⟨i, hi⟩ := List.mem_iff_getElem?.mp h
  exact ⟨(i : Int), by rw [atK_nat]; exact hi⟩
theorem rch_leads {cs : List LB} (B : Bl cs) {W : List Int} {n : Int} (h : Rch (rowL cs) W n) : ∃ p, Leads (cs.length : Int) (Rf cs) W p n := by
  have yes : ∀ {w : Int}, w % 2 = 0 → w / 2 ∈ My.nums (rowL cs) → tgt (cs.length : Int) w = some (w / 2) := fun {w} h1 h2 => by
    have := B.inN.mp h2
    unfold tgt
    rw [if_pos ⟨h1, this.1, this.2⟩]
  induction h with
  | root hw h1 h2 =>
    obtain ⟨k, hk⟩ := mem_atK hw
    exact ⟨[k], Leads.one hk (yes h1 h2)⟩
  | @step n o w _ ho hw h1 h2 ih =>
    obtain ⟨p, hp⟩ := ih
    obtain ⟨c, hcm, hci, hgo, hrf⟩ := B.row hp.lt
    rw [hgo] at ho
    have hw' : w ∈ Rf cs n := by
      rw [hrf, Option.some.inj ho]
      exact hw
    obtain ⟨k, hk⟩ := mem_atK hw'
    exact ⟨p ++ [k], hp.step hk (yes h1 h2)⟩
theorem for_frz {i : Nat} {g : TG} {tb : TS} {D : Ends} {σ : L2.St} {H : Hp} {d : Addr} {u : HO} (hv : σ[i]? = some (some (.ref d))) (hd : H d = some u) (mu : Mut (some u)) (h : ∀ od, tFor (iKeys fun _ H Q => Q (.ref d) H) g tb D σ (upd H d (.frz od u))) : tFor (iKeys (tFrz (tVar i))) g tb D σ H :=
  ⟨_, hv, d, rfl, .inl ⟨u, hd, mu, fun od => h od⟩⟩

def wV : Option Int → V
  | some w => .int w
  | none => .non
def sp_wordat (A : Ad) : Sp := fun vs H Q _ => ∃ (a t : Addr) (rm en : Int) (cs : List LB) (al : Bool) (mom : List Int) (na nc : Int) (roots held : List Int) (F : Hp) (p : List Int), vs = [.ref a, .ref t] ∧ SQ A H a rm en (rowL cs) al mom na nc roots held F ∧ Bl cs ∧ roots.length + held.length ≤ 100 ∧ H t = some (.tup (p.map V.int)) ∧ p.length ≤ 1000 ∧
  ∀ H', Same H H' → Q (wV (wkP (cs.length : Int) (Rf cs) (0 :: (roots ++ held)) p)) H'
theorem sp_wordat_len {A vs H Q E} (h : sp_wordat A vs H Q E) : vs.length = (["space", "path"] : List Str).length := by
  obtain ⟨_, _, _, _, _, _, _, _, _, _, _, _, _, rfl, _⟩ := h
  rfl
section
variable {P : Program} {w : World} {K : PySem.W.Frag} {mg : Str → Option Value} {base : Heap} {A : Ad}
theorem ok_word_at (T : Txt K mg A) : FnOk P w K mg base CX0 4 A.f_word_at A.d_word_at ["space", "path"] (sp_wordat A) := by
  refine Fun.ok T.F_word_at sc_word_at (fun vs H Q E h => ?_) (fun cdv Ar outer s H vs Q E hr h => ?_)
  · exact sp_wordat_len h
  · have hu := hu_of hr
    refine ⟨_, (pss_cons (ps_asg (pe_meth0 (pv 0) T.cl_Space T.me_Space_all_roots (ok_Space_all_roots T) (hr.mono (by decide)) T.b_Space_all_roots .nil pass0) (pg_name (i := 2) sc_word_at.nd rfl (Or.inl rfl)))
    (pss_cons (ps_asg pe_non (pg_name (i := 3) sc_word_at.nd rfl (Or.inl rfl)))
    (pss_cons (ps_for PassesOwn.never rfl (pi_enumT (by rfl) T.z_enumerate (pa_cons (pv 1) pa_nil)) (pg_tup (n := 2) (by rfl) (pgs_cons (pg_name (i := 4) sc_word_at.nd rfl (Or.inl rfl)) (pgs_cons (pg_name (i := 5) sc_word_at.nd rfl (Or.inl rfl)) pgs_nil)))
      (Evl.pss_cut (ps_if (pt_cmpR op_gt (pv 4) pe_int (nomark _)) (pss_cons (ps_asg (pe_call (ok_target T) (hr.mono (by decide)) (by rfl) T.g_target T.k_target T.b_target .nil pass0 (pa_cons (pe_fld (pv 0) rfl) (pa_cons (pv 3) pa_nil))) (pg_name (i := 6) sc_word_at.nd rfl (Or.inl rfl)))
    (pss_cons (ps_if (pt_cmpR op_isN (pv 6) pe_non (nomark _)) (pss_one (ps_ret pe_non)) pss_nil)
    (pss_one (ps_asg (pe_call (ok_row_of T) (hr.mono (by decide)) (by rfl) T.g_row_of T.k_row_of T.b_row_of .nil pass0 (pa_cons (pe_fld (pv 0) rfl) (pa_cons (pv 6) pa_nil))) (pg_name (i := 2) sc_word_at.nd rfl (Or.inl rfl)))))) pss_nil)
    (pss_cons (ps_if (pt_not (pt_chain op_le op_lt pe_int (pv 5) (pe_callB call_lenM (by rfl) T.z_len PySem.boot_len (pa_cons (pv 2) pa_nil)))) (pss_one (ps_ret pe_non)) pss_nil)
    (pss_one (ps_asg (pe_ix ix_lstM (pv 2) (pv 5) (fun _ _ => rfl)) (pg_name (i := 3) sc_word_at.nd rfl (Or.inl rfl)))))))
    (pss_one (ps_ret (pv 3)))))), ?_⟩
    obtain ⟨a, t, rm, en, cs, al, mom, na, nc, roots, held, F, p, rfl, Z0, B, hl2, ht, hpl, k⟩ := h
    obtain ⟨dx, s, pr, rt, hl, mo, F1, Z⟩ := id Z0
    have ho := Z.ho
    dsimp! only [ho, ht]
    refine ⟨a, rm, en, rowL cs, al, mom, na, nc, roots, held, F, rfl, Z0, by omega, fun H1 rq0 sm1 hrq0 grq0 => ?_⟩
    refine for_enumT (a := t) (p.map V.int) (fun R h => ?_) (fun i σ' H' => ∃ (rq : Addr) (row : List Int) (wd : V) (c4 c5 c6 : Option V), σ' = [some (.ref a), some (.ref t), some (.ref rq), some wd, c4, c5, c6] ∧ Same H H' ∧ H' rq = some (.lst (row.map V.int)) ∧ ((i = 0 ∧ wd = .non ∧ row = 0 :: (roots ++ held)) ∨ (0 < i ∧ ∃ w, wd = .int w ∧ wkS (cs.length : Int) (Rf cs) w (p.drop i) = wkP (cs.length : Int) (Rf cs) (0 :: (roots ++ held)) p))) ⟨rq0, _, .non, none, none, none, rfl, sm1, grq0, .inl ⟨rfl, rfl, rfl⟩⟩ ?_ ?_ ?_
    · simp! only [rIsL]
      exact h
    · rintro i σ' H' hi ⟨rq, row, wd, c4, c5, c6, rfl, sm, g, _⟩
      exact .inl (.inl (sm _ _ ht))
    · rintro i x σ' H' tq hx ⟨rq, row, wd, c4, c5, c6, rfl, sm, g, hc⟩ hT
      rw [List.getElem?_map] at hx
      obtain ⟨kk, hk, rfl⟩ := Option.map_eq_some_iff.mp hx
      have hd : p.drop i = kk :: p.drop (i + 1) := by
        have hlt := (List.getElem?_eq_some_iff.mp hk).1
        rw [List.drop_eq_getElem_cons hlt]
        rw [List.getElem?_eq_getElem hlt] at hk
        rw [Option.some.inj hk]
      have sm2 : Same H (upd H' tq (.tup [.int (i : Nat), .int kk])) := same_upd sm (none_of sm hT)
      have g2 : (upd H' tq (.tup [.int (i : Nat), .int kk])) rq = some (.lst (row.map V.int)) := same_new hT _ _ g
      generalize upd H' tq (.tup [.int (i : Nat), .int kk]) = H2 at sm2 g2 ⊢
      refine ⟨fun σ3 H3 => ∃ (rq : Addr) (row : List Int) (wd : V) (c6 : Option V), σ3 = [some (.ref a), some (.ref t), some (.ref rq), some wd, some (.int (i : Nat)), some (.int kk), c6] ∧ Same H H3 ∧ H3 rq = some (.lst (row.map V.int)) ∧ ((atK row kk).bind fun w => wkS (cs.length : Int) (Rf cs) w (p.drop (i + 1))) = wkP (cs.length : Int) (Rf cs) (0 :: (roots ++ held)) p, ?_, ?_⟩
      · have Z2 := Z.same sm2
        have ho2 := Z2.ho
        dsimp! only [ho2]
        refine ite2 (fun h0 => ?_) (fun h0 => ?_)
        · rcases hc with ⟨h1, _⟩ | ⟨_, w, rfl, e⟩
          · exact absurd h0 (by omega)
          · rw [hd] at e
            have e' : ((tgt (cs.length : Int) w).bind fun n => (atK (Rf cs n) kk).bind fun w' => wkS (cs.length : Int) (Rf cs) w' (p.drop (i + 1))) = wkP (cs.length : Int) (Rf cs) (0 :: (roots ++ held)) p := e
            refine ⟨s, rm, en, rowL cs, F1, w, rfl, Z2.st, fun hy => ?_, fun hn => ?_⟩
            · have hin := B.inN.mp hy.2
              have ht2 : tgt (cs.length : Int) w = some (w / 2) := by
                unfold tgt
                rw [if_pos ⟨hy.1, hin.1, hin.2⟩]
              obtain ⟨c, hcm, _, hgo, hrf⟩ := B.row hin
              rw [ht2] at e'
              have e2 : ((atK (Rf cs (w / 2)) kk).bind fun w' => wkS (cs.length : Int) (Rf cs) w' (p.drop (i + 1))) = wkP (cs.length : Int) (Rf cs) (0 :: (roots ++ held)) p := e'
              rw [hrf] at e2
              exact ite2 (fun h => by cases h) (fun _ => ⟨_, _, _, Z2.ho, T.cl_Space, T.no_Space_store, _, spF_store, s, rm, en, rowL cs, F1, w / 2, c.o, rfl, Z2.st, hgo, fun H4 rq2 sm4 hn4 g4 => ⟨rq2, rfl, same_trans sm2 sm4, c.o.kind :: c.o.sl, g4, e2⟩⟩)
            · have ht2 : tgt (cs.length : Int) w = none := by
                cases hz : tgt (cs.length : Int) w with
                | none => rfl
                | some n => exact absurd (B.tgt_yes hz).2 hn
              rw [ht2] at e'
              have e2 : none = wkP (cs.length : Int) (Rf cs) (0 :: (roots ++ held)) p := e'
              have kk2 := k H2 sm2
              rw [← e2] at kk2
              exact ite2 (fun _ => kk2) (fun h => absurd rfl h)
        · rcases hc with ⟨h1, rfl, rfl⟩ | ⟨h1, _⟩
          · subst h1
            refine ⟨sm2, _, g2, ?_⟩
            have hp0 : p = kk :: p.drop (0 + 1) := by
              rw [List.drop_zero] at hd
              exact hd
            generalize p.drop (0 + 1) = ps at hp0 ⊢
            subst hp0
            rfl
          · exact absurd (show (0 : Int) < (i : Int) by omega) h0
      · rintro σ3 H3 ⟨rq, row, wd, c6, rfl, sm3, g3, e3⟩
        simp! only [g3, List.length_map]
        have bad : atK row kk = none → Q V.non H3 := fun hz => by
          rw [hz] at e3
          have e2 : none = wkP (cs.length : Int) (Rf cs) (0 :: (roots ++ held)) p := e3
          have kk2 := k H3 sm3
          rw [← e2] at kk2
          exact kk2
        refine ite2 (fun h0 => ite2 (fun h1 => bad ?_) (fun h1 => ?_)) (fun h0 => bad ?_)
        · cases hz : atK row kk with
          | none => rfl
          | some w => exact absurd (atK_lt hz).2 h1
        · have hlt : kk.toNat < row.length := by omega
          have hz : atK row kk = some row[kk.toNat] := by
            unfold atK
            rw [if_pos h0, List.getElem?_eq_getElem hlt]
          rw [hz] at e3
          have hat : atI (row.map V.int) kk = some (.int row[kk.toNat]) := by
            have := atI_nat (xs := row.map V.int) (j := kk.toNat) (v := .int row[kk.toNat]) (by rw [List.getElem?_map, List.getElem?_eq_getElem hlt]; rfl)
            rw [show ((kk.toNat : Nat) : Int) = kk by omega] at this
            exact this
          exact ⟨_, hat, sm3, row, rfl, .inr ⟨Nat.succ_pos i, _, rfl, e3⟩⟩
        · cases hz : atK row kk with
          | none => rfl
          | some w => exact absurd (atK_lt hz).1 h0
    · rintro σ' H' ⟨rq, row, wd, c4, c5, c6, rfl, sm, g, hc⟩
      simp! only [rIsL]
      rw [List.length_map] at hc
      rcases hc with ⟨h1, rfl, _⟩ | ⟨_, w, rfl, e⟩
      · have hp0 : p = [] := List.eq_nil_of_length_eq_zero h1
        subst hp0
        exact k H' sm
      · rw [List.drop_length] at e
        have kk2 := k H' sm
        rw [← e] at kk2
        exact kk2
end

def sp_paths (A : Ad) : Sp := fun vs H Q _ => ∃ (a : Addr) (rm en : Int) (cs : List LB) (al : Bool) (mom : List Int) (na nc : Int) (roots held : List Int) (F : Hp), vs = [.ref a] ∧ SQ A H a rm en (rowL cs) al mom na nc roots held F ∧ Bl cs ∧ roots.length + held.length ≤ 100 ∧
  ∀ H' d (bs : List PB), Same H H' → H d = none → H' d = some (.dK (pbD bs)) → PbAt H' bs → (∀ L, Best (cs.length : Int) (Rf cs) (0 :: (roots ++ held)) (pbF bs) L) → (∀ b ∈ bs, b.p.length ≤ cs.length) → Q (.ref d) H'
theorem sp_paths_len {A vs H Q E} (h : sp_paths A vs H Q E) : vs.length = (["space"] : List Str).length := by
  obtain ⟨_, _, _, _, _, _, _, _, _, _, _, rfl, _⟩ := h
  rfl
section
variable {P : Program} {w : World} {K : PySem.W.Frag} {mg : Str → Option Value} {base : Heap} {A : Ad}
theorem ok_paths (T : Txt K mg A) : FnOk P w K mg base CX0 4 A.f_paths A.d_paths ["space"] (sp_paths A) := by
  refine Fun.ok T.F_paths sc_paths (fun vs H Q E h => ?_) (fun cdv Ar outer s H vs Q E hr h => ?_)
  · exact sp_paths_len h
  · have hu := hu_of hr
    refine ⟨_, (pss_cons (ps_asg (pe_fld (pv 0) rfl) (pg_name (i := 1) sc_paths.nd rfl (Or.inl rfl)))
    (pss_cons (ps_asg pe_dnewK (pg_name (i := 2) sc_paths.nd rfl (Or.inl rfl)))
    (pss_cons (ps_asg (pe_lst pa_nil) (pg_name (i := 3) sc_paths.nd rfl (Or.inl rfl)))
    (pss_cons (ps_asg (pe_meth0 (pv 0) T.cl_Space T.me_Space_all_roots (ok_Space_all_roots T) (hr.mono (by decide)) T.b_Space_all_roots .nil pass0) (pg_name (i := 4) sc_paths.nd rfl (Or.inl rfl)))
    (pss_cons (ps_asg (pe_tup pa_nil) (pg_name (i := 5) sc_paths.nd rfl (Or.inl rfl)))
    (pss_cons (ps_asg pe_int (pg_name (i := 6) sc_paths.nd rfl (Or.inl rfl)))
    (pss_one (ps_while PassesOwn.never (pt_val pe_bl) (pss_cons (ps_for PassesOwn.never rfl (pi_enum (by rfl) T.z_enumerate (pa_cons (pv 4) pa_nil)) (pg_tup (n := 2) (by rfl) (pgs_cons (pg_name (i := 7) sc_paths.nd rfl (Or.inl rfl)) (pgs_cons (pg_name (i := 8) sc_paths.nd rfl (Or.inl rfl)) pgs_nil)))
      (pss_cons (ps_asg (pe_call (ok_target T) (hr.mono (by decide)) (by rfl) T.g_target T.k_target T.b_target .nil pass0 (pa_cons (pv 1) (pa_cons (pv 8) pa_nil))) (pg_name (i := 9) sc_paths.nd rfl (Or.inl rfl)))
    (pss_one (ps_if (PW.pt (pw_and (pt_cmpR op_notN (pv 9) pe_non (nomark _)) (pw_and1 (pt_cmpR (op_dnotinM hu) (pv 9) (pv 2) (by rfl))))) (pss_cons (ps_asg (pe_op op_catA (pv 5) (pe_tup (pa_cons (pv 7) pa_nil))) (pg_sub (pv 2) (pv 9) (set_dictM hu)))
    (pss_one (ps_expr (pe_bmM PySem.F.slot_list_append PySem.F.type_list_append mt_append (pv 3) (pa_cons (pv 9) pa_nil))))) pss_nil))))
    (pss_cons (ps_if (pt_cmpR op_eq (pv 6) (pe_callB call_lenM (by rfl) T.z_len PySem.boot_len (pa_cons (pv 3) pa_nil)) (nomark _)) (pss_one (ps_ret (pv 2))) pss_nil)
    (pss_cons (ps_asg (pe_call (ok_row_of T) (hr.mono (by decide)) (by rfl) T.g_row_of T.k_row_of T.b_row_of .nil pass0 (pa_cons (pv 1) (pa_cons (pe_ix ix_lstM (pv 3) (pv 6) (fun _ _ => rfl)) pa_nil))) (pg_name (i := 4) sc_paths.nd rfl (Or.inl rfl)))
    (pss_cons (ps_asg (pe_ix (ix_dictM hu) (pv 2) (pe_ix ix_lstM (pv 3) (pv 6) (fun _ _ => rfl)) (fun _ _ => rfl)) (pg_name (i := 5) sc_paths.nd rfl (Or.inl rfl)))
    (pss_one (ps_asg (pe_op op_add (pv 6) pe_int) (pg_name (i := 6) sc_paths.nd rfl (Or.inl rfl)))))))))))))))), ?_⟩
    obtain ⟨a, rm, en, cs, al, mom, na, nc, roots, held, F, rfl, Z0, B, hl2, k⟩ := h
    obtain ⟨dx, s, pr, rt, hl, mo, F1, Z⟩ := id Z0
    have ho := Z.ho
    dsimp! only [ho]
    refine fun d hd => ?_
    have smd := same_new (o := HO.dK []) hd
    have gd0 : upd H d (.dK []) d = some (.dK (pbD [])) := upd_same
    generalize upd H d (.dK []) = Hd at smd gd0 ⊢
    have Zd := Z.same smd
    refine ⟨Nat.zero_le _, fun q hq => ?_⟩
    have smq := same_new (o := HO.lst []) hq
    have gq0 : upd Hd q (.lst []) q = some (.lst (([] : List PB).map (·.n) |>.map V.int)) := upd_same
    have q0 : H q = none := none_of smd hq
    have gd1 := smq _ _ gd0
    generalize upd Hd q (.lst []) = Hq at smq gq0 gd1 ⊢
    have Zq := Zd.same smq
    have W0 : ∃ W, W = 0 :: (roots ++ held) := ⟨_, rfl⟩
    obtain ⟨W, hW⟩ := W0
    refine ⟨_, _, Zq.ho, spF_mall, a, rm, en, rowL cs, al, mom, na, nc, roots, held, F, rfl, ⟨_, _, _, _, _, _, _, Zq⟩, by omega, fun H1 rq0 sm1 hrq0 grq0 => ⟨Nat.zero_le _, fun bt hbt => ?_⟩⟩
    rw [← hW] at grq0 k
    have S0 : Sr H (upd H1 bt (.tup [])) d q [] := ⟨same_trans (same_trans smd smq) (same_trans sm1 (same_new hbt)), same_new hbt _ _ (sm1 _ _ gd1), same_new hbt _ _ (sm1 _ _ gq0), fun b hb => absurd hb List.not_mem_nil⟩
    have g0 := same_new (o := HO.tup []) hbt _ _ grq0
    have gb0 : upd H1 bt (.tup []) bt = some (.tup (([] : List Int).map V.int)) := upd_same
    generalize upd H1 bt (.tup []) = H2 at S0 g0 gb0 ⊢
    refine ⟨fun m σ H' => ∃ (bs : List PB) (st : Nat) (rq bt : Addr) (c7 c8 c9 : Option V), σ = [some (.ref a), some (.ref s), some (.ref d), some (.ref q), some (.ref rq), some (.ref bt), some (.int (st : Int)), c7, c8, c9] ∧ rq ≠ q ∧ Sr H H' d q bs ∧
      H' rq = some (.lst ((rowS (Rf cs) W (pbF bs) st).map V.int)) ∧ H' bt = some (.tup ((begS (pbF bs) st).map V.int)) ∧ Bf (cs.length : Int) (Rf cs) W (pbF bs) st 0 ∧ m = cs.length - st, ⟨cs.length - 0, [], 0, rq0, bt, none, none, none, rfl, Ne.symm (ne_of_none gq0 hrq0), S0, g0, gb0, Bf.start, rfl⟩, ?_⟩
    rintro m σ H3 ⟨bs, st, rq, bt, c7, c8, c9, rfl, hrq, S1, g1, gb1, B1, rfl⟩
    clear S0 g0 gb0 grq0 hrq0 gd0 gd1 gq0 smd smq sm1 hq hbt
    simp! only [rIsL]
    refine ⟨_, fun _ _ h => h, for_enum (a := rq) ((rowS (Rf cs) W (pbF bs) st).map V.int) (fun R h => ?_) (fun i σ' H' => ∃ (bs2 : List PB) (c7 c8 c9 : Option V), σ' = [some (.ref a), some (.ref s), some (.ref d), some (.ref q), some (.ref rq), some (.ref bt), some (.int (st : Int)), c7, c8, c9] ∧ Sr H H' d q bs2 ∧
      H' rq = some (.lst ((rowS (Rf cs) W (pbF bs) st).map V.int)) ∧ H' bt = some (.tup ((begS (pbF bs) st).map V.int)) ∧ rowS (Rf cs) W (pbF bs2) st = rowS (Rf cs) W (pbF bs) st ∧ begS (pbF bs2) st = begS (pbF bs) st ∧ Bf (cs.length : Int) (Rf cs) W (pbF bs2) st (i : Int)) ⟨bs, c7, c8, c9, rfl, S1, g1, gb1, rfl, rfl, B1⟩ ?_ ?_ ?_⟩
    · simp! only [rIsL]
      exact h
    · rintro i σ' H' hi ⟨bs2, c7, c8, c9, rfl, S2, g2, gb2, e1, e2, B2⟩
      exact .inl (.inl g2)
    · rintro i x σ' H4 tq hx ⟨bs2, c7, c8, c9, rfl, S2, g2, gb2, e1, e2, B2⟩ htq
      rw [List.getElem?_map] at hx
      obtain ⟨w, hw, rfl⟩ := Option.map_eq_some_iff.mp hx
      have smT := same_new (o := HO.tup [V.int (i : Nat), V.int w]) htq
      have S3 := S2.same smT
      have g3 := smT _ _ g2
      have gb3 := smT _ _ gb2
      generalize upd H4 tq (HO.tup [V.int (i : Nat), V.int w]) = H5 at S3 g3 gb3 ⊢
      have Z5 := Z.same S3.sm
      have aw : atK (rowS (Rf cs) W (pbF bs2) st) (i : Int) = some w := by
        rw [e1, atK_nat]
        exact hw
      have sdd := S3.dd
      have sqq := S3.qq
      simp! only [sdd, sqq, gb3]
      have hnd := B2.nd
      rw [pbF_fst] at hnd
      refine ⟨s, rm, en, rowL cs, F1, w, rfl, Z5.st, fun hy => ?_, fun hn => ?_⟩
      · have hin := B.inN.mp hy.2
        have ht2 : tgt (cs.length : Int) w = some (w / 2) := by
          unfold tgt
          rw [if_pos ⟨hy.1, hin.1, hin.2⟩]
        refine ite2 (fun _ => ⟨_, rfl, ?_⟩) (fun h => absurd (fun z => by cases z) h)
        rw [sdd]
        dsimp only
        rw [pbD_some hnd]
        refine ite2 (fun hnew => ?_) (fun hold => ?_)
        · have hnew' : w / 2 ∉ bs2.map (·.n) := of_decide_eq_false hnew
          refine ⟨by decide, fun t1 ht1 => ?_⟩
          have sm4 := same_new (o := HO.tup [V.int (i : Int)]) ht1
          have sl := B2.sl
          have few := nodup_few (N := cs.length) hnd fun n hn => by
            obtain ⟨b, hb, rfl⟩ := List.mem_map.mp hn
            exact (B2.ld _ (List.mem_map.mpr ⟨b, hb, rfl⟩)).lt
          rw [List.length_map] at few
          have bl := B.len
          have h16 : (100000 : Nat) ≤ sizeLine := by decide
          have sl2 : st ≤ cs.length := by rw [pbF_len] at sl; omega
          have begl : (begS (pbF bs) st).length ≤ 1000 := by
            rw [← e2]
            cases st with
            | zero => exact Nat.zero_le _
            | succ st =>
              have hst : st < (pbF bs2).length := by omega
              have := B2.ln st _ (List.getElem?_eq_getElem hst)
              show (((pbF bs2)[st]?.map (·.2)).getD []).length ≤ 1000
              rw [List.getElem?_eq_getElem hst]
              show ((pbF bs2)[st].2).length ≤ 1000
              omega
          refine ⟨bt, t1, _, _, rfl, rfl, .inl (.inl (sm4 _ _ gb3)), .inl (.inl upd_same), by rw [List.length_map]; show _ + 1 ≤ _; omega, fun hnil => ?_, (fun _ z => by cases z), fun _ _ t2 ht2' => ?_⟩
          · have hb0 : begS (pbF bs) st = [] := List.map_eq_nil_iff.mp hnil
            have S6 := S3.same sm4
            have g6 := sm4 _ _ g3
            have gb6 := sm4 _ _ gb3
            have gt6 : (upd H5 t1 (HO.tup [V.int (i : Int)])) t1 = some (.tup ((begS (pbF bs) st ++ [(i : Int)]).map V.int)) := by
              rw [upd_same, hb0]
              rfl
            generalize upd H5 t1 (HO.tup [V.int (i : Int)]) = H6 at S6 g6 gb6 gt6 ⊢
            have fin := S6.add (b := ⟨w / 2, begS (pbF bs) st ++ [(i : Int)], t1⟩) hd q0 gt6
            have B3 := B2.add aw ht2 (by rw [pbF_fst]; exact hnew')
            rw [e2] at B3
            have dd6 := S6.dd
            have qq6 := S6.qq
            refine ⟨_, rfl, ?_⟩
            rw [dd6]
            dsimp only
            rw [pbD_put (b := ⟨w / 2, begS (pbF bs) st ++ [(i : Int)], t1⟩) hnew']
            have gq6 : upd H6 d (.dK (pbD (bs2 ++ [⟨w / 2, begS (pbF bs) st ++ [(i : Int)], t1⟩]))) q = some (.lst ((bs2.map (·.n)).map V.int)) := keepO qq6 dd6 (fun z => by cases z)
            refine ⟨by rw [pbD_len]; omega, ?_⟩
            rw [gq6]
            dsimp only
            refine ⟨_, rfl, by rw [List.length_map, List.length_map]; omega, bs2 ++ [⟨w / 2, begS (pbF bs) st ++ [(i : Int)], t1⟩], fin, by rw [upd_ne hrq]; exact keepO g6 dd6 (fun z => by cases z), keepO (keepO gb6 dd6 (fun z => by cases z)) gq6 (fun z => by cases z), ?_, ?_, ?_⟩
            · rw [pbF_app, rowS_app sl]
              exact e1
            · rw [pbF_app, begS_app sl]
              exact e2
            · rw [pbF_app]
              exact B3
          · have sm5 := same_trans sm4 (same_new (o := HO.tup ((begS (pbF bs) st).map V.int ++ [V.int (i : Int)])) ht2')
            have S6 := S3.same sm5
            have g6 := sm5 _ _ g3
            have gb6 := sm5 _ _ gb3
            have gt6 : (upd (upd H5 t1 (HO.tup [V.int (i : Int)])) t2 (HO.tup ((begS (pbF bs) st).map V.int ++ [V.int (i : Int)]))) t2 = some (.tup ((begS (pbF bs) st ++ [(i : Int)]).map V.int)) := by
              rw [upd_same, List.map_append]
              rfl
            generalize upd (upd H5 t1 (HO.tup [V.int (i : Int)])) t2 (HO.tup ((begS (pbF bs) st).map V.int ++ [V.int (i : Int)])) = H6 at S6 g6 gb6 gt6 ⊢
            have fin := S6.add (b := ⟨w / 2, begS (pbF bs) st ++ [(i : Int)], t2⟩) hd q0 gt6
            have B3 := B2.add aw ht2 (by rw [pbF_fst]; exact hnew')
            rw [e2] at B3
            have dd6 := S6.dd
            have qq6 := S6.qq
            refine ⟨_, rfl, ?_⟩
            rw [dd6]
            dsimp only
            rw [pbD_put (b := ⟨w / 2, begS (pbF bs) st ++ [(i : Int)], t2⟩) hnew']
            have gq6 : upd H6 d (.dK (pbD (bs2 ++ [⟨w / 2, begS (pbF bs) st ++ [(i : Int)], t2⟩]))) q = some (.lst ((bs2.map (·.n)).map V.int)) := keepO qq6 dd6 (fun z => by cases z)
            refine ⟨by rw [pbD_len]; omega, ?_⟩
            rw [gq6]
            dsimp only
            refine ⟨_, rfl, by rw [List.length_map, List.length_map]; omega, bs2 ++ [⟨w / 2, begS (pbF bs) st ++ [(i : Int)], t2⟩], fin, by rw [upd_ne hrq]; exact keepO g6 dd6 (fun z => by cases z), keepO (keepO gb6 dd6 (fun z => by cases z)) gq6 (fun z => by cases z), ?_, ?_, ?_⟩
            · rw [pbF_app, rowS_app sl]
              exact e1
            · rw [pbF_app, begS_app sl]
              exact e2
            · rw [pbF_app]
              exact B3
        · have hold' : w / 2 ∈ bs2.map (·.n) := by
            have : decide (w / 2 ∈ bs2.map (·.n)) = true := by
              cases hz : decide (w / 2 ∈ bs2.map (·.n)) with
              | true => rfl
              | false => exact absurd hz hold
            exact of_decide_eq_true this
          exact ⟨bs2, S3, g3, gb3, e1, e2, B2.skip aw fun n hn => by
            rw [ht2] at hn
            cases hn
            rw [pbF_fst]
            exact hold'⟩
      · have ht2 : tgt (cs.length : Int) w = none := by
          cases hz : tgt (cs.length : Int) w with
          | none => rfl
          | some n => exact absurd (B.tgt_yes hz).2 hn
        exact ite2 (fun h => absurd rfl h) (fun _ => ⟨bs2, S3, g3, gb3, e1, e2, B2.skip aw fun n hn => by rw [ht2] at hn; cases hn⟩)
    · rintro σ' H4 ⟨bs2, c7, c8, c9, rfl, S2, g2, gb2, e1, e2, B2⟩
      have sdd := S2.dd
      have sqq := S2.qq
      simp! only [sdd, sqq, List.length_map]
      rw [List.length_map, ← e1] at B2
      have hnd := B2.nd
      rw [pbF_fst] at hnd
      have hlt : ∀ b ∈ bs2, 0 ≤ b.n ∧ b.n < (cs.length : Int) := fun b hb => (B2.ld _ (List.mem_map.mpr ⟨b, hb, rfl⟩)).lt
      have few := nodup_few (N := cs.length) hnd fun n hn => by
        obtain ⟨b, hb, rfl⟩ := List.mem_map.mp hn
        exact hlt b hb
      rw [List.length_map] at few
      have sl := B2.sl
      rw [pbF_len] at sl
      refine ite2 (fun h => ?_) (fun h => ?_)
      · refine k H4 d bs2 S2.sm hd sdd S2.at_ (fun L => B2.done (by rw [pbF_len]; omega) L) fun b hb => ?_
        obtain ⟨i, hi⟩ := List.mem_iff_getElem?.mp hb
        have hil := (List.getElem?_eq_some_iff.mp hi).1
        have := B2.ln i (b.n, b.p) (by unfold pbF; rw [List.getElem?_map, hi]; rfl)
        have this' : b.p.length ≤ i + 1 := this
        omega
      · have hst : st < bs2.length := by omega
        have hb : bs2[st]? = some bs2[st] := List.getElem?_eq_getElem hst
        have hbm := List.getElem_mem hst
        have hbf : (pbF bs2)[st]? = some (bs2[st].n, bs2[st].p) := by
          unfold pbF
          rw [List.getElem?_map, hb]
          rfl
        obtain ⟨c, hcm, _, hgo, hrf⟩ := B.row (hlt _ hbm)
        have hat : atI ((bs2.map (·.n)).map V.int) (st : Int) = some (.int bs2[st].n) := atI_nat (by rw [List.getElem?_map, List.getElem?_map, hb]; rfl)
        have Z4 := Z.same S2.sm
        refine ⟨_, hat, s, rm, en, rowL cs, F1, bs2[st].n, c.o, rfl, Z4.st, hgo, fun H5 rq2 sm5 hn5 g5 => ?_⟩
        have S5 := S2.same sm5
        dsimp only
        rw [S5.qq]
        dsimp only
        refine ⟨_, hat, _, rfl, ?_⟩
        rw [S5.dd]
        dsimp only
        refine ⟨_, pbD_get hnd hbm, cs.length - (st + 1), by omega, bs2, st + 1, rq2, rfl, bs2[st].a, rfl, rfl, Ne.symm (ne_of_none sqq hn5), S5, ?_, ?_, B2.next (by rw [pbF_len]; exact hst), rfl⟩
        · rw [g5, ← hrf]
          show _ = some (HO.lst (List.map V.int (((pbF bs2)[st]?.map fun x => Rf cs x.1).getD [])))
          rw [hbf]
          rfl
        · rw [S5.at_ _ hbm]
          show _ = some (HO.tup (List.map V.int (((pbF bs2)[st]?.map (·.2)).getD [])))
          rw [hbf]
          rfl
end

def RowsAt (H : Hp) (r : Addr) (cs : List LB) : Prop := H r = some (.lst (prefs cs)) ∧ ∀ c ∈ cs, H c.p = some (.lst ((c.o.kind :: c.o.sl).map V.int))
theorem RowsAt.same {H H' : Hp} {r : Addr} {cs : List LB} (h : RowsAt H r cs) (s : Same H H') : RowsAt H' r cs := ⟨s _ _ h.1, fun c hc => s _ _ (h.2 c hc)⟩
def sp_walk : Sp := fun vs H Q _ => ∃ (r q t : Addr) (cs : List LB) (W p : List Int), vs = [.ref r, .ref q, .ref t] ∧ RowsAt H r cs ∧ Bl cs ∧ Wds cs ∧ H q = some (.lst (W.map V.int)) ∧ (∀ z ∈ W, Wd z) ∧ W.length ≤ 100 ∧ H t = some (.tup (p.map V.int)) ∧ p.length ≤ 1000 ∧
  ∀ H', Same H H' → Q (wV (wkP (cs.length : Int) (Rf cs) (0 :: W) p)) H'
theorem sp_walk_len {vs H Q E} (h : sp_walk vs H Q E) : vs.length = (["rows", "words", "path"] : List Str).length := by
  obtain ⟨_, _, _, _, _, _, rfl, _⟩ := h
  rfl
section
variable {P : Program} {w : World} {K : PySem.W.Frag} {mg : Str → Option Value} {base : Heap} {A : Ad}
theorem ok__law_walk (T : Txt K mg A) : FnOk P w K mg base CX0 1 A.f__law_walk A.d__law_walk ["rows", "words", "path"] (sp_walk) := by
  refine Fun.ok T.F__law_walk sc__law_walk (fun vs H Q E h => ?_) (fun cdv Ar outer s H vs Q E hr h => ?_)
  · exact sp_walk_len h
  · have hu := hu_of hr
    refine ⟨_, (pss_cons (ps_asg (pe_op op_cat (pe_lst (pa_cons pe_int pa_nil)) (pv 1)) (pg_name (i := 3) sc__law_walk.nd rfl (Or.inl rfl)))
    (pss_cons (ps_asg pe_non (pg_name (i := 4) sc__law_walk.nd rfl (Or.inl rfl)))
    (pss_cons (ps_for PassesOwn.never rfl (pi_range1 (by rfl) T.z_range (pa_cons (pe_callB call_len_seq (by rfl) T.z_len PySem.boot_len (pa_cons (pv 2) pa_nil)) pa_nil)) (pg_name (i := 5) sc__law_walk.nd rfl (Or.inl rfl))
      (Evl.pss_cut (ps_if (pt_cmpR op_gt (pv 5) pe_int (nomark _)) (pss_cons (ps_if (PW.pt (pw_or (pt_cmpR op_eq (pe_op op_mod (pv 4) pe_int) pe_int (nomark _)) (pw_or1 (pt_cmpR op_ge (pe_op op_fdiv (pv 4) pe_int) (pe_callB call_lenM (by rfl) T.z_len PySem.boot_len (pa_cons (pv 0) pa_nil)) (nomark _))))) (pss_one (ps_ret pe_non)) pss_nil)
    (pss_one (ps_asg (pe_ix ix_lstM (pv 0) (pe_op op_fdiv (pv 4) pe_int) (fun _ _ => rfl)) (pg_name (i := 3) sc__law_walk.nd rfl (Or.inl rfl))))) pss_nil)
    (pss_cons (ps_if (PW.pt (pw_or (pt_cmpR op_lt (pe_ix ix_tup (pv 2) (pv 5) (fun _ _ => rfl)) pe_int (nomark _)) (pw_or1 (pt_cmpR op_ge (pe_ix ix_tup (pv 2) (pv 5) (fun _ _ => rfl)) (pe_callB call_lenM (by rfl) T.z_len PySem.boot_len (pa_cons (pv 3) pa_nil)) (nomark _))))) (pss_one (ps_ret pe_non)) pss_nil)
    (pss_one (ps_asg (pe_ix ix_lstM (pv 3) (pe_ix ix_tup (pv 2) (pv 5) (fun _ _ => rfl)) (fun _ _ => rfl)) (pg_name (i := 4) sc__law_walk.nd rfl (Or.inl rfl)))))))
    (pss_one (ps_ret (pv 4)))))), ?_⟩
    obtain ⟨r, q, t, cs, W, p, rfl, hR, B, hWd, hq, hW, hWl, ht, hpl, k⟩ := h
    simp! only [hq, ht]
    have h16 : (100000 : Nat) ≤ sizeLine := by decide
    refine ⟨by decide, fun p1 hp1 => ?_⟩
    have sm1 := same_new (o := HO.lst [V.int 0]) hp1
    refine ⟨_, sm1 _ _ hq, by rw [List.length_map]; omega, fun rq0 hrq0 => ?_⟩
    have sm2 := same_trans sm1 (same_new (o := HO.lst (V.int 0 :: W.map V.int)) hrq0)
    have g0 : upd (upd H p1 (HO.lst [V.int 0])) rq0 (HO.lst (V.int 0 :: W.map V.int)) rq0 = some (.lst ((0 :: W).map V.int)) := upd_same
    generalize upd (upd H p1 (HO.lst [V.int 0])) rq0 (HO.lst (V.int 0 :: W.map V.int)) = H1 at sm2 g0 ⊢
    have bl := B.len
    refine for_rng (p.length : Int) (fun R h => ?_) (by omega) (by omega) (fun i σ' H' => ∃ (rq : Addr) (row : List Int) (wd : V) (c5 : Option V), σ' = [some (.ref r), some (.ref q), some (.ref t), some (.ref rq), some wd, c5] ∧ Same H H' ∧ H' rq = some (.lst (row.map V.int)) ∧ (∀ z ∈ row, Wd z) ∧
      ((i = 0 ∧ wd = .non ∧ row = 0 :: W) ∨ (0 < i ∧ ∃ w, wd = .int w ∧ Wd w ∧ wkS (cs.length : Int) (Rf cs) w (p.drop i) = wkP (cs.length : Int) (Rf cs) (0 :: W) p))) ⟨rq0, _, .non, none, rfl, sm2, g0, fun z hz => (List.mem_cons.mp hz).elim (fun e => by rw [e]; exact wd0) (hW z), .inl ⟨rfl, rfl, rfl⟩⟩ ?_ ?_
    · simp! only [rIsL]
      refine ⟨_, .inr (.inl (.inl (sm2 _ _ ht))), ?_⟩
      rw [List.length_map]
      exact h
    · rintro i σ' H2 hi ⟨rq, row, wd, c5, rfl, sm, g, hrw, hc⟩
      have hlt : i < p.length := by omega
      have hd : p.drop i = p[i] :: p.drop (i + 1) := List.drop_eq_getElem_cons hlt
      generalize hkk : p[i] = kk at hd
      have ht2 := sm _ _ ht
      refine ⟨fun σ3 H3 => ∃ (rq : Addr) (row : List Int) (wd : V), σ3 = [some (.ref r), some (.ref q), some (.ref t), some (.ref rq), some wd, some (.int (i : Int))] ∧ Same H H3 ∧ H3 rq = some (.lst (row.map V.int)) ∧ (∀ z ∈ row, Wd z) ∧ ((atK row kk).bind fun w => wkS (cs.length : Int) (Rf cs) w (p.drop (i + 1))) = wkP (cs.length : Int) (Rf cs) (0 :: W) p, ?_, ?_⟩
      · obtain ⟨hr1, hr2⟩ := hR.same sm
        simp! only [hr1, prefs_len]
        refine ite2 (fun h0 => ?_) (fun h0 => ?_)
        · rcases hc with ⟨h1, _⟩ | ⟨_, w, rfl, hw, e⟩
          · exact absurd h0 (by omega)
          · rw [hd] at e
            have e' : ((tgt (cs.length : Int) w).bind fun n => (atK (Rf cs n) kk).bind fun w' => wkS (cs.length : Int) (Rf cs) w' (p.drop (i + 1))) = wkP (cs.length : Int) (Rf cs) (0 :: W) p := e
            have bad : tgt (cs.length : Int) w = none → Q V.non H2 := fun hz => by
              rw [hz] at e'
              have e2 : none = wkP (cs.length : Int) (Rf cs) (0 :: W) p := e'
              have kk2 := k H2 sm
              rw [← e2] at kk2
              exact kk2
            refine ⟨w, rfl, by decide, ite2 (fun h => bad ?_) (fun h => ⟨w, rfl, ⟨by decide, by decide⟩, ite2 (fun h2 => bad ?_) (fun h2 => ⟨w, rfl, ⟨by decide, by decide⟩, ?_⟩)⟩)⟩
            · unfold tgt
              rw [if_neg (by omega)]
            · unfold tgt
              rw [if_neg (by omega)]
            · have he : w % 2 = 0 := by omega
              have hw0 := hw he
              have hin : 0 ≤ w / 2 ∧ w / 2 < (cs.length : Int) := by omega
              have ht3 : tgt (cs.length : Int) w = some (w / 2) := by
                unfold tgt
                rw [if_pos ⟨he, hin.1, hin.2⟩]
              obtain ⟨c, hcm, hci, hgo, hrf⟩ := B.row hin
              rw [ht3] at e'
              have e2 : ((atK (Rf cs (w / 2)) kk).bind fun w' => wkS (cs.length : Int) (Rf cs) w' (p.drop (i + 1))) = wkP (cs.length : Int) (Rf cs) (0 :: W) p := e'
              rw [hrf] at e2
              have at1 := prefs_at hci
              rw [show (((w / 2).toNat : Nat) : Int) = w / 2 by omega] at at1
              exact ⟨_, at1, c.p, rfl, sm, _, hr2 c hcm, hWd c hcm, e2⟩
        · rcases hc with ⟨h1, rfl, rfl⟩ | ⟨h1, _⟩
          · subst h1
            refine ⟨sm, _, g, hrw, ?_⟩
            have hp0 : p = kk :: p.drop (0 + 1) := by
              rw [List.drop_zero] at hd
              exact hd
            clear hkk
            generalize p.drop (0 + 1) = ps at hp0 ⊢
            subst hp0
            rfl
          · exact absurd (show (0 : Int) < (i : Int) by omega) h0
      · rintro σ3 H3 ⟨rq, row, wd, rfl, sm3, g3, hrw3, e3⟩
        have ht3 := sm3 _ _ ht
        simp! only [g3, ht3, List.length_map]
        have hT : SqT K H3 t (p.map V.int) := .inl (.inl ht3)
        have hat0 : atI (p.map V.int) (i : Int) = some (.int kk) := atI_nat (by rw [List.getElem?_map, List.getElem?_eq_getElem hlt, hkk]; rfl)
        have bad : atK row kk = none → Q V.non H3 := fun hz => by
          rw [hz] at e3
          have e2 : none = wkP (cs.length : Int) (Rf cs) (0 :: W) p := e3
          have kk2 := k H3 sm3
          rw [← e2] at kk2
          exact kk2
        refine ⟨_, hT, _, hat0, kk, rfl, ite2 (fun h0 => bad ?_) (fun h0 => ⟨_, hT, _, hat0, kk, rfl, ite2 (fun h1 => bad ?_) (fun h1 => ⟨_, hT, _, hat0, kk, rfl, ?_⟩)⟩)⟩
        · cases hz : atK row kk with
          | none => rfl
          | some w => exact absurd (atK_lt hz).1 (by omega)
        · cases hz : atK row kk with
          | none => rfl
          | some w => exact absurd (atK_lt hz).2 (by omega)
        · have hlt2 : kk.toNat < row.length := by omega
          have hz : atK row kk = some row[kk.toNat] := by
            unfold atK
            rw [if_pos (by omega), List.getElem?_eq_getElem hlt2]
          rw [hz] at e3
          have hat : atI (row.map V.int) kk = some (.int row[kk.toNat]) := by
            have := atI_nat (xs := row.map V.int) (j := kk.toNat) (v := .int row[kk.toNat]) (by rw [List.getElem?_map, List.getElem?_eq_getElem hlt2]; rfl)
            rw [show ((kk.toNat : Nat) : Int) = kk by omega] at this
            exact this
          exact ⟨_, hat, sm3, row, rfl, hrw3, .inr ⟨Nat.succ_pos i, _, rfl, hrw3 _ (List.getElem_mem hlt2), e3⟩⟩
    · rintro σ' H' ⟨rq, row, wd, c5, rfl, sm, g, hrw, hc⟩
      simp! only [rIsL]
      rcases hc with ⟨h1, rfl, _⟩ | ⟨_, w, rfl, _, e⟩
      · have hp0 : p = [] := List.eq_nil_of_length_eq_zero (by omega)
        subst hp0
        exact k H' sm
      · rw [Int.toNat_natCast, List.drop_length] at e
        have kk2 := k H' sm
        rw [← e] at kk2
        exact kk2
end

def sp_extended : Sp := fun vs H Q _ => ∃ (r d : Addr) (od : Obj) (cs : List LB) (bs : List PB) (L : Nat), vs = [.ref r, .ref d, .int L] ∧ RowsAt H r cs ∧ Bl cs ∧ H d = some (.frz od (.dK (pbD bs))) ∧ PbAt H bs ∧ (bs.map (·.n)).Nodup ∧ (∀ b ∈ bs, 0 ≤ b.n ∧ b.n < (cs.length : Int)) ∧ (∀ b ∈ bs, b.p ≠ [] ∧ b.p.length ≤ 1000) ∧
  ∀ H' l (es : List WE), Same H H' → H l = none → H' l = some (.lst (es.map fun e => .ref e.t)) → WeAt H' es → es.length ≤ 100000 → (∀ e ∈ es, ∃ b ∈ bs, b.p.length = L ∧ ∃ j w, atK (Rf cs b.n) j = some w ∧ e.p = b.p ++ [j] ∧ e.w = w) → (∀ b ∈ bs, b.p.length = L → ∀ j w, atK (Rf cs b.n) j = some w → ∃ e ∈ es, e.p = b.p ++ [j] ∧ e.w = w) → Q (.ref l) H'
theorem sp_extended_len {vs H Q E} (h : sp_extended vs H Q E) : vs.length = (["rows", "found", "paths_here"] : List Str).length := by
  obtain ⟨_, _, _, _, _, _, rfl, _⟩ := h
  rfl
section
variable {P : Program} {w : World} {K : PySem.W.Frag} {mg : Str → Option Value} {base : Heap} {A : Ad}
theorem ok__law_extended (T : Txt K mg A) : FnOk P w K mg base CX0 1 A.f__law_extended A.d__law_extended ["rows", "found", "paths_here"] (sp_extended) := by
  refine Fun.ok T.F__law_extended sc__law_extended (fun vs H Q E h => ?_) (fun cdv Ar outer s H vs Q E hr h => ?_)
  · exact sp_extended_len h
  · have hu := hu_of hr
    refine ⟨_, (pss_cons (ps_asg (pe_lst pa_nil) (pg_name (i := 3) sc__law_extended.nd rfl (Or.inl rfl)))
    (pss_cons (ps_for PassesOwn.never rfl (pi_keys (pe_frz (pv 1))) (pg_name (i := 4) sc__law_extended.nd rfl (Or.inl rfl))
      (pss_one (ps_if (pt_cmpR op_eq (pe_callB call_len_seq (by rfl) T.z_len PySem.boot_len (pa_cons (pe_ix (ix_dictM hu) (pv 1) (pv 4) (fun _ _ => rfl)) pa_nil)) (pv 2) (nomark _)) (pss_one (ps_for PassesOwn.never rfl (pi_range1 (by rfl) T.z_range (pa_cons (pe_callB call_lenM (by rfl) T.z_len PySem.boot_len (pa_cons (pe_ix ix_lstM (pv 0) (pv 4) (fun _ _ => rfl)) pa_nil)) pa_nil)) (pg_name (i := 5) sc__law_extended.nd rfl (Or.inl rfl))
      (pss_one (ps_expr (pe_bmM PySem.F.slot_list_append PySem.F.type_list_append mt_append (pv 3) (pa_cons (pe_tup (pa_cons (pe_op op_catA (pe_ix (ix_dictM hu) (pv 1) (pv 4) (fun _ _ => rfl)) (pe_tup (pa_cons (pv 5) pa_nil))) (pa_cons (pe_ix ix_lstM (pe_ix ix_lstM (pv 0) (pv 4) (fun _ _ => rfl)) (pv 5) (fun _ _ => rfl)) pa_nil))) pa_nil)))))) pss_nil)))
    (pss_one (ps_ret (pv 3))))), ?_⟩
    obtain ⟨r, d, od, cs, bs, L, rfl, hR, B, hd, hbs, nd, hbn, hbp, k⟩ := h
    simp! only [hd]
    have h16 : (100000 : Nat) ≤ sizeLine := by decide
    have bl := B.len
    have few := nodup_few (N := cs.length) nd fun n hn => by
      obtain ⟨b, hb, rfl⟩ := List.mem_map.mp hn
      exact hbn b hb
    rw [List.length_map] at few
    refine ⟨Nat.zero_le _, fun l hl => ?_⟩
    have sm0 := same_new (o := HO.lst []) hl
    have g0 : upd H l (HO.lst []) l = some (.lst (([] : List WE).map fun e => V.ref e.t)) := upd_same
    refine for_keysF (pbD bs) (sm0 _ _ hd) (fun R h => ⟨_, rfl, d, rfl, .inr h⟩) (fun i σ' H' => ∃ (es : List WE) (c4 c5 : Option V), σ' = [some (.ref r), some (.ref d), some (.int L), some (.ref l), c4, c5] ∧ Same H H' ∧ H' l = some (.lst (es.map fun e => V.ref e.t)) ∧ WeAt H' es ∧ es.length ≤ 21 * i ∧
      (∀ e ∈ es, ∃ b ∈ bs, b.p.length = L ∧ ∃ j w, atK (Rf cs b.n) j = some w ∧ e.p = b.p ++ [j] ∧ e.w = w) ∧ (∀ b ∈ bs.take i, b.p.length = L → ∀ j w, atK (Rf cs b.n) j = some w → ∃ e ∈ es, e.p = b.p ++ [j] ∧ e.w = w)) ⟨[], none, none, rfl, sm0, g0, fun e he => absurd he List.not_mem_nil, Nat.zero_le _, fun e he => absurd he List.not_mem_nil, fun b hb => by rw [List.take_zero] at hb; cases hb⟩ ?_ ?_ ?_
    · rintro i σ' H' ⟨es, c4, c5, rfl, sm, g, we, ln, so, co⟩
      exact sm _ _ hd
    · rintro i kk v σ' H' hkv ⟨es, c4, c5, rfl, sm, g, we, ln, so, co⟩
      unfold pbD at hkv
      rw [List.getElem?_map] at hkv
      obtain ⟨b, hb, e⟩ := Option.map_eq_some_iff.mp hkv
      cases e
      have hbm := List.mem_of_getElem? hb
      obtain ⟨hr1, hr2⟩ := hR.same sm
      have hd2 := sm _ _ hd
      have hbt := sm _ _ (hbs b hbm)
      have hget := pbD_get nd hbm
      obtain ⟨c, hcm, hci, hgo, hrf⟩ := B.row (hbn b hbm)
      have at1 := prefs_at hci
      rw [show ((b.n.toNat : Nat) : Int) = b.n by have := hbn b hbm; omega] at at1
      have hcp := hr2 c hcm
      have sl20 := B.sl c hcm
      simp! only [hd2, hr1, prefs_len, hget, at1, hcp, List.length_map]
      have hbl := (hbp b hbm).2
      refine ⟨_, rfl, _, hget, b.a, rfl, _, .inr (.inl (.inl hbt)), ite2 (fun hL => ?_) (fun hL => ?_)⟩
      · rw [List.length_map] at hL
        have hL' : b.p.length = L := by omega
        have gl := g
        refine for_rng ((c.o.sl.length + 1 : Nat) : Int) (fun R h => ?_) (by omega) (by omega) (fun i2 σ2 H2 => ∃ (es2 : List WE) (c5 : Option V), σ2 = [some (.ref r), some (.ref d), some (.int L), some (.ref l), some (.int b.n), c5] ∧ Same H H2 ∧ H2 l = some (.lst (es2.map fun e => V.ref e.t)) ∧ WeAt H2 es2 ∧ es2.length ≤ 21 * i + i2 ∧ (∀ e ∈ es, e ∈ es2) ∧
          (∀ e ∈ es2, ∃ b ∈ bs, b.p.length = L ∧ ∃ j w, atK (Rf cs b.n) j = some w ∧ e.p = b.p ++ [j] ∧ e.w = w) ∧ (∀ j w, atK (Rf cs b.n) j = some w → j < (i2 : Int) → ∃ e ∈ es2, e.p = b.p ++ [j] ∧ e.w = w)) ⟨es, c5, rfl, sm, g, we, by omega, fun e he => he, so, fun j w h h2 => by have := atK_lt h; omega⟩ ?_ ?_
        · simp! only [hr1, at1, hcp, List.length_map]
          refine ⟨b.n, rfl, _, at1, c.p, rfl, ?_⟩
          rw [hcp]
          dsimp only
          rw [List.length_map, List.length_cons]
          exact h
        · rintro i2 σ2 H2 hi2 ⟨es2, c5, rfl, sm2, g2, we2, ln2, sub2, so2, co2⟩
          obtain ⟨hr1b, hr2b⟩ := hR.same sm2
          have hd3 := sm2 _ _ hd
          have hbt3 := sm2 _ _ (hbs b hbm)
          have hcp3 := hr2b c hcm
          simp! only [hd3, hr1b, at1, hcp3, List.length_map]
          have hi3 : i2 ≤ c.o.sl.length := by omega
          have hib := (List.getElem?_eq_some_iff.mp hb).1
          have hlt : i2 < (c.o.kind :: c.o.sl).length := by simp only [List.length_cons]; omega
          have hwd : atK (Rf cs b.n) (i2 : Int) = some (c.o.kind :: c.o.sl)[i2] := by
            rw [hrf, atK_nat, List.getElem?_eq_getElem hlt]
          have hatw : atI ((c.o.kind :: c.o.sl).map V.int) (i2 : Int) = some (.int (c.o.kind :: c.o.sl)[i2]) := atI_nat (by rw [List.getElem?_map, List.getElem?_eq_getElem hlt]; rfl)
          generalize (c.o.kind :: c.o.sl)[i2] = wd at hwd hatw
          rw [g2]
          dsimp only
          refine ⟨_, hget, by decide, fun t1 ht1 => ?_⟩
          have sm3 := same_new (o := HO.tup [V.int (i2 : Int)]) ht1
          refine ⟨b.a, t1, _, _, rfl, rfl, .inl (.inl (sm3 _ _ hbt3)), .inl (.inl upd_same), by rw [List.length_map]; show _ + 1 ≤ _; omega, fun z => absurd (List.map_eq_nil_iff.mp z) (hbp b hbm).1, (fun _ z => by cases z), fun _ _ t2 ht2 => ?_⟩
          have sm4 := same_trans sm3 (same_new (o := HO.tup (b.p.map V.int ++ [V.int (i2 : Int)])) ht2)
          have gt2 : (upd (upd H2 t1 (HO.tup [V.int (i2 : Int)])) t2 (HO.tup (b.p.map V.int ++ [V.int (i2 : Int)]))) t2 = some (.tup ((b.p ++ [(i2 : Int)]).map V.int)) := by
            rw [upd_same, List.map_append]
            rfl
          have g4 := sm4 _ _ g2
          have hr4 := sm4 _ _ hr1b
          have hcp4 := sm4 _ _ hcp3
          have we4 := we2.same sm4
          generalize upd (upd H2 t1 (HO.tup [V.int (i2 : Int)])) t2 (HO.tup (b.p.map V.int ++ [V.int (i2 : Int)])) = H4 at sm4 gt2 g4 hr4 hcp4 we4 ⊢
          dsimp only
          rw [hr4]
          dsimp only
          refine ⟨_, at1, c.p, rfl, ?_⟩
          rw [hcp4]
          dsimp only
          refine ⟨_, hatw, by decide, fun t3 ht3 => ?_⟩
          have sm5 := same_new (o := HO.tup [V.ref t2, V.int wd]) ht3
          have g5 := sm5 _ _ g4
          have gt5 := sm5 _ _ gt2
          have we5 := we4.same sm5
          have gt3 : upd H4 t3 (HO.tup [V.ref t2, V.int wd]) t3 = some (.tup [V.ref t2, V.int wd]) := upd_same
          have smH : Same H (upd H4 t3 (HO.tup [V.ref t2, V.int wd])) := same_trans sm2 (same_trans sm4 sm5)
          generalize upd H4 t3 (HO.tup [V.ref t2, V.int wd]) = H5 at g5 gt5 we5 gt3 smH ⊢
          have tk : ∀ (q : Addr) (xs : List V), H5 q = some (.tup xs) → upd H5 l (.lst (es2.map (fun e => V.ref e.t) ++ [V.ref t3])) q = some (.tup xs) := fun q xs hq => keepO hq g5 (fun z => by cases z)
          refine ⟨_, g5, by rw [List.length_map]; omega, same_upd smH hl, es2 ++ [⟨b.p ++ [(i2 : Int)], wd, t3, t2⟩], by rw [List.map_append]; rfl, fun e he => ?_, by rw [List.length_append, List.length_singleton]; omega, fun e he => List.mem_append_left _ (sub2 e he), fun e he => ?_, fun j w hj hj2 => ?_⟩
          · rcases List.mem_append.mp he with he | he
            · exact ⟨tk _ _ (we5 e he).1, tk _ _ (we5 e he).2⟩
            · rw [List.mem_singleton.mp he]
              exact ⟨tk _ _ gt3, tk _ _ gt5⟩
          · rcases List.mem_append.mp he with he | he
            · exact so2 e he
            · rw [List.mem_singleton.mp he]
              exact ⟨b, hbm, hL', _, _, hwd, rfl, rfl⟩
          · by_cases hj3 : j < (i2 : Int)
            · obtain ⟨e, he, e1, e2⟩ := co2 j w hj hj3
              exact ⟨e, List.mem_append_left _ he, e1, e2⟩
            · have : j = (i2 : Int) := by omega
              subst this
              rw [hwd] at hj
              exact ⟨_, List.mem_append_right _ (List.mem_singleton.mpr rfl), rfl, Option.some.inj hj⟩
        · rintro σ2 H2 ⟨es2, c5, rfl, sm2, g2, we2, ln2, sub2, so2, co2⟩
          have sl20 := B.sl c hcm
          refine ⟨⟨_, _, rfl⟩, sm2, es2, g2, we2, by omega, so2, fun b2 hb2 hL2 j w hj => ?_⟩
          rw [List.take_add_one, hb] at hb2
          rcases List.mem_append.mp hb2 with hb2 | hb2
          · obtain ⟨e, he, e1, e2⟩ := co b2 hb2 hL2 j w hj
            exact ⟨e, sub2 e he, e1, e2⟩
          · have : b2 = b := by simpa using hb2
            subst this
            have hj2 := atK_lt hj
            rw [hrf] at hj2
            exact co2 j w hj (by have := hj2.2; simp only [List.length_cons] at this; omega)
      · refine ⟨sm, es, g, we, by omega, so, fun b2 hb2 hL2 j w hj => ?_⟩
        rw [List.take_add_one, hb] at hb2
        rcases List.mem_append.mp hb2 with hb2 | hb2
        · exact co b2 hb2 hL2 j w hj
        · have : b2 = b := by simpa using hb2
          subst this
          rw [List.length_map] at hL
          exact absurd (show (b2.p.length : Int) = (L : Int) by omega) hL
    · rintro σ' H' ⟨es, c4, c5, rfl, sm, g, we, ln, so, co⟩
      simp! only [rIsL]
      rw [pbD_len] at ln co
      rw [List.take_length] at co
      exact k H' l es sm hl g we (by omega) so co
end

def sp_best : Sp := fun vs H Q _ => ∃ (r q : Addr) (cs : List LB) (W : List Int), vs = [.ref r, .ref q] ∧ RowsAt H r cs ∧ Bl cs ∧ Wds cs ∧ H q = some (.lst (W.map V.int)) ∧ (∀ z ∈ W, Wd z) ∧ W.length ≤ 100 ∧
  ∀ H' d (bs : List PB), Same H H' → H d = none → H' d = some (.dK (pbD bs)) → PbAt H' bs → Best (cs.length : Int) (Rf cs) (0 :: W) (pbF bs) (cs.length + 1) → Q (.ref d) H'
theorem sp_best_len {vs H Q E} (h : sp_best vs H Q E) : vs.length = (["rows", "words"] : List Str).length := by
  obtain ⟨_, _, _, _, rfl, _⟩ := h
  rfl
section
variable {P : Program} {w : World} {K : PySem.W.Frag} {mg : Str → Option Value} {base : Heap} {A : Ad}
theorem ok__law_best (T : Txt K mg A) : FnOk P w K mg base CX0 2 A.f__law_best A.d__law_best ["rows", "words"] (sp_best) := by
  refine Fun.ok T.F__law_best sc__law_best (fun vs H Q E h => ?_) (fun cdv Ar outer s H vs Q E hr h => ?_)
  · exact sp_best_len h
  · have hu := hu_of hr
    refine ⟨_, (pss_cons (ps_asg pe_dnewK (pg_name (i := 2) sc__law_best.nd rfl (Or.inl rfl)))
    (pss_cons (ps_asg (pe_op op_cat (pe_lst (pa_cons pe_int pa_nil)) (pv 1)) (pg_name (i := 3) sc__law_best.nd rfl (Or.inr rfl)))
    (pss_cons (ps_setLc (i := 4) (own := [("k", 8)]) (g := gName 8) rfl sc__law_best.nd rfl rfl (sw_true rfl rfl rfl (by decide +kernel)) (pi_range1 (by rfl) T.z_range (pa_cons (pe_callB call_lenM (by rfl) T.z_len PySem.boot_len (pa_cons (pv 3) pa_nil)) pa_nil)) (blkOk_by (own := [("k", 8)]) (N := ["rows", "words", "found", "row", "waiting", "length", "pair", "number", "k"]) (sc := defScope s__law_best) (by decide +kernel)) (fun _ _ _ _ _ => pg_name (i := 8) sc__law_best.nd rfl (Or.inl rfl)) (fun _ _ _ _ _ => pts_nil) (fun _ _ _ _ _ => (pe_tup (pa_cons (pe_tup (pa_cons (pv 8) pa_nil)) (pa_cons (pe_ix ix_lstM (pv 3) (pv 8) (fun _ _ => rfl)) pa_nil)))))
    (pss_cons (ps_for PassesOwn.never rfl (pi_range2 (by rfl) T.z_range (pa_cons pe_int (pa_cons (pe_op op_add (pe_callB call_lenM (by rfl) T.z_len PySem.boot_len (pa_cons (pv 0) pa_nil)) pe_int) pa_nil))) (pg_name (i := 5) sc__law_best.nd rfl (Or.inl rfl))
      (pss_cons (ps_for PassesOwn.never rfl (pi_list (pe_callB (cr_sortPK (un16 hr)) (by rfl) T.z_sorted (by decide +kernel) (pa_cons (pv 4) pa_nil))) (pg_name (i := 6) sc__law_best.nd rfl (Or.inl rfl))
      (pss_cons (ps_asg (pe_op op_fdiv (pe_ix ix_tup (pv 6) pe_int (fun _ _ => rfl)) pe_int) (pg_name (i := 7) sc__law_best.nd rfl (Or.inl rfl)))
    (pss_one (ps_if (PW.pt (pw_and (pt_cmpR op_eq (pe_op op_mod (pe_ix ix_tup (pv 6) pe_int (fun _ _ => rfl)) pe_int) pe_int (nomark _)) (pw_and (pt_cmpR op_lt (pv 7) (pe_callB call_lenM (by rfl) T.z_len PySem.boot_len (pa_cons (pv 0) pa_nil)) (nomark _)) (pw_and1 (pt_cmpR (op_dnotinM hu) (pv 7) (pv 2) (by rfl)))))) (pss_one (ps_asg (pe_ix ix_tup (pv 6) pe_int (fun _ _ => rfl)) (pg_sub (pv 2) (pv 7) (set_dictM hu)))) pss_nil))))
    (pss_one (ps_lock (ps_asg (pe_call (ok__law_extended T) (hr.mono (by decide)) (by rfl) T.g__law_extended T.k__law_extended T.b__law_extended .nil pass0 (pa_cons (pv 0) (pa_cons (pv 2) (pa_cons (pv 5) pa_nil)))) (pg_name (i := 4) sc__law_best.nd rfl (Or.inl rfl)))))))
    (pss_one (ps_ret (pv 2))))))), ?_⟩
    obtain ⟨r, q, cs, W, rfl, hR, B, hWd, hq, hW, hWl, k⟩ := h
    simp! only [hq]
    have h16 : (100000 : Nat) ≤ sizeLine := by decide
    have bl := B.len
    refine fun d hd => ?_
    have smd := same_new (o := HO.dK []) hd
    have gd0 : upd H d (.dK []) d = some (.dK (pbD [])) := upd_same
    generalize upd H d (.dK []) = Hd at smd gd0 ⊢
    refine ⟨by decide, fun p1 hp1 => ?_⟩
    have sm1 := same_new (o := HO.lst [V.int 0]) hp1
    refine ⟨_, sm1 _ _ (smd _ _ hq), by rw [List.length_map]; omega, fun rq hrq => ?_⟩
    have sm2 := same_trans sm1 (same_new (o := HO.lst (V.int 0 :: W.map V.int)) hrq)
    have gr0 : upd (upd Hd p1 (HO.lst [V.int 0])) rq (HO.lst (V.int 0 :: W.map V.int)) rq = some (.lst ((0 :: W).map V.int)) := upd_same
    have gd1 := sm2 _ _ gd0
    have sm3 := same_trans smd sm2
    generalize upd (upd Hd p1 (HO.lst [V.int 0])) rq (HO.lst (V.int 0 :: W.map V.int)) = H1 at gr0 gd1 sm3 ⊢
    refine lc_rngA (W.length + 1) (fun R h => ?_) (by omega) (fun D i H' => ∃ es : List WE, Same H1 H' ∧ H' D = some (.lst (es.map fun e => V.ref e.t)) ∧ WeAt H' es ∧ es.length = i ∧ ∀ (j : Nat) (e : WE), es[j]? = some e → e.p = [(j : Int)] ∧ (0 :: W)[j]? = some e.w)
      (fun D hD => ⟨[], same_new hD, upd_same, fun e he => absurd he List.not_mem_nil, rfl, fun j e h => by simp at h⟩) ?_ ?_
    · simp! only [gr0, List.length_map, List.length_cons]
      exact h
    · rintro D i H' hD hi ⟨es, smc, gD, we, el, ech⟩
      have gr2 := smc _ _ gr0
      simp! only [gr2]
      have hlt : i < (0 :: W).length := by simp only [List.length_cons]; omega
      have hwd : (0 :: W)[i]? = some (0 :: W)[i] := List.getElem?_eq_getElem hlt
      have hatw : atI ((0 :: W).map V.int) (i : Int) = some (.int (0 :: W)[i]) := atI_nat (by rw [List.getElem?_map, hwd]; rfl)
      generalize (0 :: W)[i] = wd at hwd hatw
      refine ⟨by decide, fun t1 ht1 => ?_⟩
      have smT := same_new (o := HO.tup [V.int (i : Int)]) ht1
      have gt1 : upd H' t1 (HO.tup [V.int (i : Int)]) t1 = some (.tup ([(i : Int)].map V.int)) := upd_same
      have gr3 := smT _ _ gr2
      have gD3 := smT _ _ gD
      have we3 := we.same smT
      have smc3 := same_trans smc smT
      generalize upd H' t1 (HO.tup [V.int (i : Int)]) = H3 at gt1 gr3 gD3 we3 smc3 ⊢
      rw [gr3]
      dsimp only
      refine ⟨_, hatw, by decide, fun t2 ht2 => ?_⟩
      have smU := same_new (o := HO.tup [V.ref t1, V.int wd]) ht2
      have gt2 : upd H3 t2 (HO.tup [V.ref t1, V.int wd]) t2 = some (.tup [V.ref t1, V.int wd]) := upd_same
      have gt4 := smU _ _ gt1
      have gD4 := smU _ _ gD3
      have we4 := we3.same smU
      have smc4 := same_trans smc3 smU
      generalize upd H3 t2 (HO.tup [V.ref t1, V.int wd]) = H4 at gt2 gt4 gD4 we4 smc4 ⊢
      have tk : ∀ (b : Addr) (xs : List V), H4 b = some (.tup xs) → upd H4 D (.lst (es.map (fun e => V.ref e.t) ++ [V.ref t2])) b = some (.tup xs) := fun b xs hb => keepO hb gD4 (fun z => by cases z)
      refine ⟨_, gD4, by rw [List.length_map]; omega, same_upd smc4 hD, es ++ [⟨[(i : Int)], wd, t2, t1⟩], by rw [List.map_append]; rfl, fun e he => ?_, by rw [List.length_append, el]; rfl, fun j e hj => ?_⟩
      · rcases List.mem_append.mp he with he | he
        · exact ⟨tk _ _ (we4 e he).1, tk _ _ (we4 e he).2⟩
        · rw [List.mem_singleton.mp he]
          exact ⟨tk _ _ gt2, tk _ _ gt4⟩
      · by_cases c : j < es.length
        · rw [List.getElem?_append_left c] at hj
          exact ech j e hj
        · have hjl := (List.getElem?_eq_some_iff.mp hj).1
          rw [List.length_append, List.length_singleton] at hjl
          have ej : j = es.length := by omega
          rw [ej, List.getElem?_append_right (Nat.le_refl _), Nat.sub_self] at hj
          rw [← Option.some.inj hj, ej, el]
          exact ⟨rfl, hwd⟩
    · rintro D H2 hD ⟨es, smc, gD, we, el, ech⟩
      have sm4 := same_trans sm3 smc
      obtain ⟨hr1, hr2⟩ := hR.same sm4
      have gd2 := smc _ _ gd1
      have Lv0 : Lv (cs.length : Int) (Rf cs) (0 :: W) (pbF []) 0 (ksOf es) := by
        refine Lv.start (fun e he => ?_) (fun j w hj => ?_)
        · obtain ⟨x, hx, rfl⟩ := List.mem_map.mp he
          obtain ⟨n, hn⟩ := List.mem_iff_getElem?.mp hx
          obtain ⟨h1, h2⟩ := ech n x hn
          exact ⟨(n : Int), by rw [atK_nat]; exact h2, h1⟩
        · have h0 := atK_lt hj
          rw [List.length_cons] at h0
          have hlt : j.toNat < es.length := by omega
          obtain ⟨h1, h2⟩ := ech j.toNat es[j.toNat] (List.getElem?_eq_getElem hlt)
          unfold atK at hj
          rw [if_pos h0.1, h2] at hj
          refine List.mem_map.mpr ⟨es[j.toNat], List.getElem_mem hlt, ?_⟩
          rw [h1, ← Option.some.inj hj, show ((j.toNat : Nat) : Int) = j by omega]
      have wd0' : ∀ e ∈ es, Wd e.w := fun e he => by
        obtain ⟨n, hn⟩ := List.mem_iff_getElem?.mp he
        exact (List.mem_cons.mp (List.mem_of_getElem? (ech n e hn).2)).elim (fun z => by rw [z]; exact wd0) (hW _)
      refine for_rng2 1 ((cs.length : Int) + 2) (fun R h => ?_) (by decide) (by decide) (by omega) (by omega) (fun i σ' H' => ∃ (bs : List PB) (es : List WE) (wl : Addr) (c5 c6 c7 : Option V), σ' = [some (.ref r), some (.ref q), some (.ref d), some (.ref rq), some (.ref wl), c5, c6, c7, none] ∧ Same H H' ∧ H' d = some (.dK (pbD bs)) ∧ PbAt H' bs ∧
        H' wl = some (.lst (es.map fun e => V.ref e.t)) ∧ WeAt H' es ∧ es.length ≤ 100000 ∧ (∀ e ∈ es, Wd e.w) ∧ Lv (cs.length : Int) (Rf cs) (0 :: W) (pbF bs) i (ksOf es)) ⟨[], es, D, none, none, none, rfl, sm4, gd2, fun b hb => absurd hb List.not_mem_nil, gD, we, by omega, wd0', Lv0⟩ ?_ ?_
      · simp! only [hr1, prefs_len]
        exact h
      · clear Lv0 wd0' gd2 ech we gD el smc hD
        rintro i σ' H3 hi ⟨bs, es, wl, c5, c6, c7, rfl, sm, gd, hb, gw, we, el, wd, lv⟩
        have one : 1 + (i : Int) = ((i + 1 : Nat) : Int) := by omega
        refine for_lstP (fun xs => xs.Pairwise (fun x y => ltK (kE es y) (kE es x) = false) ∧ xs.Perm (es.map fun e => V.ref e.t)) (fun R h => ?_) (fun p xs n σ' H' => ∃ (bs2 : List PB) (c6 c7 : Option V), σ' = [some (.ref r), some (.ref q), some (.ref d), some (.ref rq), some (.ref wl), some (.int (1 + (i : Int))), c6, c7, none] ∧ Same H H' ∧ H' d = some (.dK (pbD bs2)) ∧ PbAt H' bs2 ∧
          H' p = some (.lst xs) ∧ WeAt H' es ∧ Pr (cs.length : Int) (Rf cs) (0 :: W) (pbF bs) (pbF bs2) (xs.map (kE es)) n) ?_ ?_ ?_ ?_
        · have gw2 := gw
          simp! only [rIsL]
          refine ⟨wl, _, kE es, rfl, .inl (.inl gw), fun x hx => ?_, fun ys p h1 h2 h3 => h p ys ⟨h1, h2⟩ h3⟩
          obtain ⟨e, he, rfl⟩ := List.mem_map.mp hx
          rw [kE_of we he]
          exact ⟨e.t, e.f, rfl, (we e he).1, (we e he).2⟩
        · rintro p xs ⟨hs, hp⟩ hpn
          have smp := same_new (o := HO.lst xs) hpn
          exact ⟨bs, c6, c7, rfl, same_trans sm smp, smp _ _ gd, hb.same smp, upd_same, we.same smp, lv.pr _⟩
        · rintro p xs n σ' H' hpn ⟨bs2, c6, c7, rfl, sm2, gd2, hb2, gp2, we2, pr2⟩
          exact gp2
        · rintro p xs n x σ' H' ⟨hs, hp⟩ hpn hx ⟨bs2, c6, c7, rfl, sm2, gd2, hb2, gp2, we2, pr2⟩
          have hxm := hp.mem_iff.mp (List.mem_of_getElem? hx)
          obtain ⟨e, he, rfl⟩ := List.mem_map.mp hxm
          have ht := (we2 e he).1
          have hT : SqT K H' e.t [.ref e.f, .int e.w] := .inl (.inl ht)
          obtain ⟨hr3, hr4⟩ := hR.same sm2
          simp! only [hr3, prefs_len, gd2]
          have K0 : (xs.map (kE es))[n]? = some (e.p, e.w) := by
            rw [List.getElem?_map, hx]
            exact congrArg some (kE_of we he)
          have hk : ∀ e ∈ xs.map (kE es), e.1.length = i + 1 := fun x hx => by
            obtain ⟨y, hy, rfl⟩ := List.mem_map.mp hx
            obtain ⟨e2, he2, rfl⟩ := List.mem_map.mp (hp.mem_iff.mp hy)
            rw [kE_of we he2]
            exact (lv.so _ (List.mem_map.mpr ⟨e2, he2, rfl⟩)).1
          have hs' : (xs.map (kE es)).Pairwise fun x y => ltK y x = false := List.pairwise_map.mpr hs
          have stay : (∀ n, tgt (cs.length : Int) e.w = some n → n ∈ (pbF bs2).map (·.1)) → Same H H' ∧ ∃ x, pbD bs2 = pbD x ∧ PbAt H' x ∧ H' p = some (HO.lst xs) ∧ WeAt H' es ∧ Pr (cs.length : Int) (Rf cs) (0 :: W) (pbF bs) (pbF x) (List.map (kE es) xs) (n + 1) :=
            fun h => ⟨sm2, bs2, rfl, hb2, gp2, we2, pr2.skip K0 (fun x hx => lv.lv x hx) hk hs' h⟩
          have hnd := pr2.nd
          rw [pbF_fst] at hnd
          have few := nodup_few (N := cs.length) hnd fun n hn => by
            obtain ⟨b, hb, rfl⟩ := List.mem_map.mp hn
            exact (pr2.ld _ (List.mem_map.mpr ⟨b, hb, rfl⟩)).lt
          rw [List.length_map] at few
          refine ⟨_, hT, _, rfl, e.w, rfl, ⟨by decide, by decide⟩, _, hT, _, rfl, e.w, rfl, by decide, ite2 (fun h1 => ite2 (fun h2 => ?_) (fun h2 => stay fun n hn => ?_)) (fun h1 => stay fun n hn => ?_)⟩
          · have hw0 := wd e he h1
            have ht2 : tgt (cs.length : Int) e.w = some (e.w / 2) := by
              unfold tgt
              rw [if_pos ⟨h1, by omega, h2⟩]
            rw [pbD_some hnd]
            refine ite2 (fun h3 => ?_) (fun h3 => stay fun n hn => ?_)
            · have hnew : e.w / 2 ∉ bs2.map (·.n) := of_decide_eq_false h3
              refine ⟨_, hT, _, rfl, by rw [pbD_len]; omega, same_upd sm2 hd, ?_⟩
              have hput := pbD_put (b := ⟨e.w / 2, e.p, e.f⟩) hnew
              rw [hput]
              have tk : ∀ (b : Addr) (ys : List V), H' b = some (.tup ys) → upd H' d (.dK (pbD (bs2 ++ [⟨e.w / 2, e.p, e.f⟩]))) b = some (.tup ys) := fun b ys hb => keepO hb gd2 (fun z => by cases z)
              refine ⟨bs2 ++ [⟨e.w / 2, e.p, e.f⟩], rfl, fun b hb => ?_, keepO gp2 gd2 (fun z => by cases z), fun x hx => ⟨tk _ _ (we2 x hx).1, tk _ _ (we2 x hx).2⟩, ?_⟩
              · rcases List.mem_append.mp hb with hb | hb
                · exact tk _ _ (hb2 b hb)
                · rw [List.mem_singleton.mp hb]
                  exact tk _ _ (we2 e he).2
              · rw [pbF_app]
                exact pr2.add K0 ht2 ((lv.so _ (List.mem_map.mpr ⟨e, he, rfl⟩)).2 _ ht2) (by rw [pbF_fst]; exact hnew)
            · rw [ht2] at hn
              cases hn
              rw [pbF_fst]
              cases hz : decide (e.w / 2 ∈ bs2.map (·.n)) with
              | true => exact of_decide_eq_true hz
              | false => exact absurd hz h3
          · exact absurd (tgt_some hn).2.2.2 (by rw [(tgt_some hn).1]; exact h2)
          · exact absurd (tgt_some hn).2.1 h1
        · rintro p xs σ' H' ⟨hs, hp⟩ hpn ⟨bs2, c6, c7, rfl, sm2, gd2, hb2, gp2, we2, pr2⟩
          have hm : ∀ e, e ∈ xs.map (kE es) ↔ e ∈ ksOf es := fun e => by
            constructor
            · intro h
              obtain ⟨y, hy, rfl⟩ := List.mem_map.mp h
              obtain ⟨e2, he2, rfl⟩ := List.mem_map.mp (hp.mem_iff.mp hy)
              rw [kE_of we he2]
              exact List.mem_map.mpr ⟨e2, he2, rfl⟩
            · intro h
              obtain ⟨e2, he2, rfl⟩ := List.mem_map.mp h
              exact List.mem_map.mpr ⟨V.ref e2.t, hp.mem_iff.mpr (List.mem_map.mpr ⟨e2, he2, rfl⟩), kE_of we he2⟩
          have ld := Pr.done lv hm (by rw [List.length_map]; exact pr2)
          refine ⟨d, .dK (pbD bs2), gd2, trivial, fun od => ?_⟩
          have smF : Same H (upd H' d (.frz od (.dK (pbD bs2)))) := same_upd sm2 hd
          have gF : upd H' d (.frz od (.dK (pbD bs2))) d = some (.frz od (.dK (pbD bs2))) := upd_same
          have bF : PbAt (upd H' d (.frz od (.dK (pbD bs2)))) bs2 := fun b hb => keepO (hb2 b hb) gd2 (fun z => by cases z)
          simp! only [rIsL]
          have hld : ∀ b ∈ bs2, Leads (cs.length : Int) (Rf cs) (0 :: W) b.p b.n := fun b hb => ld.ld (b.n, b.p) (List.mem_map.mpr ⟨b, hb, rfl⟩)
          have hlv : ∀ b ∈ bs2, b.p.length ≤ i + 1 := fun b hb => ld.lv (b.n, b.p) (List.mem_map.mpr ⟨b, hb, rfl⟩)
          have hnd := ld.nd
          rw [pbF_fst] at hnd
          refine ⟨r, d, od, cs, bs2, i + 1, by rw [one], hR.same smF, B, gF, bF, hnd, fun b hb => (hld b hb).lt, fun b hb => ⟨(hld b hb).ne, by have := hlv b hb; omega⟩, fun H5 l es2 sm5 hl5 gl5 we5 el5 so5 co5 => ?_⟩
          have g5 := sm5 _ _ gF
          have bF5 := bF.same sm5
          refine ⟨g5, bs2, es2, l, rfl, same_upd (same_trans smF sm5) hd, rfl, fun b hb => keepO (bF5 b hb) g5 (fun z => by cases z), keepO gl5 g5 (fun z => by cases z), fun e he => ⟨keepO (we5 e he).1 g5 (fun z => by cases z), keepO (we5 e he).2 g5 (fun z => by cases z)⟩, el5, fun e he => ?_, ld.next (by omega) (fun e he => ?_) (fun x hx hxl j w hj => ?_)⟩
          · obtain ⟨b, hb, _, j, w, h1, h2, h3⟩ := so5 e he
            rw [h3]
            exact Rf_wd hWd (atK_mem h1)
          · obtain ⟨y, hy, rfl⟩ := List.mem_map.mp he
            obtain ⟨b, hb, h0, j, w, h1, h2, h3⟩ := so5 y hy
            exact ⟨(b.n, b.p), List.mem_map.mpr ⟨b, hb, rfl⟩, h0, j, w, h1, h2, h3⟩
          · obtain ⟨b, hb, rfl⟩ := List.mem_map.mp hx
            obtain ⟨e, he, h2, h3⟩ := co5 b hb hxl j w hj
            exact List.mem_map.mpr ⟨e, he, by rw [h2, h3]⟩
      · rintro σ' H3 ⟨bs, es, wl, c5, c6, c7, rfl, sm, gd, hb, gw, we, el, wd, lv⟩
        simp! only [rIsL]
        have e1 : ((cs.length : Int) + 2 - 1).toNat = cs.length + 1 := by omega
        rw [e1] at lv
        exact k H3 d bs sm hd gd hb ⟨lv.nd, lv.ld, lv.all⟩
end

def sp_pathis : Sp := fun vs H Q _ => ∃ (t u : Addr) (p : List Int), vs = [.ref t, .ref u] ∧ H t = some (.tup (p.map V.int)) ∧ H u = some (.tup (p.map V.int)) ∧ p.length ≤ 1000 ∧ ∀ H', Same H H' → Q (.bl true) H'
theorem sp_pathis_len {vs H Q E} (h : sp_pathis vs H Q E) : vs.length = (["told", "due"] : List Str).length := by
  obtain ⟨_, _, _, rfl, _⟩ := h
  rfl
section
variable {P : Program} {w : World} {K : PySem.W.Frag} {mg : Str → Option Value} {base : Heap} {A : Ad}
theorem ok__law_path_is (T : Txt K mg A) : FnOk P w K mg base CX0 2 A.f__law_path_is A.d__law_path_is ["told", "due"] (sp_pathis) := by
  refine Fun.ok T.F__law_path_is sc__law_path_is (fun vs H Q E h => ?_) (fun cdv Ar outer s H vs Q E hr h => ?_)
  · exact sp_pathis_len h
  · have hu := hu_of hr
    refine ⟨_, (pss_cons (ps_if (PW.pt (pw_or (pt_not (pt_val (pe_callB call_isT (by rfl) T.z_isinstance (by decide +kernel) (pa_cons (pv 0) (pa_cons (pe_bltn (v := .ty "tuple") (by rfl) T.z_tuple (by decide +kernel) rfl) pa_nil))))) (pw_or1 (pt_cmpR op_ne (pe_callB call_len_seq (by rfl) T.z_len PySem.boot_len (pa_cons (pv 0) pa_nil)) (pe_callB call_len_seq (by rfl) T.z_len PySem.boot_len (pa_cons (pv 1) pa_nil)) (nomark _))))) (pss_one (ps_ret pe_bl)) pss_nil)
    (pss_cons (ps_for PassesOwn.never rfl (pi_range1 (by rfl) T.z_range (pa_cons (pe_callB call_len_seq (by rfl) T.z_len PySem.boot_len (pa_cons (pv 1) pa_nil)) pa_nil)) (pg_name (i := 2) sc__law_path_is.nd rfl (Or.inl rfl))
      (pss_one (ps_if (pt_not (pt_val (pe_call (ok__law_is T) (hr.mono (by decide)) (by rfl) T.g__law_is T.k__law_is T.b__law_is .nil pass0 (pa_cons (pe_ix ix_tup (pv 0) (pv 2) (fun _ _ => rfl)) (pa_cons (pe_ix ix_tup (pv 1) (pv 2) (fun _ _ => rfl)) pa_nil))))) (pss_one (ps_ret pe_bl)) pss_nil)))
    (pss_one (ps_ret pe_bl)))), ?_⟩
    obtain ⟨t, u, p, rfl, ht, hu2, hpl, k⟩ := h
    simp! only [ht, hu2]
    have hT1 : SqT K H t (p.map V.int) := .inl (.inl ht)
    have hT2 : SqT K H u (p.map V.int) := .inl (.inl hu2)
    refine ⟨t, rfl, _, ht, true, rfl, ite2 (fun h => absurd h (by decide)) (fun _ => ⟨_, .inr hT1, _, .inr hT2, ite2 (fun h => absurd rfl h) (fun _ => ?_)⟩)⟩
    refine for_rng (p.length : Int) (fun R h => ?_) (by omega) (by omega) (fun i σ' H' => ∃ c2 : Option V, σ' = [some (.ref t), some (.ref u), c2] ∧ Same H H') ⟨none, rfl, fun _ _ h => h⟩ ?_ ?_
    · simp! only [rIsL]
      refine ⟨_, .inr hT2, ?_⟩
      rw [List.length_map]
      exact h
    · rintro i σ' H' hi ⟨c2, rfl, sm⟩
      have hlt : i < p.length := by omega
      have hat : atI (p.map V.int) (i : Int) = some (.int p[i]) := atI_nat (by rw [List.getElem?_map, List.getElem?_eq_getElem hlt]; rfl)
      have hT3 : SqT K H' t (p.map V.int) := .inl (.inl (sm _ _ ht))
      have hT4 : SqT K H' u (p.map V.int) := .inl (.inl (sm _ _ hu2))
      simp! only [rIsL]
      refine ⟨_, hT3, _, hat, _, hT4, _, hat, _, _, rfl, true, by rw [decide_eq_true rfl], ?_⟩
      exact ite2 (fun h => absurd h (by decide)) (fun _ => sm)
    · rintro σ' H' ⟨c2, rfl, sm⟩
      simp! only [rIsL]
      exact k H' sm
end

def sp_ltold (A : Ad) : Sp := fun vs H Q _ => ∃ (a r q t : Addr) (rm en : Int) (cs : List LB) (al : Bool) (mom : List Int) (na nc : Int) (roots held : List Int) (F : Hp) (p : List Int), vs = [.ref a, .ref r, .ref q, .ref t] ∧ SQ A H a rm en (rowL cs) al mom na nc roots held F ∧ Bl cs ∧ roots.length + held.length ≤ 100 ∧
  RowsAt H r cs ∧ Wds cs ∧ H q = some (.lst ((roots ++ held).map V.int)) ∧ (∀ z ∈ roots ++ held, Wd z) ∧ H t = some (.tup (p.map V.int)) ∧ p.length ≤ 1000 ∧ ∀ H', Same H H' → Q (.bl true) H'
theorem sp_ltold_len {A vs H Q E} (h : sp_ltold A vs H Q E) : vs.length = (["space", "rows", "words", "path"] : List Str).length := by
  obtain ⟨_, _, _, _, _, _, _, _, _, _, _, _, _, _, _, rfl, _⟩ := h
  rfl
section
variable {P : Program} {w : World} {K : PySem.W.Frag} {mg : Str → Option Value} {base : Heap} {A : Ad}
theorem ok__law_told (T : Txt K mg A) : FnOk P w K mg base CX0 5 A.f__law_told A.d__law_told ["space", "rows", "words", "path"] (sp_ltold A) := by
  refine Fun.ok T.F__law_told sc__law_told (fun vs H Q E h => ?_) (fun cdv Ar outer s H vs Q E hr h => ?_)
  · exact sp_ltold_len h
  · have hu := hu_of hr
    refine ⟨_, (pss_cons (ps_asg (pe_call (ok__law_walk T) (hr.mono (by decide)) (by rfl) T.g__law_walk T.k__law_walk T.b__law_walk .nil pass0 (pa_cons (pv 1) (pa_cons (pv 2) (pa_cons (pv 3) pa_nil)))) (pg_name (i := 4) sc__law_told.nd rfl (Or.inl rfl)))
    (pss_cons (ps_asg (pe_call (ok_word_at T) (hr.mono (by decide)) (by rfl) T.g_word_at T.k_word_at T.b_word_at .nil pass0 (pa_cons (pv 0) (pa_cons (pv 3) pa_nil))) (pg_name (i := 5) sc__law_told.nd rfl (Or.inl rfl)))
    (pss_cons (ps_if (pt_cmpR op_isN (pv 4) pe_non (nomark _)) (pss_one (ps_ret (pe_cmpR op_isN (pv 5) pe_non (nomark _)))) pss_nil)
    (pss_one (ps_ret (pe_call (ok__law_is T) (hr.mono (by decide)) (by rfl) T.g__law_is T.k__law_is T.b__law_is .nil pass0 (pa_cons (pv 5) (pa_cons (pv 4) pa_nil)))))))), ?_⟩
    obtain ⟨a, r, q, t, rm, en, cs, al, mom, na, nc, roots, held, F, p, rfl, Z0, B, hl2, hR, hWd, hq, hW, ht, hpl, k⟩ := h
    simp! only [rIsL]
    refine ⟨r, q, t, cs, roots ++ held, p, rfl, hR, B, hWd, hq, hW, by rw [List.length_append]; exact hl2, ht, hpl, fun H1 sm1 => ?_⟩
    refine ⟨a, t, rm, en, cs, al, mom, na, nc, roots, held, F, p, rfl, Z0.same sm1, B, hl2, sm1 _ _ ht, hpl, fun H2 sm2 => ?_⟩
    have kk := k H2 (same_trans sm1 sm2)
    cases wkP (cs.length : Int) (Rf cs) (0 :: (roots ++ held)) p with
    | none => exact ite2 (fun _ => by rw [decide_eq_true (show wV none = V.non from rfl)]; exact kk) (fun h => absurd rfl h)
    | some w =>
      refine ite2 (fun h => by cases h) (fun _ => ⟨_, _, rfl, ?_⟩)
      rw [decide_eq_true rfl]
      exact kk
end

def sp_walkL : Sp := fun vs H Q _ => ∃ (r q t : Addr) (cs : List LB) (W p : List Int), vs = [.ref r, .ref q, .ref t] ∧ RowsAt H r cs ∧ Bl cs ∧ Wds cs ∧ H q = some (.lst (W.map V.int)) ∧ (∀ z ∈ W, Wd z) ∧ W.length ≤ 100 ∧ H t = some (.lst (p.map V.int)) ∧ p.length ≤ 1000 ∧
  ∀ H', Same H H' → Q (wV (wkP (cs.length : Int) (Rf cs) (0 :: W) p)) H'
theorem sp_walkL_len {vs H Q E} (h : sp_walkL vs H Q E) : vs.length = (["rows", "words", "path"] : List Str).length := by
  obtain ⟨_, _, _, _, _, _, rfl, _⟩ := h
  rfl
section
variable {P : Program} {w : World} {K : PySem.W.Frag} {mg : Str → Option Value} {base : Heap} {A : Ad}
theorem ok__law_walk_L (T : Txt K mg A) : FnOk P w K mg base CX0 1 A.f__law_walk A.d__law_walk ["rows", "words", "path"] (sp_walkL) := by
  refine Fun.ok T.F__law_walk sc__law_walk (fun vs H Q E h => ?_) (fun cdv Ar outer s H vs Q E hr h => ?_)
  · exact sp_walkL_len h
  · have hu := hu_of hr
    refine ⟨_, (pss_cons (ps_asg (pe_op op_cat (pe_lst (pa_cons pe_int pa_nil)) (pv 1)) (pg_name (i := 3) sc__law_walk.nd rfl (Or.inl rfl)))
    (pss_cons (ps_asg pe_non (pg_name (i := 4) sc__law_walk.nd rfl (Or.inl rfl)))
    (pss_cons (ps_for PassesOwn.never rfl (pi_range1 (by rfl) T.z_range (pa_cons (pe_callB call_lenM (by rfl) T.z_len PySem.boot_len (pa_cons (pv 2) pa_nil)) pa_nil)) (pg_name (i := 5) sc__law_walk.nd rfl (Or.inl rfl))
      (Evl.pss_cut (ps_if (pt_cmpR op_gt (pv 5) pe_int (nomark _)) (pss_cons (ps_if (PW.pt (pw_or (pt_cmpR op_eq (pe_op op_mod (pv 4) pe_int) pe_int (nomark _)) (pw_or1 (pt_cmpR op_ge (pe_op op_fdiv (pv 4) pe_int) (pe_callB call_lenM (by rfl) T.z_len PySem.boot_len (pa_cons (pv 0) pa_nil)) (nomark _))))) (pss_one (ps_ret pe_non)) pss_nil)
    (pss_one (ps_asg (pe_ix ix_lstM (pv 0) (pe_op op_fdiv (pv 4) pe_int) (fun _ _ => rfl)) (pg_name (i := 3) sc__law_walk.nd rfl (Or.inl rfl))))) pss_nil)
    (pss_cons (ps_if (PW.pt (pw_or (pt_cmpR op_lt (pe_ix ix_lstM (pv 2) (pv 5) (fun _ _ => rfl)) pe_int (nomark _)) (pw_or1 (pt_cmpR op_ge (pe_ix ix_lstM (pv 2) (pv 5) (fun _ _ => rfl)) (pe_callB call_lenM (by rfl) T.z_len PySem.boot_len (pa_cons (pv 3) pa_nil)) (nomark _))))) (pss_one (ps_ret pe_non)) pss_nil)
    (pss_one (ps_asg (pe_ix ix_lstM (pv 3) (pe_ix ix_lstM (pv 2) (pv 5) (fun _ _ => rfl)) (fun _ _ => rfl)) (pg_name (i := 4) sc__law_walk.nd rfl (Or.inl rfl)))))))
    (pss_one (ps_ret (pv 4)))))), ?_⟩
    obtain ⟨r, q, t, cs, W, p, rfl, hR, B, hWd, hq, hW, hWl, ht, hpl, k⟩ := h
    simp! only [hq, ht]
    have h16 : (100000 : Nat) ≤ sizeLine := by decide
    refine ⟨by decide, fun p1 hp1 => ?_⟩
    have sm1 := same_new (o := HO.lst [V.int 0]) hp1
    refine ⟨_, sm1 _ _ hq, by rw [List.length_map]; omega, fun rq0 hrq0 => ?_⟩
    have sm2 := same_trans sm1 (same_new (o := HO.lst (V.int 0 :: W.map V.int)) hrq0)
    have g0 : upd (upd H p1 (HO.lst [V.int 0])) rq0 (HO.lst (V.int 0 :: W.map V.int)) rq0 = some (.lst ((0 :: W).map V.int)) := upd_same
    generalize upd (upd H p1 (HO.lst [V.int 0])) rq0 (HO.lst (V.int 0 :: W.map V.int)) = H1 at sm2 g0 ⊢
    have bl := B.len
    refine for_rng (p.length : Int) (fun R h => ?_) (by omega) (by omega) (fun i σ' H' => ∃ (rq : Addr) (row : List Int) (wd : V) (c5 : Option V), σ' = [some (.ref r), some (.ref q), some (.ref t), some (.ref rq), some wd, c5] ∧ Same H H' ∧ H' rq = some (.lst (row.map V.int)) ∧ (∀ z ∈ row, Wd z) ∧
      ((i = 0 ∧ wd = .non ∧ row = 0 :: W) ∨ (0 < i ∧ ∃ w, wd = .int w ∧ Wd w ∧ wkS (cs.length : Int) (Rf cs) w (p.drop i) = wkP (cs.length : Int) (Rf cs) (0 :: W) p))) ⟨rq0, _, .non, none, rfl, sm2, g0, fun z hz => (List.mem_cons.mp hz).elim (fun e => by rw [e]; exact wd0) (hW z), .inl ⟨rfl, rfl, rfl⟩⟩ ?_ ?_
    · simp! only [rIsL]
      have ht4 := sm2 _ _ ht
      simp! only [ht4, List.length_map]
      exact h
    · rintro i σ' H2 hi ⟨rq, row, wd, c5, rfl, sm, g, hrw, hc⟩
      have hlt : i < p.length := by omega
      have hd : p.drop i = p[i] :: p.drop (i + 1) := List.drop_eq_getElem_cons hlt
      generalize hkk : p[i] = kk at hd
      have ht2 := sm _ _ ht
      refine ⟨fun σ3 H3 => ∃ (rq : Addr) (row : List Int) (wd : V), σ3 = [some (.ref r), some (.ref q), some (.ref t), some (.ref rq), some wd, some (.int (i : Int))] ∧ Same H H3 ∧ H3 rq = some (.lst (row.map V.int)) ∧ (∀ z ∈ row, Wd z) ∧ ((atK row kk).bind fun w => wkS (cs.length : Int) (Rf cs) w (p.drop (i + 1))) = wkP (cs.length : Int) (Rf cs) (0 :: W) p, ?_, ?_⟩
      · obtain ⟨hr1, hr2⟩ := hR.same sm
        simp! only [hr1, prefs_len]
        refine ite2 (fun h0 => ?_) (fun h0 => ?_)
        · rcases hc with ⟨h1, _⟩ | ⟨_, w, rfl, hw, e⟩
          · exact absurd h0 (by omega)
          · rw [hd] at e
            have e' : ((tgt (cs.length : Int) w).bind fun n => (atK (Rf cs n) kk).bind fun w' => wkS (cs.length : Int) (Rf cs) w' (p.drop (i + 1))) = wkP (cs.length : Int) (Rf cs) (0 :: W) p := e
            have bad : tgt (cs.length : Int) w = none → Q V.non H2 := fun hz => by
              rw [hz] at e'
              have e2 : none = wkP (cs.length : Int) (Rf cs) (0 :: W) p := e'
              have kk2 := k H2 sm
              rw [← e2] at kk2
              exact kk2
            refine ⟨w, rfl, by decide, ite2 (fun h => bad ?_) (fun h => ⟨w, rfl, ⟨by decide, by decide⟩, ite2 (fun h2 => bad ?_) (fun h2 => ⟨w, rfl, ⟨by decide, by decide⟩, ?_⟩)⟩)⟩
            · unfold tgt
              rw [if_neg (by omega)]
            · unfold tgt
              rw [if_neg (by omega)]
            · have he : w % 2 = 0 := by omega
              have hw0 := hw he
              have hin : 0 ≤ w / 2 ∧ w / 2 < (cs.length : Int) := by omega
              have ht3 : tgt (cs.length : Int) w = some (w / 2) := by
                unfold tgt
                rw [if_pos ⟨he, hin.1, hin.2⟩]
              obtain ⟨c, hcm, hci, hgo, hrf⟩ := B.row hin
              rw [ht3] at e'
              have e2 : ((atK (Rf cs (w / 2)) kk).bind fun w' => wkS (cs.length : Int) (Rf cs) w' (p.drop (i + 1))) = wkP (cs.length : Int) (Rf cs) (0 :: W) p := e'
              rw [hrf] at e2
              have at1 := prefs_at hci
              rw [show (((w / 2).toNat : Nat) : Int) = w / 2 by omega] at at1
              exact ⟨_, at1, c.p, rfl, sm, _, hr2 c hcm, hWd c hcm, e2⟩
        · rcases hc with ⟨h1, rfl, rfl⟩ | ⟨h1, _⟩
          · subst h1
            refine ⟨sm, _, g, hrw, ?_⟩
            have hp0 : p = kk :: p.drop (0 + 1) := by
              rw [List.drop_zero] at hd
              exact hd
            clear hkk
            generalize p.drop (0 + 1) = ps at hp0 ⊢
            subst hp0
            rfl
          · exact absurd (show (0 : Int) < (i : Int) by omega) h0
      · rintro σ3 H3 ⟨rq, row, wd, rfl, sm3, g3, hrw3, e3⟩
        have ht3 := sm3 _ _ ht
        simp! only [g3, ht3, List.length_map]
        have hat0 : atI (p.map V.int) (i : Int) = some (.int kk) := atI_nat (by rw [List.getElem?_map, List.getElem?_eq_getElem hlt, hkk]; rfl)
        have bad : atK row kk = none → Q V.non H3 := fun hz => by
          rw [hz] at e3
          have e2 : none = wkP (cs.length : Int) (Rf cs) (0 :: W) p := e3
          have kk2 := k H3 sm3
          rw [← e2] at kk2
          exact kk2
        refine ⟨_, hat0, kk, rfl, ite2 (fun h0 => bad ?_) (fun h0 => ⟨_, hat0, kk, rfl, ite2 (fun h1 => bad ?_) (fun h1 => ⟨_, hat0, kk, rfl, ?_⟩)⟩)⟩
        · cases hz : atK row kk with
          | none => rfl
          | some w => exact absurd (atK_lt hz).1 (by omega)
        · cases hz : atK row kk with
          | none => rfl
          | some w => exact absurd (atK_lt hz).2 (by omega)
        · have hlt2 : kk.toNat < row.length := by omega
          have hz : atK row kk = some row[kk.toNat] := by
            unfold atK
            rw [if_pos (by omega), List.getElem?_eq_getElem hlt2]
          rw [hz] at e3
          have hat : atI (row.map V.int) kk = some (.int row[kk.toNat]) := by
            have := atI_nat (xs := row.map V.int) (j := kk.toNat) (v := .int row[kk.toNat]) (by rw [List.getElem?_map, List.getElem?_eq_getElem hlt2]; rfl)
            rw [show ((kk.toNat : Nat) : Int) = kk by omega] at this
            exact this
          exact ⟨_, hat, sm3, row, rfl, hrw3, .inr ⟨Nat.succ_pos i, _, rfl, hrw3 _ (List.getElem_mem hlt2), e3⟩⟩
    · rintro σ' H' ⟨rq, row, wd, c5, rfl, sm, g, hrw, hc⟩
      simp! only [rIsL]
      rcases hc with ⟨h1, rfl, _⟩ | ⟨_, w, rfl, _, e⟩
      · have hp0 : p = [] := List.eq_nil_of_length_eq_zero (by omega)
        subst hp0
        exact k H' sm
      · rw [Int.toNat_natCast, List.drop_length] at e
        have kk2 := k H' sm
        rw [← e] at kk2
        exact kk2
end

def sp_drawn : Sp := fun vs H Q _ => ∃ (x : Int) (r q : Addr) (cs : List LB) (W : List Int), vs = [.int x, .ref r, .ref q] ∧ RowsAt H r cs ∧ Bl cs ∧ Wds cs ∧ H q = some (.lst (W.map V.int)) ∧ (∀ z ∈ W, Wd z) ∧ W.length ≤ 100 ∧ ∀ H' t (p : List Int), Same H H' → H t = none → H' t = some (.tup (p.map V.int)) → p.length ≤ 10 → Q (.ref t) H'
theorem sp_drawn_len {vs H Q E} (h : sp_drawn vs H Q E) : vs.length = (["x", "rows", "words"] : List Str).length := by
  obtain ⟨_, _, _, _, _, rfl, _⟩ := h
  rfl
section
variable {P : Program} {w : World} {K : PySem.W.Frag} {mg : Str → Option Value} {base : Heap} {A : Ad}
theorem ok__law_drawn (T : Txt K mg A) : FnOk P w K mg base CX0 2 A.f__law_drawn A.d__law_drawn ["x", "rows", "words"] (sp_drawn) := by
  refine Fun.ok T.F__law_drawn sc__law_drawn (fun vs H Q E h => ?_) (fun cdv Ar outer s H vs Q E hr h => ?_)
  · exact sp_drawn_len h
  · have hu := hu_of hr
    refine ⟨_, (pss_cons (ps_asg (pe_lst pa_nil) (pg_name (i := 3) sc__law_drawn.nd rfl (Or.inl rfl)))
    (pss_cons (ps_asg (pe_op op_cat (pe_lst (pa_cons pe_int pa_nil)) (pv 2)) (pg_name (i := 4) sc__law_drawn.nd rfl (Or.inl rfl)))
    (pss_cons (ps_asg (pe_op op_fdiv (pv 0) pe_int) (pg_name (i := 5) sc__law_drawn.nd rfl (Or.inl rfl)))
    (pss_cons (ps_for PassesOwn.never rfl (pi_range1 (by rfl) T.z_range (pa_cons (pe_op op_mod (pe_callTy call_intI (by rfl) T.z_int (by decide +kernel) (pa_cons (pv 0) pa_nil)) pe_int) pa_nil)) (pg_name (i := 6) sc__law_drawn.nd rfl (Or.inl rfl))
      (pss_cons (ps_asg (pe_op op_sub (pe_op op_mod (pe_callTy call_intI (by rfl) T.z_int (by decide +kernel) (pa_cons (pv 5) pa_nil)) (pe_op op_add (pe_callB call_lenM (by rfl) T.z_len PySem.boot_len (pa_cons (pv 4) pa_nil)) pe_int)) pe_int) (pg_name (i := 7) sc__law_drawn.nd rfl (Or.inl rfl)))
    (pss_cons (ps_asg (pe_op op_fdiv (pv 5) pe_int) (pg_name (i := 5) sc__law_drawn.nd rfl (Or.inl rfl)))
    (pss_cons (ps_expr (pe_bmM PySem.F.slot_list_append PySem.F.type_list_append mt_append (pv 3) (pa_cons (pv 7) pa_nil)))
    (pss_cons (ps_asg (pe_lst pa_nil) (pg_name (i := 4) sc__law_drawn.nd rfl (Or.inl rfl)))
    (pss_cons (ps_asg (pe_call (ok__law_walk_L T) (hr.mono (by decide)) (by rfl) T.g__law_walk T.k__law_walk T.b__law_walk .nil pass0 (pa_cons (pv 1) (pa_cons (pv 2) (pa_cons (pv 3) pa_nil)))) (pg_name (i := 8) sc__law_drawn.nd rfl (Or.inl rfl)))
    (pss_one (ps_if (PW.pt (pw_and (pt_cmpR op_notN (pv 8) pe_non (nomark _)) (pw_and (pt_cmpR op_eq (pe_op op_mod (pe_callTy call_intI (by rfl) T.z_int (by decide +kernel) (pa_cons (pv 8) pa_nil)) pe_int) pe_int (nomark _)) (pw_and1 (pt_cmpR op_lt (pe_op op_fdiv (pv 8) pe_int) (pe_callB call_lenM (by rfl) T.z_len PySem.boot_len (pa_cons (pv 1) pa_nil)) (nomark _)))))) (pss_one (ps_asg (pe_ix ix_lstM (pv 1) (pe_op op_fdiv (pv 8) pe_int) (fun _ _ => rfl)) (pg_name (i := 4) sc__law_drawn.nd rfl (Or.inl rfl)))) pss_nil))))))))
    (pss_one (ps_ret (pe_callTy call_tuple_of (by rfl) T.z_tuple (by decide +kernel) (pa_cons (pv 3) pa_nil)))))))), ?_⟩
    obtain ⟨x, r, q, cs, W, rfl, hR, B, hWd, hq, hW, hWl, k⟩ := h
    simp! only [hq]
    have h16 : (100000 : Nat) ≤ sizeLine := by decide
    have bl := B.len
    refine ⟨Nat.zero_le _, fun l hl => ?_⟩
    have sm0 := same_new (o := HO.lst []) hl
    have g0 : upd H l (HO.lst []) l = some (.lst (([] : List Int).map V.int)) := upd_same
    generalize upd H l (HO.lst []) = H0 at sm0 g0 ⊢
    refine ⟨by decide, fun p1 hp1 => ?_⟩
    have sm1 := same_new (o := HO.lst [V.int 0]) hp1
    refine ⟨_, sm1 _ _ (sm0 _ _ hq), by rw [List.length_map]; omega, fun rq0 hrq0 => ?_⟩
    have sm2 := same_trans sm1 (same_new (o := HO.lst (V.int 0 :: W.map V.int)) hrq0)
    have gr0 : upd (upd H0 p1 (HO.lst [V.int 0])) rq0 (HO.lst (V.int 0 :: W.map V.int)) rq0 = some (.lst ((0 :: W).map V.int)) := upd_same
    have g1 := sm2 _ _ g0
    have sm3 := same_trans sm0 sm2
    have lr : l ≠ rq0 := ne_of_none (sm1 _ _ g0) hrq0
    generalize upd (upd H0 p1 (HO.lst [V.int 0])) rq0 (HO.lst (V.int 0 :: W.map V.int)) = H1 at gr0 g1 sm3 ⊢
    have x0 := Int.emod_nonneg x (show (6 : Int) ≠ 0 by decide)
    have x1 := Int.emod_lt_of_pos x (show (0 : Int) < 6 by decide)
    refine ⟨⟨by decide, by decide⟩, for_rng (x % 6) (fun R h => ?_) (by omega) (by omega) (fun i σ' H' => ∃ (rq : Addr) (row ps : List Int) (c5 : Int) (c6 c7 c8 : Option V), σ' = [some (.int x), some (.ref r), some (.ref q), some (.ref l), some (.ref rq), some (.int c5), c6, c7, c8] ∧ Same H H' ∧ H' l = some (.lst (ps.map V.int)) ∧ ps.length = i ∧ l ≠ rq ∧ H' rq = some (.lst (row.map V.int))) ⟨rq0, _, [], _, none, none, none, rfl, sm3, g1, rfl, lr, gr0⟩ ?_ ?_⟩
    · simp! only [rIsL]
      exact ⟨by decide, h⟩
    · rintro i σ' H2 hi ⟨rq, row, ps, c5, c6, c7, c8, rfl, sm, g, pl, lr, gr⟩
      simp! only [g, gr, List.length_map]
      refine ⟨by omega, ⟨by decide, by decide⟩, by omega, Nat.zero_le _, fun p2 hp2 => ?_⟩
      have lp : l ≠ p2 := ne_of_none (show upd H2 l (HO.lst (ps.map V.int ++ [V.int (c5 % ((row.length : Int) + 2) - 1)])) l = some _ from upd_same) hp2
      have smA : Same H (upd (upd H2 l (HO.lst (ps.map V.int ++ [V.int (c5 % ((row.length : Int) + 2) - 1)]))) p2 (HO.lst [])) := same_upd (same_upd sm hl) (none_of (same_upd sm hl) hp2)
      have gA : (upd (upd H2 l (HO.lst (ps.map V.int ++ [V.int (c5 % ((row.length : Int) + 2) - 1)]))) p2 (HO.lst [])) l = some (.lst ((ps ++ [c5 % ((row.length : Int) + 2) - 1]).map V.int)) := by
        rw [upd_ne lp, upd_same, List.map_append]
        rfl
      have gB : (upd (upd H2 l (HO.lst (ps.map V.int ++ [V.int (c5 % ((row.length : Int) + 2) - 1)]))) p2 (HO.lst [])) p2 = some (.lst (([] : List Int).map V.int)) := upd_same
      generalize upd (upd H2 l (HO.lst (ps.map V.int ++ [V.int (c5 % ((row.length : Int) + 2) - 1)]))) p2 (HO.lst []) = H3 at smA gA gB ⊢
      generalize hps : ps ++ [c5 % ((row.length : Int) + 2) - 1] = ps2 at gA
      have pl2 : ps2.length = i + 1 := by rw [← hps, List.length_append, pl]; rfl
      refine ⟨r, q, l, cs, W, ps2, rfl, hR.same smA, B, hWd, smA _ _ hq, hW, hWl, gA, by omega, fun H4 sm4 => ?_⟩
      have smB := same_trans smA sm4
      have gA4 := sm4 _ _ gA
      have gB4 := sm4 _ _ gB
      have stay : Same H H4 ∧ ∃ x x_1, H4 l = some (HO.lst (List.map V.int x_1)) ∧ x_1.length = i + 1 ∧ l ≠ p2 ∧ H4 p2 = some (HO.lst (List.map V.int x)) := ⟨smB, [], ps2, gA4, pl2, lp, gB4⟩
      obtain ⟨hr3, hr4⟩ := hR.same smB
      cases hz : wkP (cs.length : Int) (Rf cs) (0 :: W) ps2 with
      | none => exact ite2 (fun h => absurd rfl h) (fun _ => stay)
      | some w =>
        have hw := wkP_wd hWd hW hz
        refine ite2 (fun _ => ⟨w, rfl, by decide, ite2 (fun he => ⟨w, rfl, ⟨by decide, by decide⟩, ?_⟩) (fun _ => stay)⟩) (fun _ => stay)
        rw [hr3]
        dsimp only
        rw [prefs_len]
        refine ite2 (fun hlt => ⟨w, rfl, ⟨by decide, by decide⟩, ?_⟩) (fun _ => stay)
        have hw0 := hw he
        have hin : 0 ≤ w / 2 ∧ w / 2 < (cs.length : Int) := by omega
        obtain ⟨c, hcm, hci, hgo, hrf⟩ := B.row hin
        have at1 := prefs_at hci
        rw [show (((w / 2).toNat : Nat) : Int) = w / 2 by omega] at at1
        have lc : l ≠ c.p := fun e => by
          have := hR.2 c hcm
          rw [← e, hl] at this
          cases this
        exact ⟨_, at1, c.p, rfl, smB, c.o.kind :: c.o.sl, ps2, gA4, pl2, lc, hr4 c hcm⟩
    · rintro σ' H2 ⟨rq, row, ps, c5, c6, c7, c8, rfl, sm, g, pl, lr, gr⟩
      simp! only [rIsL]
      exact ⟨_, .inl ⟨.inl (.inl g), fun t ht => k _ t ps (same_trans sm (same_new ht)) (none_of sm ht) upd_same (by omega)⟩⟩
end

def sp_kept (A : Ad) : Sp := fun vs H Q _ => ∃ (a r q : Addr) (rm en : Int) (cs : List LB) (al : Bool) (mom : List Int) (na nc : Int) (roots held : List Int) (F : Hp), vs = [.ref a, .ref r, .ref q] ∧ SQ A H a rm en (rowL cs) al mom na nc roots held F ∧ Bl cs ∧ roots.length + held.length ≤ 100 ∧
  RowsAt H r cs ∧ H q = some (.lst ((roots ++ held).map V.int)) ∧ ∀ H', Same H H' → Q (.bl true) H'
theorem sp_kept_len {A vs H Q E} (h : sp_kept A vs H Q E) : vs.length = (["space", "rows", "words"] : List Str).length := by
  obtain ⟨_, _, _, _, _, _, _, _, _, _, _, _, _, rfl, _⟩ := h
  rfl
section
variable {P : Program} {w : World} {K : PySem.W.Frag} {mg : Str → Option Value} {base : Heap} {A : Ad}
theorem ok__law_kept (T : Txt K mg A) : FnOk P w K mg base CX0 3 A.f__law_kept A.d__law_kept ["space", "rows", "words"] (sp_kept A) := by
  refine Fun.ok T.F__law_kept sc__law_kept (fun vs H Q E h => ?_) (fun cdv Ar outer s H vs Q E hr h => ?_)
  · exact sp_kept_len h
  · have hu := hu_of hr
    refine ⟨_, (pss_cons (ps_for PassesOwn.never rfl (pi_range1 (by rfl) T.z_range (pa_cons (pe_callB call_lenM (by rfl) T.z_len PySem.boot_len (pa_cons (pv 1) pa_nil)) pa_nil)) (pg_name (i := 3) sc__law_kept.nd rfl (Or.inl rfl))
      (pss_one (ps_if (PW.pt (pw_or (pt_cmpR op_ne (pe_meth (pe_fld (pv 0) rfl) T.cl_Store T.me_Store_kind (ok_Store_kind T) (hr.mono (by decide)) T.b_Store_kind .nil pass0 (pa_cons (pv 3) pa_nil)) (pe_ix ix_lstM (pe_ix ix_lstM (pv 1) (pv 3) (fun _ _ => rfl)) pe_int (fun _ _ => rfl)) (nomark _)) (pw_or1 (pt_not (pt_val (pe_call (ok__law_same T) (hr.mono (by decide)) (by rfl) T.g__law_same T.k__law_same T.b__law_same .nil pass0 (pa_cons (pe_meth (pe_fld (pv 0) rfl) T.cl_Store T.me_Store_slots (ok_Store_slots T) (hr.mono (by decide)) T.b_Store_slots .nil pass0 (pa_cons (pv 3) pa_nil)) (pa_cons (pe_slice sl_listM (pe_ix ix_lstM (pv 1) (pv 3) (fun _ _ => rfl)) (po_some pe_int) po_none) pa_nil)))))))) (pss_one (ps_ret pe_bl)) pss_nil)))
    (pss_cons (ps_setLc (i := 4) (own := [("k", 3)]) (g := gName 3) rfl sc__law_kept.nd rfl rfl (sw_true rfl rfl rfl (by decide +kernel)) (pi_range1 (by rfl) T.z_range (pa_cons (pe_callB call_lenM (by rfl) T.z_len PySem.boot_len (pa_cons (pv 1) pa_nil)) pa_nil)) (blkOk_by (own := [("k", 3)]) (N := ["space", "rows", "words", "k", "numbers"]) (sc := defScope s__law_kept) (by decide +kernel)) (fun _ _ _ _ _ => pg_name (i := 3) sc__law_kept.nd rfl (Or.inl rfl)) (fun _ _ _ _ _ => pts_nil) (fun _ _ _ _ _ => (pv 3)))
    (pss_one (ps_ret (pe_and (pe_call (ok__law_same T) (hr.mono (by decide)) (by rfl) T.g__law_same T.k__law_same T.b__law_same .nil pass0 (pa_cons (pe_meth0 (pe_fld (pv 0) rfl) T.cl_Store T.me_Store_numbers (ok_Store_numbers T) (hr.mono (by decide)) T.b_Store_numbers .nil pass0) (pa_cons (pv 4) pa_nil))) (pe_one (pe_call (ok__law_same T) (hr.mono (by decide)) (by rfl) T.g__law_same T.k__law_same T.b__law_same .nil pass0 (pa_cons (pe_meth0 (pv 0) T.cl_Space T.me_Space_all_roots (ok_Space_all_roots T) (hr.mono (by decide)) T.b_Space_all_roots .nil pass0) (pa_cons (pe_op op_cat (pe_lst (pa_cons pe_int pa_nil)) (pv 2)) pa_nil))))))))), ?_⟩
    obtain ⟨a, r, q, rm, en, cs, al, mom, na, nc, roots, held, F, rfl, Z0, B, hl2, hR, hq, k⟩ := h
    obtain ⟨hr1, hr2⟩ := id hR
    simp! only [hr1, hq]
    have h16 : (100000 : Nat) ≤ sizeLine := by decide
    have bl := B.len
    obtain ⟨dx, s, pr, rt, hl, mo, F1, Z⟩ := id Z0
    refine for_rng (cs.length : Int) (fun R h => ?_) (by omega) (by omega) (fun i σ' H' => ∃ c3 : Option V, σ' = [some (.ref a), some (.ref r), some (.ref q), c3, none] ∧ Same H H') ⟨none, rfl, fun _ _ h => h⟩ ?_ ?_
    · simp! only [hr1, prefs_len]
      exact h
    · rintro i σ' H2 hi ⟨c3, rfl, sm⟩
      have hlt : i < cs.length := by omega
      have hc : cs[i]? = some cs[i] := List.getElem?_eq_getElem hlt
      have hcm := List.getElem_mem hlt
      generalize cs[i] = c at hc hcm
      have at1 := prefs_at hc
      obtain ⟨hr3, hr4⟩ := hR.same sm
      have hcp := hr4 c hcm
      have Z2 := Z.same sm
      have ho2 := Z2.ho
      obtain ⟨dx3, w3, d3, f3, fs3, hs3⟩ := Z2.st.ho
      have sl20 := B.sl c hcm
      have hn := B.num i c hc
      have hgo := rowL_getO B.bs hcm
      rw [hn] at hgo
      dsimp! only [hr3, at1, hcp, ho2, hs3, List.length_map, T.cl_Store, T.no_Store_room, T.no_Store_entries, T.no_Store_words, T.no_Store__places, T.no_Store__free, T.no_Store__fresh, stF_room, stF_entries, stF_words, stF_places, stF_free, stF_fresh, stF_mused, stF_mexists, stF_mnumbers, stF_mfree, stF_malloc, stF_msize, stF_mkind, stF_mskind, stF_mget, stF_mput, stF_mslots, stF_mdrop, stF_mclose, stF_msnap, stF_mrest, stF_mexch, stF_len, stF_pf, stF_pd, stF_pl]
      refine ⟨s, rm, en, rowL cs, F1, _, c.o, rfl, Z2.st, hgo, ?_⟩
      dsimp! only [hr3, at1, hcp, atI_0, ho2, hs3, List.length_map, T.cl_Store, T.no_Store_room, T.no_Store_entries, T.no_Store_words, T.no_Store__places, T.no_Store__free, T.no_Store__fresh, stF_room, stF_entries, stF_words, stF_places, stF_free, stF_fresh, stF_mused, stF_mexists, stF_mnumbers, stF_mfree, stF_malloc, stF_msize, stF_mkind, stF_mskind, stF_mget, stF_mput, stF_mslots, stF_mdrop, stF_mclose, stF_msnap, stF_mrest, stF_mexch, stF_len, stF_pf, stF_pd, stF_pl]
      refine ⟨s, rm, en, rowL cs, F1, _, c.o, rfl, Z2.st, hgo, fun p3 hp3 => ?_⟩
      have sm4 := same_trans sm (same_new (o := HO.lst (c.o.sl.map V.int)) hp3)
      have g3 : upd H2 p3 (HO.lst (c.o.sl.map V.int)) p3 = some (.lst (c.o.sl.map V.int)) := upd_same
      generalize upd H2 p3 (HO.lst (c.o.sl.map V.int)) = H3 at sm4 g3 ⊢
      obtain ⟨hr5, hr6⟩ := hR.same sm4
      have hcp3 := hr6 c hcm
      simp! only [hr5, at1, hcp3]
      have ec : cutV (V.int c.o.kind :: List.map V.int c.o.sl) (some 1) none = c.o.sl.map V.int := cutV_from (xs := V.int c.o.kind :: List.map V.int c.o.sl) (c := 1)
      rw [ec]
      intro l hl
      refine ⟨p3, l, c.o.sl, rfl, same_new hl _ _ g3, upd_same, by omega, true, rfl, ?_⟩
      rw [if_neg (by decide)]
      exact same_trans sm4 (same_new hl)
    · rintro σ' H2 ⟨c3, rfl, sm⟩
      obtain ⟨hr3, hr4⟩ := hR.same sm
      simp! only [hr3, prefs_len]
      refine lc_rngI cs.length (fun _ => true) (fun i y => y = .int (i : Int)) (fun R h => ?_) (by omega) (fun j H4 R _ _ h => h) (fun j H4 R hj _ sm h => ?_) (fun D ys hD hy => ?_)
      · simp! only [hr3, prefs_len]
        exact h
      · simp! only [rIsL]
        exact h _ rfl
      · have ey : ys = ((List.range cs.length).map fun (i : Nat) => (i : Int)).map V.int := by
          have e := hy.map
          rw [List.filter_eq_self.mpr (fun _ _ => rfl)] at e
          rw [e, List.map_map]
          rfl
        subst ey
        have sm2 := same_trans sm (same_new (o := HO.lst (((List.range cs.length).map fun (i : Nat) => (i : Int)).map V.int)) hD)
        have gD : upd H2 D (HO.lst (((List.range cs.length).map fun (i : Nat) => (i : Int)).map V.int)) D = some (.lst (((List.range cs.length).map fun (i : Nat) => (i : Int)).map V.int)) := upd_same
        generalize upd H2 D (HO.lst (((List.range cs.length).map fun (i : Nat) => (i : Int)).map V.int)) = H3 at sm2 gD ⊢
        have Z2 := Z.same sm2
        have ho2 := Z2.ho
        obtain ⟨dx3, w3, d3, f3, fs3, hs3⟩ := Z2.st.ho
        dsimp! only [ho2, hs3, T.cl_Store, T.no_Store_room, T.no_Store_entries, T.no_Store_words, T.no_Store__places, T.no_Store__free, T.no_Store__fresh, stF_room, stF_entries, stF_words, stF_places, stF_free, stF_fresh, stF_mused, stF_mexists, stF_mnumbers, stF_mfree, stF_malloc, stF_msize, stF_mkind, stF_mskind, stF_mget, stF_mput, stF_mslots, stF_mdrop, stF_mclose, stF_msnap, stF_mrest, stF_mexch, stF_len, stF_pf, stF_pd, stF_pl]
        refine ⟨s, rm, en, rowL cs, F1, rfl, Z2.st, fun zs p hz1 hz2 hp => ?_⟩
        have eq : zs = (List.range cs.length).map fun (i : Nat) => (i : Int) := by
          refine sorted_eq ?_ hz2 (range_sorted _)
          rw [← B.nums, ← nums_rowL B.al]
          exact hz1
        subst eq
        have sm5 := same_new (o := HO.lst (((List.range cs.length).map fun (i : Nat) => (i : Int)).map V.int)) hp
        refine ⟨p, D, _, rfl, upd_same, sm5 _ _ gD, by rw [List.length_map, List.length_range]; omega, true, rfl, ?_⟩
        rw [if_pos rfl]
        have sm6 := same_trans sm2 sm5
        generalize upd H3 p (HO.lst (((List.range cs.length).map fun (i : Nat) => (i : Int)).map V.int)) = H4 at sm6 ⊢
        have Z4 := Z0.same sm6
        obtain ⟨dx4, s4, pr4, rt4, hl4, mo4, F4, Z5⟩ := id Z4
        have ho4 := Z5.ho
        refine ⟨_, _, ho4, spF_mall, a, rm, en, rowL cs, al, mom, na, nc, roots, held, F, rfl, Z4, by omega, fun H5 p3 sm7 hp3 g3 => ?_⟩
        have hq3 := sm7 _ _ (sm6 _ _ hq)
        refine ⟨by decide, fun p5 h5 => ?_⟩
        have hq5 := same_new (o := HO.lst [V.int 0]) h5 _ _ hq3
        refine ⟨_, hq5, by rw [List.length_map, List.length_append]; omega, fun p6 h6 => ?_⟩
        have sm8 := same_trans (same_new (o := HO.lst [V.int 0]) h5) (same_new (o := HO.lst (V.int 0 :: (roots ++ held).map V.int)) h6)
        exact ⟨p3, p6, 0 :: (roots ++ held), rfl, sm8 _ _ g3, upd_same, by rw [List.length_cons, List.length_append]; omega, k _ (same_trans sm6 (same_trans sm7 sm8))⟩
end

def sp_law (K : PySem.W.Frag) : Sp := fun vs H Q _ => ∃ (a : Addr) (ns : List Int), vs = [.ref a] ∧ SqL K H a (ns.map V.int) ∧ ns.length ≤ 63 ∧ ∀ H', Q (.bl true) H'
theorem sp_law_len {K vs H Q E} (h : sp_law K vs H Q E) : vs.length = (["script"] : List Str).length := by
  obtain ⟨_, _, rfl, _⟩ := h
  rfl
section
variable {P : Program} {w : World} {K : PySem.W.Frag} {mg : Str → Option Value} {base : Heap} {A : Ad}
theorem ok_law (T : Txt K mg A) : FnOk P w K mg base CX0 8 A.f_law A.d_law ["script"] (sp_law K) := by
  refine Fun.ok T.F_law sc_law (fun vs H Q E h => ?_) (fun cdv Ar outer s H vs Q E hr h => ?_)
  · exact sp_law_len h
  · have hu := hu_of hr
    refine ⟨_, (pss_cons (ps_setLc (i := 1) (own := [("cell", 10)]) (g := gName 10) rfl sc_law.nd rfl rfl (sw_true rfl rfl rfl (by decide +kernel)) (pi_list (pv 0)) (blkOk_by (own := [("cell", 10)]) (N := ["script", "cells", "rows", "words", "space", "due", "told", "number", "k", "x", "cell"]) (sc := defScope s_law) (by decide +kernel)) (fun _ _ _ _ _ => pg_name (i := 10) sc_law.nd rfl (Or.inl rfl)) (fun _ _ _ _ _ => pts_nil) (fun _ _ _ _ _ => (pe_callTy call_intI (by rfl) T.z_int (by decide +kernel) (pa_cons (pv 10) pa_nil))))
    (pss_cons (ps_while PassesOwn.never (pt_cmpR op_lt (pe_callB call_lenM (by rfl) T.z_len PySem.boot_len (pa_cons (pv 1) pa_nil)) pe_int (nomark _)) (pss_one (ps_expr (pe_bmM PySem.F.slot_list_append PySem.F.type_list_append mt_append (pv 1) (pa_cons pe_int pa_nil)))))
    (pss_cons (ps_asg (pe_call (ok__law_rows T) (hr.mono (by decide)) (by rfl) T.g__law_rows T.k__law_rows T.b__law_rows .nil pass0 (pa_cons (pe_call (ok__law_sizes T) (hr.mono (by decide)) (by rfl) T.g__law_sizes T.k__law_sizes T.b__law_sizes .nil pass0 (pa_cons (pe_call (ok__law_number T) (hr.mono (by decide)) (by rfl) T.g__law_number T.k__law_number T.b__law_number .nil pass0 (pa_cons (pe_ix ix_lstM (pv 1) pe_int (fun _ _ => rfl)) (pa_cons pe_int pa_nil))) pa_nil)) (pa_cons (pe_ix ix_lstM (pv 1) pe_int (fun _ _ => rfl)) pa_nil))) (pg_name (i := 2) sc_law.nd rfl (Or.inl rfl)))
    (pss_cons (ps_asg (pe_call (ok__law_roots T) (hr.mono (by decide)) (by rfl) T.g__law_roots T.k__law_roots T.b__law_roots .nil pass0 (pa_cons (pe_callB call_lenM (by rfl) T.z_len PySem.boot_len (pa_cons (pv 2) pa_nil)) (pa_cons (pe_ix ix_lstM (pv 1) pe_int (fun _ _ => rfl)) pa_nil))) (pg_name (i := 3) sc_law.nd rfl (Or.inl rfl)))
    (pss_cons (ps_asg (pe_call (ok__law_space T) (hr.mono (by decide)) (by rfl) T.g__law_space T.k__law_space T.b__law_space .nil pass0 (pa_cons (pv 2) (pa_cons (pv 3) pa_nil))) (pg_name (i := 4) sc_law.nd rfl (Or.inl rfl)))
    (pss_cons (ps_if (pt_cmpR op_isN (pv 4) pe_non (nomark _)) (pss_one (ps_ret pe_bl)) pss_nil)
    (pss_cons (ps_asg (pe_call (ok__law_best T) (hr.mono (by decide)) (by rfl) T.g__law_best T.k__law_best T.b__law_best .nil pass0 (pa_cons (pv 2) (pa_cons (pv 3) pa_nil))) (pg_name (i := 5) sc_law.nd rfl (Or.inr rfl)))
    (pss_cons (ps_asg (pe_call (ok_paths T) (hr.mono (by decide)) (by rfl) T.g_paths T.k_paths T.b_paths .nil pass0 (pa_cons (pv 4) pa_nil)) (pg_name (i := 6) sc_law.nd rfl (Or.inl rfl)))
    (pss_cons (ps_if (PW.pt (pw_or (pt_not (pt_val (pe_callB call_isD (by rfl) T.z_isinstance (by decide +kernel) (pa_cons (pv 6) (pa_cons (pe_bltn (v := .ty "dict") (by rfl) T.z_dict (by decide +kernel) rfl) pa_nil))))) (pw_or1 (pt_not (pt_val (pe_call (ok__law_same T) (hr.mono (by decide)) (by rfl) T.g__law_same T.k__law_same T.b__law_same .nil pass0 (pa_cons (pe_callB (call_sortD rfl) (by rfl) T.z_sorted (by decide +kernel) (pa_cons (pv 6) pa_nil)) (pa_cons (pe_callB (call_sortD rfl) (by rfl) T.z_sorted (by decide +kernel) (pa_cons (pe_frz (pv 5)) pa_nil)) pa_nil)))))))) (pss_one (ps_ret pe_bl)) pss_nil)
    (pss_cons (ps_for PassesOwn.never rfl (pi_keys (pe_frz (pv 5))) (pg_name (i := 7) sc_law.nd rfl (Or.inl rfl))
      (pss_one (ps_if (PW.pt (pw_or (pt_not (pt_val (pe_call (ok__law_path_is T) (hr.mono (by decide)) (by rfl) T.g__law_path_is T.k__law_path_is T.b__law_path_is .nil pass0 (pa_cons (pe_ix (ix_dictM hu) (pv 6) (pv 7) (fun _ _ => rfl)) (pa_cons (pe_ix (ix_dictM hu) (pv 5) (pv 7) (fun _ _ => rfl)) pa_nil))))) (pw_or1 (pt_not (pt_val (pe_call (ok__law_told T) (hr.mono (by decide)) (by rfl) T.g__law_told T.k__law_told T.b__law_told .nil pass0 (pa_cons (pv 4) (pa_cons (pv 2) (pa_cons (pv 3) (pa_cons (pe_ix (ix_dictM hu) (pv 5) (pv 7) (fun _ _ => rfl)) pa_nil)))))))))) (pss_one (ps_ret pe_bl)) pss_nil)))
    (pss_cons (ps_if (pt_not (pt_val (pe_call (ok__law_same T) (hr.mono (by decide)) (by rfl) T.g__law_same T.k__law_same T.b__law_same .nil pass0 (pa_cons (pe_call (ok_garbage T) (hr.mono (by decide)) (by rfl) T.g_garbage T.k_garbage T.b_garbage .nil pass0 (pa_cons (pv 4) pa_nil)) (pa_cons (pe_lc (own := [("k", 8)]) (g := gName 8) rfl sc_law.nd (pi_range1 (by rfl) T.z_range (pa_cons (pe_callB call_lenM (by rfl) T.z_len PySem.boot_len (pa_cons (pv 2) pa_nil)) pa_nil)) (blkOk_by (own := [("k", 8)]) (N := ["script", "cells", "rows", "words", "space", "due", "told", "number", "k", "x", "cell"]) (sc := defScope s_law) (by decide +kernel)) (fun _ _ _ _ _ => pg_name (i := 8) sc_law.nd rfl (Or.inl rfl)) (fun _ _ _ _ _ => (pts_one (pt_cmpR (op_dnotinM hu) (pv 8) (pv 5) (by rfl)))) (fun _ _ _ _ _ => (pv 8))) pa_nil))))) (pss_one (ps_ret pe_bl)) pss_nil)
    (pss_cons (ps_for PassesOwn.never rfl (pi_range2 (by rfl) T.z_range (pa_cons pe_int (pa_cons (pe_callB call_lenM (by rfl) T.z_len PySem.boot_len (pa_cons (pv 1) pa_nil)) pa_nil))) (pg_name (i := 8) sc_law.nd rfl (Or.inl rfl))
      (pss_cons (ps_asg (pe_call (ok__law_number T) (hr.mono (by decide)) (by rfl) T.g__law_number T.k__law_number T.b__law_number .nil pass0 (pa_cons (pe_ix ix_lstM (pv 1) (pv 8) (fun _ _ => rfl)) (pa_cons (pv 8) pa_nil))) (pg_name (i := 9) sc_law.nd rfl (Or.inl rfl)))
    (pss_cons (ps_if (pt_not (pt_val (pe_call (ok__law_told T) (hr.mono (by decide)) (by rfl) T.g__law_told T.k__law_told T.b__law_told .nil pass0 (pa_cons (pv 4) (pa_cons (pv 2) (pa_cons (pv 3) (pa_cons (pe_call (ok__law_drawn T) (hr.mono (by decide)) (by rfl) T.g__law_drawn T.k__law_drawn T.b__law_drawn .nil pass0 (pa_cons (pv 9) (pa_cons (pv 2) (pa_cons (pv 3) pa_nil)))) pa_nil))))))) (pss_one (ps_ret pe_bl)) pss_nil)
    (pss_one (ps_if (pt_not (pt_val (pe_call (ok__law_told T) (hr.mono (by decide)) (by rfl) T.g__law_told T.k__law_told T.b__law_told .nil pass0 (pa_cons (pv 4) (pa_cons (pv 2) (pa_cons (pv 3) (pa_cons (pe_call (ok__law_drawn T) (hr.mono (by decide)) (by rfl) T.g__law_drawn T.k__law_drawn T.b__law_drawn .nil pass0 (pa_cons (pe_op op_fdiv (pv 9) pe_int) (pa_cons (pv 2) (pa_cons (pv 3) pa_nil)))) pa_nil))))))) (pss_one (ps_ret pe_bl)) pss_nil)))))
    (pss_cons (ps_if (pt_cmpR op_notN (pe_call (ok_word_at T) (hr.mono (by decide)) (by rfl) T.g_word_at T.k_word_at T.b_word_at .nil pass0 (pa_cons (pv 4) (pa_cons (pe_tup pa_nil) pa_nil))) pe_non (nomark _)) (pss_one (ps_ret pe_bl)) pss_nil)
    (pss_one (ps_ret (pe_call (ok__law_kept T) (hr.mono (by decide)) (by rfl) T.g__law_kept T.k__law_kept T.b__law_kept .nil pass0 (pa_cons (pv 4) (pa_cons (pv 2) (pa_cons (pv 3) pa_nil))))))))))))))))))), ?_⟩
    obtain ⟨a, ns, rfl, ha, hlen, k⟩ := h
    have sz : (300000 : Nat) ≤ sizeLine := by decide
    simp! only [rIsL]
    refine lc_ints (a := a) (ns := ns) (fun z => z) (fun R h => ⟨_, rfl, h⟩) ha (by show 10 < 11; decide) (by omega) (fun σ' H' z R h1 h2 => ⟨_, h1, z, rfl, h2⟩) (fun pc hpc => ?_)
    have h0 : upd H pc (HO.lst (List.map (fun z => V.int z) ns)) pc = some (.lst (ns.map V.int)) := upd_same
    generalize upd H pc (HO.lst (List.map (fun z => V.int z) ns)) = H0 at h0 ⊢
    refine ⟨fun m σ2 H2 => ∃ ms : List Int, σ2 = [some (.ref a), some (.ref pc), none, none, none, none, none, none, none, none, none] ∧ ms.length ≤ 63 ∧ H2 pc = some (.lst (ms.map V.int)) ∧ m = 3 - ms.length, ⟨_, ns, rfl, hlen, h0, rfl⟩, ?_⟩
    rintro m σ2 H2 ⟨ms, rfl, hml, h2, rfl⟩
    simp! only [h2, List.length_map]
    refine ite2 (fun c => ?_) (fun c => ?_)
    · refine ⟨fun σ' H' => ∃ ms2 : List Int, σ' = [some (.ref a), some (.ref pc), none, none, none, none, none, none, none, none, none] ∧ ms2.length = ms.length + 1 ∧ H' pc = some (.lst (ms2.map V.int)), ?_, by omega, ms ++ [7], rfl, ?_, ?_⟩
      · rintro σ' H' ⟨ms2, rfl, hl, h⟩
        exact ⟨3 - ms2.length, by omega, rfl, ms2, by omega, h, rfl⟩
      · rw [List.length_append]
        rfl
      · rw [upd_same, List.map_append]
        rfl
    · have m3 : 3 ≤ ms.length := by omega
      have a0 : atI (ms.map V.int) 0 = some (.int ms[0]) := atI_nat (j := 0) (by rw [List.getElem?_map, List.getElem?_eq_getElem (by omega)]; rfl)
      have a1 : atI (ms.map V.int) 1 = some (.int ms[1]) := atI_nat (j := 1) (by rw [List.getElem?_map, List.getElem?_eq_getElem (by omega)]; rfl)
      have a2 : atI (ms.map V.int) 2 = some (.int ms[2]) := atI_nat (j := 2) (by rw [List.getElem?_map, List.getElem?_eq_getElem (by omega)]; rfl)
      simp! only [h2, a0, List.length_map]
      refine ⟨_, _, rfl, fun z => ?_⟩
      refine ⟨z, rfl, fun H3 q ns2 sm3 hq gq nl nn => ?_⟩
      have h3 := sm3 _ _ h2
      simp! only [h3, a1]
      refine ⟨q, ns2, _, rfl, gq, by omega, nn, fun H4 r cs sm4 hr4 gr one B hWd => ?_⟩
      have h4 := sm4 _ _ h3
      simp! only [gr, h4, a2, prefs_len]
      refine ⟨_, _, rfl, by omega, fun H5 q2 ws sm5 hq2 gq2 w1 w2 hW => ?_⟩
      have h5 := sm5 _ _ h4
      have gr5 := sm5 _ _ gr
      have one5 : ∀ c ∈ cs, H5 c.p = some (.lst ((c.o.kind :: c.o.sl).map V.int)) := fun c hc => sm5 _ _ (one c hc)
      refine ⟨r, q2, cs, ws, rfl, gr5, one5, B, gq2, w1, w2, fun H6 sp na nc roots held ew hr6 Z6 => ?_⟩
      simp! only [rIsL]
      subst ew
      have bl := B.len
      have hR6 : RowsAt H6 r cs := ⟨Z6.get gr5, fun c hc => Z6.get (one5 c hc)⟩
      have gq6 := Z6.get gq2
      have h6 := Z6.get h5
      have lw : roots.length + held.length ≤ 100 := by rw [List.length_append] at w2; omega
      refine ⟨r, q2, cs, _, rfl, hR6, B, hWd, gq6, hW, by omega, fun H7 d1 bsL sm7 hd1 gd1 pbL bestL => ?_⟩
      refine ⟨sp, 100000, 100000, cs, false, [], na, nc, roots, held, H5, rfl, Z6.same sm7, B, lw, fun H8 d2 bsP sm8 hd2 gd2 pbP bestP lenP => ?_⟩
      have gd1' := sm8 _ _ gd1
      have pbL' := pbL.same sm8
      have same := Best.same bestP (fun x hx => by
        obtain ⟨b, hb, rfl⟩ := List.mem_map.mp hx
        have := lenP b hb
        show b.p.length ≤ cs.length + 1
        omega) bestL
      have ndP := (bestP 0).nd
      have ndL := bestL.nd
      have keys : ∀ n, n ∈ bsP.map (·.n) ↔ n ∈ bsL.map (·.n) := fun n => by
        rw [← pbF_fst, ← pbF_fst, List.mem_map, List.mem_map]
        exact ⟨fun ⟨x, hx, e⟩ => ⟨x, (same x).mp hx, e⟩, fun ⟨x, hx, e⟩ => ⟨x, (same x).mpr hx, e⟩⟩
      rw [pbF_fst] at ndP ndL
      have sm68 := same_trans sm7 sm8
      have fewL : bsL.length ≤ cs.length := by
        have := nodup_few (N := cs.length) ndL fun n hn => by
          obtain ⟨b, hb, rfl⟩ := List.mem_map.mp hn
          exact (bestL.ld _ (List.mem_map.mpr ⟨b, hb, rfl⟩)).lt
        rw [List.length_map] at this
        exact this
      have mates : ∀ b ∈ bsL, ∃ b' ∈ bsP, b'.n = b.n ∧ b'.p = b.p := fun b hb => by
        obtain ⟨b', hb', e⟩ := List.mem_map.mp ((same (b.n, b.p)).mpr (List.mem_map.mpr ⟨b, hb, rfl⟩))
        exact ⟨b', hb', congrArg Prod.fst e, congrArg Prod.snd e⟩
      simp! only [gd2]
      refine ⟨bsP.map (·.n), pbD_keys, fun ys1 p1 hy1 hy2 hp1 => ?_⟩
      have smp1 := same_new (o := HO.lst (ys1.map V.int)) hp1
      have gd1a := smp1 _ _ gd1'
      have gp1 : upd H8 p1 (HO.lst (ys1.map V.int)) p1 = some (.lst (ys1.map V.int)) := upd_same
      generalize upd H8 p1 (HO.lst (ys1.map V.int)) = H9 at smp1 gd1a gp1 ⊢
      refine ⟨_, rfl, d1, rfl, .inr ⟨d1, rfl, ?_⟩⟩
      rw [gd1a]
      dsimp only
      refine ⟨bsL.map (·.n), pbD_keys, fun ys2 p2 hy3 hy4 hp2 => ?_⟩
      have ey : ys1 = ys2 := sorted_eq (hy1.trans (((List.perm_ext_iff_of_nodup ndP ndL).mpr keys).trans hy3.symm)) hy2 hy4
      subst ey
      have ly := hy3.length_eq
      rw [List.length_map] at ly
      have smp2 := same_new (o := HO.lst (ys1.map V.int)) hp2
      refine ⟨p1, p2, ys1, rfl, smp2 _ _ gp1, upd_same, by omega, true, rfl, ?_⟩
      rw [if_neg (by decide)]
      have sm69 := same_trans sm68 (same_trans smp1 smp2)
      have gd1b := smp2 _ _ gd1a
      have gd2b := smp2 _ _ (smp1 _ _ gd2)
      have pbLb := pbL'.same (same_trans smp1 smp2)
      have pbPb := pbP.same (same_trans smp1 smp2)
      generalize upd H9 p2 (HO.lst (ys1.map V.int)) = HA at sm69 gd1b gd2b pbLb pbPb ⊢
      refine for_frz rfl gd1b trivial fun od => ?_
      have sm6 : Same H6 (upd HA d1 (.frz od (.dK (pbD bsL)))) := same_upd sm69 hd1
      have gd1c : upd HA d1 (.frz od (.dK (pbD bsL))) d1 = some (.frz od (.dK (pbD bsL))) := upd_same
      have d12 : d2 ≠ d1 := fun e => by
        have := sm8 _ _ gd1
        rw [← e] at gd1
        rw [hd2] at gd1
        cases gd1
      have gd2c : upd HA d1 (.frz od (.dK (pbD bsL))) d2 = some (.dK (pbD bsP)) := by
        rw [upd_ne d12]
        exact gd2b
      have pbLc : PbAt (upd HA d1 (.frz od (.dK (pbD bsL)))) bsL := fun b hb => keepO (pbLb b hb) gd1b (fun z => by cases z)
      have pbPc : PbAt (upd HA d1 (.frz od (.dK (pbD bsL)))) bsP := fun b hb => keepO (pbPb b hb) gd1b (fun z => by cases z)
      generalize upd HA d1 (.frz od (.dK (pbD bsL))) = HB at sm6 gd1c gd2c pbLc pbPc ⊢
      clear pbLb pbPb gd1b gd2b gd1a gp1 pbL' pbL pbP gd1' sm68
      refine for_keysF (pbD bsL) gd1c (fun R h => h) (fun i σ' H' => ∃ c7 : Option V, σ' = [some (.ref a), some (.ref pc), some (.ref r), some (.ref q2), some (.ref sp), some (.ref d1), some (.ref d2), c7, none, none, none] ∧ Same HB H') ⟨none, rfl, fun _ _ h => h⟩ ?_ ?_ ?_
      · rintro i σ' H' ⟨c7, rfl, sm⟩
        exact sm _ _ gd1c
      · rintro i kk v σ' H' hkv ⟨c7, rfl, sm⟩
        unfold pbD at hkv
        rw [List.getElem?_map] at hkv
        obtain ⟨b, hb, e⟩ := Option.map_eq_some_iff.mp hkv
        cases e
        have hbm := List.mem_of_getElem? hb
        obtain ⟨b', hbm', en, ep⟩ := mates b hbm
        have hget := pbD_get ndL hbm
        have hget' := pbD_get ndP hbm'
        rw [en] at hget'
        have gd1d := sm _ _ gd1c
        have gd2d := sm _ _ gd2c
        have lp := lenP b' hbm'
        show tIfS _ _ _ _ ([some (.ref a), some (.ref pc), some (.ref r), some (.ref q2), some (.ref sp), some (.ref d1), some (.ref d2), some (.int b.n), none, none, none]) H'
        simp! only [gd1d, gd2d, hget, hget']
        refine ⟨b'.a, b.a, b.p, rfl, by rw [← ep]; exact sm _ _ (pbPc b' hbm'), sm _ _ (pbLc b hbm), by rw [← ep]; omega, fun H2 sm2 => ⟨true, rfl, ite2 (fun h => absurd h (by decide)) (fun _ => ?_)⟩⟩
        rw [sm2 _ _ gd1d]
        dsimp only
        have smx := same_trans sm6 (same_trans sm sm2)
        exact ⟨_, hget, sp, r, q2, b.a, 100000, 100000, cs, false, [], na, nc, roots, held, H5, b.p, rfl, Z6.same smx, B, lw, hR6.same smx, hWd, smx _ _ gq6, hW, sm2 _ _ (sm _ _ (pbLc b hbm)), by rw [← ep]; omega, fun H3 sm3 => ⟨true, rfl, ite2 (fun h => absurd h (by decide)) (fun _ => same_trans sm (same_trans sm2 sm3))⟩⟩
      · rintro σ' H' ⟨c7, rfl, sm⟩
        simp! only [rIsL]
        have smy := same_trans sm6 sm
        refine ⟨sp, 100000, 100000, rowL cs, false, [], na, nc, roots, held, H5, rfl, Z6.same smy, by omega, fun H2 p zs sm2 hp gp zs1 zs2 zs3 => ?_⟩
        have gd1e := sm2 _ _ (sm _ _ gd1c)
        have smz := same_trans smy sm2
        obtain ⟨hr1, hr2⟩ := hR6.same smz
        have inK : ∀ n, n ∈ bsL.map (·.n) ↔ Rch (rowL cs) (0 :: (roots ++ held)) n := fun n => by
          constructor
          · intro h
            obtain ⟨b, hb, rfl⟩ := List.mem_map.mp h
            exact leads_rch B b.p.length b.p b.n (Nat.le_refl _) (bestL.ld (b.n, b.p) (List.mem_map.mpr ⟨b, hb, rfl⟩))
          · intro h
            obtain ⟨p, hp⟩ := rch_leads B h
            obtain ⟨x, hx, e, _⟩ := (bestP p.length).all p n (Nat.le_refl _) hp
            rw [← keys n]
            obtain ⟨b, hb, rfl⟩ := List.mem_map.mp hx
            exact List.mem_map.mpr ⟨b, hb, e⟩
        refine lc_rngI cs.length (fun (i : Nat) => !decide ((i : Int) ∈ bsL.map (·.n))) (fun i y => y = .int (i : Int)) (fun R h => ?_) (by omega) (fun j H4 R hj smj h => ?_) (fun j H4 R hj _ smj h => ?_) (fun D ys hD hy => ?_)
        · simp! only [hr1, prefs_len]
          exact h
        · have gj := smj _ _ gd1e
          simp! only [gj]
          rw [pbD_some ndL]
          exact h
        · simp! only [rIsL]
          exact h _ rfl
        · have ey2 : ys = (((List.range cs.length).filter fun (i : Nat) => !decide ((i : Int) ∈ bsL.map (·.n))).map fun (i : Nat) => (i : Int)).map V.int := by
            have e := hy.map
            rw [e, List.map_map]
            rfl
          have es : (((List.range cs.length).filter fun (i : Nat) => !decide ((i : Int) ∈ bsL.map (·.n))).map fun (i : Nat) => (i : Int)) = zs := by
            have so : (((List.range cs.length).filter fun (i : Nat) => !decide ((i : Int) ∈ bsL.map (·.n))).map fun (i : Nat) => (i : Int)).Pairwise (· < ·) :=
              List.Pairwise.map _ (fun a b (h : a < b) => show (a : Int) < (b : Int) by omega) (List.pairwise_lt_range.filter _)
            refine sorted_eq ((List.perm_ext_iff_of_nodup (so.imp fun h => Int.ne_of_lt h) zs2).mpr fun n => ?_) (so.imp fun h => Int.le_of_lt h) zs1
            rw [zs3, B.inN, ← inK]
            constructor
            · intro h
              obtain ⟨i, hi, rfl⟩ := List.mem_map.mp h
              obtain ⟨h1, h2⟩ := List.mem_filter.mp hi
              have := List.mem_range.mp h1
              refine ⟨⟨by omega, by omega⟩, fun z => ?_⟩
              rw [decide_eq_true z] at h2
              cases h2
            · rintro ⟨⟨h1, h2⟩, h3⟩
              refine List.mem_map.mpr ⟨n.toNat, List.mem_filter.mpr ⟨List.mem_range.mpr (by omega), ?_⟩, by omega⟩
              rw [show ((n.toNat : Nat) : Int) = n by omega, decide_eq_false h3]
              rfl
          rw [es] at ey2
          subst ey2
          have zl : zs.length ≤ 60 := by
            rw [← es, List.length_map]
            refine Nat.le_trans (List.length_filter_le ..) ?_
            rw [List.length_range]
            exact bl
          have smD := same_new (o := HO.lst (zs.map V.int)) hD
          refine ⟨p, D, zs, rfl, smD _ _ gp, upd_same, by omega, true, rfl, ite2 (fun h => absurd h (by decide)) (fun _ => ?_)⟩
          have sm7' := same_trans smz smD
          generalize upd H2 D (HO.lst (zs.map V.int)) = HC at sm7' ⊢
          clear smD gd1e
          refine for_rng2 3 (ms.length : Int) (fun R h => ?_) (by omega) (by omega) (by omega) (by omega) (fun i σ' H' => ∃ c8 c9 : Option V, σ' = [some (.ref a), some (.ref pc), some (.ref r), some (.ref q2), some (.ref sp), some (.ref d1), some (.ref d2), c7, c8, c9, none] ∧ Same H6 H') ⟨none, none, rfl, sm7'⟩ ?_ ?_
          · have g := sm7' _ _ h6
            simp! only [g, List.length_map]
            exact h
          · rintro i σ' H' hi ⟨c8, c9, rfl, smi⟩
            have g := smi _ _ h6
            have hlt : 3 + i < ms.length := by omega
            have at3 : atI (ms.map V.int) (3 + (i : Int)) = some (.int ms[3 + i]) := by
              rw [show (3 : Int) + (i : Int) = ((3 + i : Nat) : Int) by omega]
              exact atI_nat (by rw [List.getElem?_map, List.getElem?_eq_getElem hlt]; rfl)
            simp! only [g]
            refine ⟨_, at3, _, _, rfl, fun x => ?_⟩
            refine ⟨x, r, q2, cs, _, rfl, hR6.same smi, B, hWd, smi _ _ gq6, hW, by omega, fun H3 t ps sm3 ht gt pl => ?_⟩
            have sm4' := same_trans smi sm3
            refine ⟨sp, r, q2, t, 100000, 100000, cs, false, [], na, nc, roots, held, H5, ps, rfl, Z6.same sm4', B, lw, hR6.same sm4', hWd, sm4' _ _ gq6, hW, gt, by omega, fun H4 sm5' => ⟨true, rfl, ite2 (fun h => absurd h (by decide)) (fun _ => ?_)⟩⟩
            have sm6' := same_trans sm4' sm5'
            refine ⟨x, rfl, ⟨by decide, by decide⟩, x / 1000003, r, q2, cs, _, rfl, hR6.same sm6', B, hWd, sm6' _ _ gq6, hW, by omega, fun H3 t ps sm7 ht gt pl => ?_⟩
            have sm8' := same_trans sm6' sm7
            exact ⟨sp, r, q2, t, 100000, 100000, cs, false, [], na, nc, roots, held, H5, ps, rfl, Z6.same sm8', B, lw, hR6.same sm8', hWd, sm8' _ _ gq6, hW, gt, by omega, fun H4 sm9 => ⟨true, rfl, ite2 (fun h => absurd h (by decide)) (fun _ => same_trans sm8' sm9)⟩⟩
          · rintro σ' H' ⟨c8, c9, rfl, smi⟩
            simp! only [rIsL]
            refine ⟨Nat.zero_le _, fun t ht => ?_⟩
            have smt := same_trans smi (same_new (o := HO.tup []) ht)
            refine ⟨sp, t, 100000, 100000, cs, false, [], na, nc, roots, held, H5, [], rfl, Z6.same smt, B, lw, upd_same, Nat.zero_le _, fun H2 sm2 => ?_⟩
            have smu := same_trans smt sm2
            exact ite2 (fun h => absurd rfl h) (fun _ => ⟨sp, r, q2, 100000, 100000, cs, false, [], na, nc, roots, held, H5, rfl, Z6.same smu, B, lw, hR6.same smu, smu _ _ gq6, fun H3 _ => k H3⟩)
end

theorem all_mk {l : PySem.W.OpenLaw} {w : World} {K : PySem.W.Frag} {h : Heap} {mg : Str → Option Value} {fa : Addr} (X : K.In h) (G : h.Ns mainGlobals mg) (hfa : mg "law" = some (.ref fa))
    {f57 : Addr} {od57 an57 : Option Addr} {sl57 : Array (Option Value)} {oc57 kV57 dc57 pm57 cd57 ct57 : Value}
    {f56 : Addr} {od56 an56 : Option Addr} {sl56 : Array (Option Value)} {oc56 kV56 dc56 pm56 cd56 ct56 : Value}
    {f55 : Addr} {od55 an55 : Option Addr} {sl55 : Array (Option Value)} {oc55 kV55 dc55 pm55 cd55 ct55 : Value}
    {f54 : Addr} {od54 an54 : Option Addr} {sl54 : Array (Option Value)} {oc54 kV54 dc54 pm54 cd54 ct54 : Value}
    {f53 : Addr} {od53 an53 : Option Addr} {sl53 : Array (Option Value)} {oc53 kV53 dc53 pm53 cd53 ct53 : Value}
    {f52 : Addr} {od52 an52 : Option Addr} {sl52 : Array (Option Value)} {oc52 kV52 dc52 pm52 cd52 ct52 : Value}
    {f51 : Addr} {od51 an51 : Option Addr} {sl51 : Array (Option Value)} {oc51 kV51 dc51 pm51 cd51 ct51 : Value}
    {f50 : Addr} {od50 an50 : Option Addr} {sl50 : Array (Option Value)} {oc50 kV50 dc50 pm50 cd50 ct50 : Value}
    {f49 : Addr} {od49 an49 : Option Addr} {sl49 : Array (Option Value)} {oc49 kV49 dc49 pm49 cd49 ct49 : Value}
    {f48 : Addr} {od48 an48 : Option Addr} {sl48 : Array (Option Value)} {oc48 kV48 dc48 pm48 cd48 ct48 : Value}
    {f47 : Addr} {od47 an47 : Option Addr} {sl47 : Array (Option Value)} {oc47 kV47 dc47 pm47 cd47 ct47 : Value}
    {f46 : Addr} {od46 an46 : Option Addr} {sl46 : Array (Option Value)} {oc46 kV46 dc46 pm46 cd46 ct46 : Value}
    {f45 : Addr} {od45 an45 : Option Addr} {sl45 : Array (Option Value)} {oc45 kV45 dc45 pm45 cd45 ct45 : Value}
    {f44 : Addr} {od44 an44 : Option Addr} {sl44 : Array (Option Value)} {oc44 kV44 dc44 pm44 cd44 ct44 : Value}
    {f43 : Addr} {od43 an43 : Option Addr} {sl43 : Array (Option Value)} {oc43 kV43 dc43 pm43 cd43 ct43 : Value}
    {f42 : Addr} {od42 an42 : Option Addr} {sl42 : Array (Option Value)} {oc42 kV42 dc42 pm42 cd42 ct42 : Value}
    {f41 : Addr} {od41 an41 : Option Addr} {sl41 : Array (Option Value)} {oc41 kV41 dc41 pm41 cd41 ct41 : Value}
    {f40 : Addr} {od40 an40 : Option Addr} {sl40 : Array (Option Value)} {oc40 kV40 dc40 pm40 cd40 ct40 : Value}
    {f39 : Addr} {od39 an39 : Option Addr} {sl39 : Array (Option Value)} {oc39 kV39 dc39 pm39 cd39 ct39 : Value}
    {f38 : Addr} {od38 an38 : Option Addr} {sl38 : Array (Option Value)} {oc38 kV38 dc38 pm38 cd38 ct38 : Value}
    {f37 : Addr} {od37 an37 : Option Addr} {sl37 : Array (Option Value)} {oc37 kV37 dc37 pm37 cd37 ct37 : Value}
    {f36 : Addr} {od36 an36 : Option Addr} {sl36 : Array (Option Value)} {oc36 kV36 dc36 pm36 cd36 ct36 : Value}
    {f35 : Addr} {od35 an35 : Option Addr} {sl35 : Array (Option Value)} {oc35 kV35 dc35 pm35 cd35 ct35 : Value}
    {f34 : Addr} {od34 an34 : Option Addr} {sl34 : Array (Option Value)} {oc34 kV34 dc34 pm34 cd34 ct34 : Value}
    {f33 : Addr} {od33 an33 : Option Addr} {sl33 : Array (Option Value)} {oc33 kV33 dc33 pm33 cd33 ct33 : Value}
    {f32 : Addr} {od32 an32 : Option Addr} {sl32 : Array (Option Value)} {oc32 kV32 dc32 pm32 cd32 ct32 : Value}
    {f31 : Addr} {od31 an31 : Option Addr} {sl31 : Array (Option Value)} {oc31 kV31 dc31 pm31 cd31 ct31 : Value}
    {f30 : Addr} {od30 an30 : Option Addr} {sl30 : Array (Option Value)} {oc30 kV30 dc30 pm30 cd30 ct30 : Value}
    {f29 : Addr} {od29 an29 : Option Addr} {sl29 : Array (Option Value)} {oc29 kV29 dc29 pm29 cd29 ct29 : Value}
    {f28 : Addr} {od28 an28 : Option Addr} {sl28 : Array (Option Value)} {oc28 kV28 dc28 pm28 cd28 ct28 : Value}
    {f27 : Addr} {od27 an27 : Option Addr} {sl27 : Array (Option Value)} {oc27 kV27 dc27 pm27 cd27 ct27 : Value}
    {f26 : Addr} {od26 an26 : Option Addr} {sl26 : Array (Option Value)} {oc26 kV26 dc26 pm26 cd26 ct26 : Value}
    {f25 : Addr} {od25 an25 : Option Addr} {sl25 : Array (Option Value)} {oc25 kV25 dc25 pm25 cd25 ct25 : Value}
    {f24 : Addr} {od24 an24 : Option Addr} {sl24 : Array (Option Value)} {oc24 kV24 dc24 pm24 cd24 ct24 : Value}
    {f23 : Addr} {od23 an23 : Option Addr} {sl23 : Array (Option Value)} {oc23 kV23 dc23 pm23 cd23 ct23 : Value}
    {f22 : Addr} {od22 an22 : Option Addr} {sl22 : Array (Option Value)} {oc22 kV22 dc22 pm22 cd22 ct22 : Value}
    {f21 : Addr} {od21 an21 : Option Addr} {sl21 : Array (Option Value)} {oc21 kV21 dc21 pm21 cd21 ct21 : Value}
    {f20 : Addr} {od20 an20 : Option Addr} {sl20 : Array (Option Value)} {oc20 kV20 dc20 pm20 cd20 ct20 : Value}
    {f19 : Addr} {od19 an19 : Option Addr} {sl19 : Array (Option Value)} {oc19 kV19 dc19 pm19 cd19 ct19 : Value}
    {f18 : Addr} {od18 an18 : Option Addr} {sl18 : Array (Option Value)} {oc18 kV18 dc18 pm18 cd18 ct18 : Value}
    {f17 : Addr} {od17 an17 : Option Addr} {sl17 : Array (Option Value)} {oc17 kV17 dc17 pm17 cd17 ct17 : Value}
    {f16 : Addr} {od16 an16 : Option Addr} {sl16 : Array (Option Value)} {oc16 kV16 dc16 pm16 cd16 ct16 : Value}
    {f15 : Addr} {od15 an15 : Option Addr} {sl15 : Array (Option Value)} {oc15 kV15 dc15 pm15 cd15 ct15 : Value}
    {f14 : Addr} {od14 an14 : Option Addr} {sl14 : Array (Option Value)} {oc14 kV14 dc14 pm14 cd14 ct14 : Value}
    {f13 : Addr} {od13 an13 : Option Addr} {sl13 : Array (Option Value)} {oc13 kV13 dc13 pm13 cd13 ct13 : Value}
    {f12 : Addr} {od12 an12 : Option Addr} {sl12 : Array (Option Value)} {oc12 kV12 dc12 pm12 cd12 ct12 : Value}
    {f11 : Addr} {od11 an11 : Option Addr} {sl11 : Array (Option Value)} {oc11 kV11 dc11 pm11 cd11 ct11 : Value}
    {f10 : Addr} {od10 an10 : Option Addr} {sl10 : Array (Option Value)} {oc10 kV10 dc10 pm10 cd10 ct10 : Value}
    {f9 : Addr} {od9 an9 : Option Addr} {sl9 : Array (Option Value)} {oc9 kV9 dc9 pm9 cd9 ct9 : Value}
    {f8 : Addr} {od8 an8 : Option Addr} {sl8 : Array (Option Value)} {oc8 kV8 dc8 pm8 cd8 ct8 : Value}
    {f7 : Addr} {od7 an7 : Option Addr} {sl7 : Array (Option Value)} {oc7 kV7 dc7 pm7 cd7 ct7 : Value}
    {f6 : Addr} {od6 an6 : Option Addr} {sl6 : Array (Option Value)} {oc6 kV6 dc6 pm6 cd6 ct6 : Value}
    {f5 : Addr} {od5 an5 : Option Addr} {sl5 : Array (Option Value)} {oc5 kV5 dc5 pm5 cd5 ct5 : Value}
    {f4 : Addr} {od4 an4 : Option Addr} {sl4 : Array (Option Value)} {oc4 kV4 dc4 pm4 cd4 ct4 : Value}
    {f3 : Addr} {od3 an3 : Option Addr} {sl3 : Array (Option Value)} {oc3 kV3 dc3 pm3 cd3 ct3 : Value}
    {f2 : Addr} {od2 an2 : Option Addr} {sl2 : Array (Option Value)} {oc2 kV2 dc2 pm2 cd2 ct2 : Value}
    {f1 : Addr} {od1 an1 : Option Addr} {sl1 : Array (Option Value)} {oc1 kV1 dc1 pm1 cd1 ct1 : Value}
    {f0 : Addr} {od0 an0 : Option Addr} {sl0 : Array (Option Value)} {oc0 kV0 dc0 pm0 cd0 ct0 : Value}
    {C_SaggarError : Addr}
    {C_NoRoom : Addr}
    {C_NoNumber : Addr}
    {C_Store : Addr}
    {C_Space : Addr}
    {nm_NoRoom q_NoRoom : Str} {N_NoRoom : Addr} {bs_NoRoom : List Value} {sn_NoRoom : List Str} {sub_NoRoom : List Value} {ab_NoRoom : Bool} {col_NoRoom : Option Bool} {dd_NoRoom : Option Addr} {m0_NoRoom m1_NoRoom m2_NoRoom m3_NoRoom m5_NoRoom : Option Value}
    {nm_NoNumber q_NoNumber : Str} {N_NoNumber : Addr} {bs_NoNumber : List Value} {sn_NoNumber : List Str} {sub_NoNumber : List Value} {ab_NoNumber : Bool} {col_NoNumber : Option Bool} {dd_NoNumber : Option Addr} {m0_NoNumber m1_NoNumber m2_NoNumber m3_NoNumber m5_NoNumber : Option Value}
    {t_NIL : Tok}
    {t_HEADER : Tok}
    {t_ROOTS : Tok}
    (m_SaggarError : PySem.W.nsIn K mainGlobals "SaggarError" = some (some (.ref C_SaggarError)))
    (m_NoRoom : PySem.W.nsIn K mainGlobals "NoRoom" = some (some (.ref C_NoRoom)))
    (m_NoNumber : PySem.W.nsIn K mainGlobals "NoNumber" = some (some (.ref C_NoNumber)))
    (m_Store : PySem.W.nsIn K mainGlobals "Store" = some (some (.ref C_Store)))
    (m_Space : PySem.W.nsIn K mainGlobals "Space" = some (some (.ref C_Space)))
    (xl_NoRoom : K.lookup C_NoRoom = some (excClassObj nm_NoRoom q_NoRoom C_NoRoom N_NoRoom bs_NoRoom [.ref C_SaggarError, .type "ValueError", .type "Exception", .type "BaseException", .type "object"] true sn_NoRoom sub_NoRoom ab_NoRoom col_NoRoom dd_NoRoom m0_NoRoom m1_NoRoom m2_NoRoom m3_NoRoom m5_NoRoom "ValueError.__new__"))
    (sa_NoRoom : PySem.W.findIn K (.ref C_NoRoom) "__setattr__" = some (some (.builtin "object.__setattr__"))) (ga_NoRoom : PySem.W.findIn K (.ref C_NoRoom) "__getattribute__" = some (some (.builtin "BaseException.__getattribute__"))) (gg_NoRoom : PySem.W.findIn K (.ref C_NoRoom) "__getattr__" = some none) (ic_NoRoom : PySem.W.findIn K (.ref C_NoRoom) "__init__" = some (some (.ref f1))) (ti_NoRoom : PySem.W.typeIn K (.ref f1) = some (.type "function"))
    (kc_NoRoom : PySem.W.keepIn K (.ref C_NoRoom) = true) (ec_NoRoom : PySem.W.subIn K (.ref C_NoRoom) (.type "BaseException") = some true) (tc_NoRoom : PySem.W.typeIn K (.ref C_NoRoom) = some (.type "type")) (hc_NoRoom : PySem.W.hasDictIn K C_NoRoom = true)
    (ha_NoRoom : PySem.W.findIn K (.ref C_NoRoom) "__class__" = some (some (.builtin "object.__class__"))) (hn_NoRoom : PySem.W.specialIn K (.builtin "object.__class__") "__get__" = some (some (.builtin "getset_descriptor.__get__"))) (ht_NoRoom : PySem.W.takesIn K (.builtin "object.__class__") = some true) (hm_NoRoom : PySem.W.mroIn K C_NoRoom (.type "object") = some true)
    (no_NoRoom_need : PySem.W.findIn K (.ref C_NoRoom) "need" = some none)
    (ex_NoRoom_NoNumber : PySem.W.exmOne K (.ref C_NoRoom) (.ref C_NoNumber) = some false)
    (ex_NoRoom_NoRoom : PySem.W.exmOne K (.ref C_NoRoom) (.ref C_NoRoom) = some true)
    (xl_NoNumber : K.lookup C_NoNumber = some (excClassObj nm_NoNumber q_NoNumber C_NoNumber N_NoNumber bs_NoNumber [.ref C_SaggarError, .type "ValueError", .type "Exception", .type "BaseException", .type "object"] true sn_NoNumber sub_NoNumber ab_NoNumber col_NoNumber dd_NoNumber m0_NoNumber m1_NoNumber m2_NoNumber m3_NoNumber m5_NoNumber "ValueError.__new__"))
    (sa_NoNumber : PySem.W.findIn K (.ref C_NoNumber) "__setattr__" = some (some (.builtin "object.__setattr__"))) (ga_NoNumber : PySem.W.findIn K (.ref C_NoNumber) "__getattribute__" = some (some (.builtin "BaseException.__getattribute__"))) (gg_NoNumber : PySem.W.findIn K (.ref C_NoNumber) "__getattr__" = some none) (ic_NoNumber : PySem.W.findIn K (.ref C_NoNumber) "__init__" = some (some (.ref f2))) (ti_NoNumber : PySem.W.typeIn K (.ref f2) = some (.type "function"))
    (kc_NoNumber : PySem.W.keepIn K (.ref C_NoNumber) = true) (ec_NoNumber : PySem.W.subIn K (.ref C_NoNumber) (.type "BaseException") = some true) (tc_NoNumber : PySem.W.typeIn K (.ref C_NoNumber) = some (.type "type")) (hc_NoNumber : PySem.W.hasDictIn K C_NoNumber = true)
    (ha_NoNumber : PySem.W.findIn K (.ref C_NoNumber) "__class__" = some (some (.builtin "object.__class__"))) (hn_NoNumber : PySem.W.specialIn K (.builtin "object.__class__") "__get__" = some (some (.builtin "getset_descriptor.__get__"))) (ht_NoNumber : PySem.W.takesIn K (.builtin "object.__class__") = some true) (hm_NoNumber : PySem.W.mroIn K C_NoNumber (.type "object") = some true)
    (no_NoNumber_limit : PySem.W.findIn K (.ref C_NoNumber) "limit" = some none)
    (ex_NoNumber_NoNumber : PySem.W.exmOne K (.ref C_NoNumber) (.ref C_NoNumber) = some true)
    (ex_NoNumber_NoRoom : PySem.W.exmOne K (.ref C_NoNumber) (.ref C_NoRoom) = some false)
    (pg_Store : PySem.W.plainGet K C_Store Str.empty = true) (hd_Store : PySem.W.hasDictIn K C_Store = true) (po_Store : PySem.W.plainOver K C_Store = true) (sa_Store : PySem.W.findIn K (.ref C_Store) "__setattr__" = some (some (.builtin "object.__setattr__")))
    (mi_Store : PySem.W.makesIn K C_Store = true) (kc_Store : PySem.W.keepIn K (.ref C_Store) = true)
    (no_Store_room : PySem.W.findIn K (.ref C_Store) "room" = some none)
    (no_Store_entries : PySem.W.findIn K (.ref C_Store) "entries" = some none)
    (no_Store_words : PySem.W.findIn K (.ref C_Store) "words" = some none)
    (no_Store__places : PySem.W.findIn K (.ref C_Store) "_places" = some none)
    (no_Store__free : PySem.W.findIn K (.ref C_Store) "_free" = some none)
    (no_Store__fresh : PySem.W.findIn K (.ref C_Store) "_fresh" = some none)
    (pg_Space : PySem.W.plainGet K C_Space Str.empty = true) (hd_Space : PySem.W.hasDictIn K C_Space = true) (po_Space : PySem.W.plainOver K C_Space = true) (sa_Space : PySem.W.findIn K (.ref C_Space) "__setattr__" = some (some (.builtin "object.__setattr__")))
    (mi_Space : PySem.W.makesIn K C_Space = true) (kc_Space : PySem.W.keepIn K (.ref C_Space) = true)
    (no_Space_store : PySem.W.findIn K (.ref C_Space) "store" = some none)
    (no_Space_always : PySem.W.findIn K (.ref C_Space) "always" = some none)
    (no_Space_pressure : PySem.W.findIn K (.ref C_Space) "pressure" = some none)
    (no_Space_allocations : PySem.W.findIn K (.ref C_Space) "allocations" = some none)
    (no_Space_collections : PySem.W.findIn K (.ref C_Space) "collections" = some none)
    (no_Space__roots : PySem.W.findIn K (.ref C_Space) "_roots" = some none)
    (no_Space__held : PySem.W.findIn K (.ref C_Space) "_held" = some none)
    (no_Space__moments : PySem.W.findIn K (.ref C_Space) "_moments" = some none)
    (no_Space__work : PySem.W.findIn K (.ref C_Space) "_work" = some none)
    (a0 : PySem.W.nsIn K mainGlobals "_wall" = some (some (.ref f0)))
    (l0 : K.lookup f0 = some ⟨oc0, od0, .func (PySem.W.fnOf "_wall" "_wall" (defArgs s__wall) (defBody s__wall) (defScope s__wall) .none kV0 dc0 pm0 an0 cd0 ct0), sl0⟩) (c0 : PySem.W.codeIn K cd0 "_wall" = true) (k0 : PySem.W.keepIn K (.ref f0) = true)
    (l1 : K.lookup f1 = some ⟨oc1, od1, .func (PySem.W.fnOf "__init__" "NoRoom.__init__" (defArgs s_NoRoom___init__) (defBody s_NoRoom___init__) (defScope s_NoRoom___init__) .none kV1 dc1 pm1 an1 cd1 ct1), sl1⟩) (c1 : PySem.W.codeIn K cd1 "NoRoom.__init__" = true) (k1 : PySem.W.keepIn K (.ref f1) = true)
    (l2 : K.lookup f2 = some ⟨oc2, od2, .func (PySem.W.fnOf "__init__" "NoNumber.__init__" (defArgs s_NoNumber___init__) (defBody s_NoNumber___init__) (defScope s_NoNumber___init__) .none kV2 dc2 pm2 an2 cd2 ct2), sl2⟩) (c2 : PySem.W.codeIn K cd2 "NoNumber.__init__" = true) (k2 : PySem.W.keepIn K (.ref f2) = true)
    (a3 : PySem.W.nsIn K mainGlobals "is_ref" = some (some (.ref f3)))
    (l3 : K.lookup f3 = some ⟨oc3, od3, .func (PySem.W.fnOf "is_ref" "is_ref" (defArgs s_is_ref) (defBody s_is_ref) (defScope s_is_ref) .none kV3 dc3 pm3 an3 cd3 ct3), sl3⟩) (c3 : PySem.W.codeIn K cd3 "is_ref" = true) (k3 : PySem.W.keepIn K (.ref f3) = true)
    (a4 : PySem.W.findIn K (.ref C_Store) "__init__" = some (some (.ref f4))) (i4 : PySem.W.isFn K (.ref f4) = true)
    (l4 : K.lookup f4 = some ⟨oc4, od4, .func (PySem.W.fnOf "__init__" "Store.__init__" (defArgs s_Store___init__) (defBody s_Store___init__) (defScope s_Store___init__) .none kV4 dc4 pm4 an4 cd4 ct4), sl4⟩) (c4 : PySem.W.codeIn K cd4 "Store.__init__" = true) (k4 : PySem.W.keepIn K (.ref f4) = true)
    (a5 : PySem.W.findIn K (.ref C_Store) "used" = some (some (.ref f5))) (i5 : PySem.W.isFn K (.ref f5) = true)
    (l5 : K.lookup f5 = some ⟨oc5, od5, .func (PySem.W.fnOf "used" "Store.used" (defArgs s_Store_used) (defBody s_Store_used) (defScope s_Store_used) .none kV5 dc5 pm5 an5 cd5 ct5), sl5⟩) (c5 : PySem.W.codeIn K cd5 "Store.used" = true) (k5 : PySem.W.keepIn K (.ref f5) = true)
    (a6 : PySem.W.findIn K (.ref C_Store) "exists" = some (some (.ref f6))) (i6 : PySem.W.isFn K (.ref f6) = true)
    (l6 : K.lookup f6 = some ⟨oc6, od6, .func (PySem.W.fnOf "exists" "Store.exists" (defArgs s_Store_exists) (defBody s_Store_exists) (defScope s_Store_exists) .none kV6 dc6 pm6 an6 cd6 ct6), sl6⟩) (c6 : PySem.W.codeIn K cd6 "Store.exists" = true) (k6 : PySem.W.keepIn K (.ref f6) = true)
    (a7 : PySem.W.findIn K (.ref C_Store) "numbers" = some (some (.ref f7))) (i7 : PySem.W.isFn K (.ref f7) = true)
    (l7 : K.lookup f7 = some ⟨oc7, od7, .func (PySem.W.fnOf "numbers" "Store.numbers" (defArgs s_Store_numbers) (defBody s_Store_numbers) (defScope s_Store_numbers) .none kV7 dc7 pm7 an7 cd7 ct7), sl7⟩) (c7 : PySem.W.codeIn K cd7 "Store.numbers" = true) (k7 : PySem.W.keepIn K (.ref f7) = true)
    (a8 : PySem.W.findIn K (.ref C_Store) "free_number" = some (some (.ref f8))) (i8 : PySem.W.isFn K (.ref f8) = true)
    (l8 : K.lookup f8 = some ⟨oc8, od8, .func (PySem.W.fnOf "free_number" "Store.free_number" (defArgs s_Store_free_number) (defBody s_Store_free_number) (defScope s_Store_free_number) .none kV8 dc8 pm8 an8 cd8 ct8), sl8⟩) (c8 : PySem.W.codeIn K cd8 "Store.free_number" = true) (k8 : PySem.W.keepIn K (.ref f8) = true)
    (a9 : PySem.W.findIn K (.ref C_Store) "allocate" = some (some (.ref f9))) (i9 : PySem.W.isFn K (.ref f9) = true)
    (l9 : K.lookup f9 = some ⟨oc9, od9, .func (PySem.W.fnOf "allocate" "Store.allocate" (defArgs s_Store_allocate) (defBody s_Store_allocate) (defScope s_Store_allocate) .none kV9 dc9 pm9 an9 cd9 ct9), sl9⟩) (c9 : PySem.W.codeIn K cd9 "Store.allocate" = true) (k9 : PySem.W.keepIn K (.ref f9) = true)
    (a10 : PySem.W.findIn K (.ref C_Store) "size" = some (some (.ref f10))) (i10 : PySem.W.isFn K (.ref f10) = true)
    (l10 : K.lookup f10 = some ⟨oc10, od10, .func (PySem.W.fnOf "size" "Store.size" (defArgs s_Store_size) (defBody s_Store_size) (defScope s_Store_size) .none kV10 dc10 pm10 an10 cd10 ct10), sl10⟩) (c10 : PySem.W.codeIn K cd10 "Store.size" = true) (k10 : PySem.W.keepIn K (.ref f10) = true)
    (a11 : PySem.W.findIn K (.ref C_Store) "kind" = some (some (.ref f11))) (i11 : PySem.W.isFn K (.ref f11) = true)
    (l11 : K.lookup f11 = some ⟨oc11, od11, .func (PySem.W.fnOf "kind" "Store.kind" (defArgs s_Store_kind) (defBody s_Store_kind) (defScope s_Store_kind) .none kV11 dc11 pm11 an11 cd11 ct11), sl11⟩) (c11 : PySem.W.codeIn K cd11 "Store.kind" = true) (k11 : PySem.W.keepIn K (.ref f11) = true)
    (a12 : PySem.W.findIn K (.ref C_Store) "set_kind" = some (some (.ref f12))) (i12 : PySem.W.isFn K (.ref f12) = true)
    (l12 : K.lookup f12 = some ⟨oc12, od12, .func (PySem.W.fnOf "set_kind" "Store.set_kind" (defArgs s_Store_set_kind) (defBody s_Store_set_kind) (defScope s_Store_set_kind) .none kV12 dc12 pm12 an12 cd12 ct12), sl12⟩) (c12 : PySem.W.codeIn K cd12 "Store.set_kind" = true) (k12 : PySem.W.keepIn K (.ref f12) = true)
    (a13 : PySem.W.findIn K (.ref C_Store) "get" = some (some (.ref f13))) (i13 : PySem.W.isFn K (.ref f13) = true)
    (l13 : K.lookup f13 = some ⟨oc13, od13, .func (PySem.W.fnOf "get" "Store.get" (defArgs s_Store_get) (defBody s_Store_get) (defScope s_Store_get) .none kV13 dc13 pm13 an13 cd13 ct13), sl13⟩) (c13 : PySem.W.codeIn K cd13 "Store.get" = true) (k13 : PySem.W.keepIn K (.ref f13) = true)
    (a14 : PySem.W.findIn K (.ref C_Store) "put" = some (some (.ref f14))) (i14 : PySem.W.isFn K (.ref f14) = true)
    (l14 : K.lookup f14 = some ⟨oc14, od14, .func (PySem.W.fnOf "put" "Store.put" (defArgs s_Store_put) (defBody s_Store_put) (defScope s_Store_put) .none kV14 dc14 pm14 an14 cd14 ct14), sl14⟩) (c14 : PySem.W.codeIn K cd14 "Store.put" = true) (k14 : PySem.W.keepIn K (.ref f14) = true)
    (a15 : PySem.W.findIn K (.ref C_Store) "slots" = some (some (.ref f15))) (i15 : PySem.W.isFn K (.ref f15) = true)
    (l15 : K.lookup f15 = some ⟨oc15, od15, .func (PySem.W.fnOf "slots" "Store.slots" (defArgs s_Store_slots) (defBody s_Store_slots) (defScope s_Store_slots) .none kV15 dc15 pm15 an15 cd15 ct15), sl15⟩) (c15 : PySem.W.codeIn K cd15 "Store.slots" = true) (k15 : PySem.W.keepIn K (.ref f15) = true)
    (a16 : PySem.W.findIn K (.ref C_Store) "drop" = some (some (.ref f16))) (i16 : PySem.W.isFn K (.ref f16) = true)
    (l16 : K.lookup f16 = some ⟨oc16, od16, .func (PySem.W.fnOf "drop" "Store.drop" (defArgs s_Store_drop) (defBody s_Store_drop) (defScope s_Store_drop) .none kV16 dc16 pm16 an16 cd16 ct16), sl16⟩) (c16 : PySem.W.codeIn K cd16 "Store.drop" = true) (k16 : PySem.W.keepIn K (.ref f16) = true)
    (a17 : PySem.W.findIn K (.ref C_Store) "close_up" = some (some (.ref f17))) (i17 : PySem.W.isFn K (.ref f17) = true)
    (l17 : K.lookup f17 = some ⟨oc17, od17, .func (PySem.W.fnOf "close_up" "Store.close_up" (defArgs s_Store_close_up) (defBody s_Store_close_up) (defScope s_Store_close_up) .none kV17 dc17 pm17 an17 cd17 ct17), sl17⟩) (c17 : PySem.W.codeIn K cd17 "Store.close_up" = true) (k17 : PySem.W.keepIn K (.ref f17) = true)
    (a18 : PySem.W.findIn K (.ref C_Store) "snapshot" = some (some (.ref f18))) (i18 : PySem.W.isFn K (.ref f18) = true)
    (l18 : K.lookup f18 = some ⟨oc18, od18, .func (PySem.W.fnOf "snapshot" "Store.snapshot" (defArgs s_Store_snapshot) (defBody s_Store_snapshot) (defScope s_Store_snapshot) .none kV18 dc18 pm18 an18 cd18 ct18), sl18⟩) (c18 : PySem.W.codeIn K cd18 "Store.snapshot" = true) (k18 : PySem.W.keepIn K (.ref f18) = true)
    (a19 : PySem.W.findIn K (.ref C_Store) "restore" = some (some (.ref f19))) (i19 : PySem.W.isFn K (.ref f19) = true)
    (l19 : K.lookup f19 = some ⟨oc19, od19, .func (PySem.W.fnOf "restore" "Store.restore" (defArgs s_Store_restore) (defBody s_Store_restore) (defScope s_Store_restore) .none kV19 dc19 pm19 an19 cd19 ct19), sl19⟩) (c19 : PySem.W.codeIn K cd19 "Store.restore" = true) (k19 : PySem.W.keepIn K (.ref f19) = true)
    (a20 : PySem.W.findIn K (.ref C_Store) "exchange" = some (some (.ref f20))) (i20 : PySem.W.isFn K (.ref f20) = true)
    (l20 : K.lookup f20 = some ⟨oc20, od20, .func (PySem.W.fnOf "exchange" "Store.exchange" (defArgs s_Store_exchange) (defBody s_Store_exchange) (defScope s_Store_exchange) .none kV20 dc20 pm20 an20 cd20 ct20), sl20⟩) (c20 : PySem.W.codeIn K cd20 "Store.exchange" = true) (k20 : PySem.W.keepIn K (.ref f20) = true)
    (a21 : PySem.W.nsIn K mainGlobals "reached" = some (some (.ref f21)))
    (l21 : K.lookup f21 = some ⟨oc21, od21, .func (PySem.W.fnOf "reached" "reached" (defArgs s_reached) (defBody s_reached) (defScope s_reached) .none kV21 dc21 pm21 an21 cd21 ct21), sl21⟩) (c21 : PySem.W.codeIn K cd21 "reached" = true) (k21 : PySem.W.keepIn K (.ref f21) = true)
    (a22 : PySem.W.nsIn K mainGlobals "collect" = some (some (.ref f22)))
    (l22 : K.lookup f22 = some ⟨oc22, od22, .func (PySem.W.fnOf "collect" "collect" (defArgs s_collect) (defBody s_collect) (defScope s_collect) .none kV22 dc22 pm22 an22 cd22 ct22), sl22⟩) (c22 : PySem.W.codeIn K cd22 "collect" = true) (k22 : PySem.W.keepIn K (.ref f22) = true)
    (a23 : PySem.W.nsIn K mainGlobals "target" = some (some (.ref f23)))
    (l23 : K.lookup f23 = some ⟨oc23, od23, .func (PySem.W.fnOf "target" "target" (defArgs s_target) (defBody s_target) (defScope s_target) .none kV23 dc23 pm23 an23 cd23 ct23), sl23⟩) (c23 : PySem.W.codeIn K cd23 "target" = true) (k23 : PySem.W.keepIn K (.ref f23) = true)
    (a24 : PySem.W.nsIn K mainGlobals "row_of" = some (some (.ref f24)))
    (l24 : K.lookup f24 = some ⟨oc24, od24, .func (PySem.W.fnOf "row_of" "row_of" (defArgs s_row_of) (defBody s_row_of) (defScope s_row_of) .none kV24 dc24 pm24 an24 cd24 ct24), sl24⟩) (c24 : PySem.W.codeIn K cd24 "row_of" = true) (k24 : PySem.W.keepIn K (.ref f24) = true)
    (a25 : PySem.W.nsIn K mainGlobals "word_at" = some (some (.ref f25)))
    (l25 : K.lookup f25 = some ⟨oc25, od25, .func (PySem.W.fnOf "word_at" "word_at" (defArgs s_word_at) (defBody s_word_at) (defScope s_word_at) .none kV25 dc25 pm25 an25 cd25 ct25), sl25⟩) (c25 : PySem.W.codeIn K cd25 "word_at" = true) (k25 : PySem.W.keepIn K (.ref f25) = true)
    (a26 : PySem.W.nsIn K mainGlobals "paths" = some (some (.ref f26)))
    (l26 : K.lookup f26 = some ⟨oc26, od26, .func (PySem.W.fnOf "paths" "paths" (defArgs s_paths) (defBody s_paths) (defScope s_paths) .none kV26 dc26 pm26 an26 cd26 ct26), sl26⟩) (c26 : PySem.W.codeIn K cd26 "paths" = true) (k26 : PySem.W.keepIn K (.ref f26) = true)
    (a27 : PySem.W.nsIn K mainGlobals "garbage" = some (some (.ref f27)))
    (l27 : K.lookup f27 = some ⟨oc27, od27, .func (PySem.W.fnOf "garbage" "garbage" (defArgs s_garbage) (defBody s_garbage) (defScope s_garbage) .none kV27 dc27 pm27 an27 cd27 ct27), sl27⟩) (c27 : PySem.W.codeIn K cd27 "garbage" = true) (k27 : PySem.W.keepIn K (.ref f27) = true)
    (a28 : PySem.W.findIn K (.ref C_Space) "__init__" = some (some (.ref f28))) (i28 : PySem.W.isFn K (.ref f28) = true)
    (l28 : K.lookup f28 = some ⟨oc28, od28, .func (PySem.W.fnOf "__init__" "Space.__init__" (defArgs s_Space___init__) (defBody s_Space___init__) (defScope s_Space___init__) .none kV28 dc28 pm28 an28 cd28 ct28), sl28⟩) (c28 : PySem.W.codeIn K cd28 "Space.__init__" = true) (k28 : PySem.W.keepIn K (.ref f28) = true)
    (a29 : PySem.W.findIn K (.ref C_Space) "root" = some (some (.ref f29))) (i29 : PySem.W.isFn K (.ref f29) = true)
    (l29 : K.lookup f29 = some ⟨oc29, od29, .func (PySem.W.fnOf "root" "Space.root" (defArgs s_Space_root) (defBody s_Space_root) (defScope s_Space_root) .none kV29 dc29 pm29 an29 cd29 ct29), sl29⟩) (c29 : PySem.W.codeIn K cd29 "Space.root" = true) (k29 : PySem.W.keepIn K (.ref f29) = true)
    (a30 : PySem.W.findIn K (.ref C_Space) "set_root" = some (some (.ref f30))) (i30 : PySem.W.isFn K (.ref f30) = true)
    (l30 : K.lookup f30 = some ⟨oc30, od30, .func (PySem.W.fnOf "set_root" "Space.set_root" (defArgs s_Space_set_root) (defBody s_Space_set_root) (defScope s_Space_set_root) .none kV30 dc30 pm30 an30 cd30 ct30), sl30⟩) (c30 : PySem.W.codeIn K cd30 "Space.set_root" = true) (k30 : PySem.W.keepIn K (.ref f30) = true)
    (a31 : PySem.W.findIn K (.ref C_Space) "hold" = some (some (.ref f31))) (i31 : PySem.W.isFn K (.ref f31) = true)
    (l31 : K.lookup f31 = some ⟨oc31, od31, .func (PySem.W.fnOf "hold" "Space.hold" (defArgs s_Space_hold) (defBody s_Space_hold) (defScope s_Space_hold) .none kV31 dc31 pm31 an31 cd31 ct31), sl31⟩) (c31 : PySem.W.codeIn K cd31 "Space.hold" = true) (k31 : PySem.W.keepIn K (.ref f31) = true)
    (a32 : PySem.W.findIn K (.ref C_Space) "drop" = some (some (.ref f32))) (i32 : PySem.W.isFn K (.ref f32) = true)
    (l32 : K.lookup f32 = some ⟨oc32, od32, .func (PySem.W.fnOf "drop" "Space.drop" (defArgs s_Space_drop) (defBody s_Space_drop) (defScope s_Space_drop) .none kV32 dc32 pm32 an32 cd32 ct32), sl32⟩) (c32 : PySem.W.codeIn K cd32 "Space.drop" = true) (k32 : PySem.W.keepIn K (.ref f32) = true)
    (a33 : PySem.W.findIn K (.ref C_Space) "held" = some (some (.ref f33))) (i33 : PySem.W.isFn K (.ref f33) = true)
    (l33 : K.lookup f33 = some ⟨oc33, od33, .func (PySem.W.fnOf "held" "Space.held" (defArgs s_Space_held) (defBody s_Space_held) (defScope s_Space_held) .none kV33 dc33 pm33 an33 cd33 ct33), sl33⟩) (c33 : PySem.W.codeIn K cd33 "Space.held" = true) (k33 : PySem.W.keepIn K (.ref f33) = true)
    (a34 : PySem.W.findIn K (.ref C_Space) "all_roots" = some (some (.ref f34))) (i34 : PySem.W.isFn K (.ref f34) = true)
    (l34 : K.lookup f34 = some ⟨oc34, od34, .func (PySem.W.fnOf "all_roots" "Space.all_roots" (defArgs s_Space_all_roots) (defBody s_Space_all_roots) (defScope s_Space_all_roots) .none kV34 dc34 pm34 an34 cd34 ct34), sl34⟩) (c34 : PySem.W.codeIn K cd34 "Space.all_roots" = true) (k34 : PySem.W.keepIn K (.ref f34) = true)
    (a35 : PySem.W.findIn K (.ref C_Space) "collect" = some (some (.ref f35))) (i35 : PySem.W.isFn K (.ref f35) = true)
    (l35 : K.lookup f35 = some ⟨oc35, od35, .func (PySem.W.fnOf "collect" "Space.collect" (defArgs s_Space_collect) (defBody s_Space_collect) (defScope s_Space_collect) .none kV35 dc35 pm35 an35 cd35 ct35), sl35⟩) (c35 : PySem.W.codeIn K cd35 "Space.collect" = true) (k35 : PySem.W.keepIn K (.ref f35) = true)
    (a36 : PySem.W.findIn K (.ref C_Space) "live_words" = some (some (.ref f36))) (i36 : PySem.W.isFn K (.ref f36) = true)
    (l36 : K.lookup f36 = some ⟨oc36, od36, .func (PySem.W.fnOf "live_words" "Space.live_words" (defArgs s_Space_live_words) (defBody s_Space_live_words) (defScope s_Space_live_words) .none kV36 dc36 pm36 an36 cd36 ct36), sl36⟩) (c36 : PySem.W.codeIn K cd36 "Space.live_words" = true) (k36 : PySem.W.keepIn K (.ref f36) = true)
    (a37 : PySem.W.findIn K (.ref C_Space) "new" = some (some (.ref f37))) (i37 : PySem.W.isFn K (.ref f37) = true)
    (l37 : K.lookup f37 = some ⟨oc37, od37, .func (PySem.W.fnOf "new" "Space.new" (defArgs s_Space_new) (defBody s_Space_new) (defScope s_Space_new) .none kV37 dc37 pm37 an37 cd37 ct37), sl37⟩) (c37 : PySem.W.codeIn K cd37 "Space.new" = true) (k37 : PySem.W.keepIn K (.ref f37) = true)
    (a38 : PySem.W.findIn K (.ref C_Space) "begin" = some (some (.ref f38))) (i38 : PySem.W.isFn K (.ref f38) = true)
    (l38 : K.lookup f38 = some ⟨oc38, od38, .func (PySem.W.fnOf "begin" "Space.begin" (defArgs s_Space_begin) (defBody s_Space_begin) (defScope s_Space_begin) .none kV38 dc38 pm38 an38 cd38 ct38), sl38⟩) (c38 : PySem.W.codeIn K cd38 "Space.begin" = true) (k38 : PySem.W.keepIn K (.ref f38) = true)
    (a39 : PySem.W.findIn K (.ref C_Space) "commit" = some (some (.ref f39))) (i39 : PySem.W.isFn K (.ref f39) = true)
    (l39 : K.lookup f39 = some ⟨oc39, od39, .func (PySem.W.fnOf "commit" "Space.commit" (defArgs s_Space_commit) (defBody s_Space_commit) (defScope s_Space_commit) .none kV39 dc39 pm39 an39 cd39 ct39), sl39⟩) (c39 : PySem.W.codeIn K cd39 "Space.commit" = true) (k39 : PySem.W.keepIn K (.ref f39) = true)
    (a40 : PySem.W.findIn K (.ref C_Space) "abort" = some (some (.ref f40))) (i40 : PySem.W.isFn K (.ref f40) = true)
    (l40 : K.lookup f40 = some ⟨oc40, od40, .func (PySem.W.fnOf "abort" "Space.abort" (defArgs s_Space_abort) (defBody s_Space_abort) (defScope s_Space_abort) .none kV40 dc40 pm40 an40 cd40 ct40), sl40⟩) (c40 : PySem.W.codeIn K cd40 "Space.abort" = true) (k40 : PySem.W.keepIn K (.ref f40) = true)
    (a41 : PySem.W.findIn K (.ref C_Space) "_collect_beside" = some (some (.ref f41))) (i41 : PySem.W.isFn K (.ref f41) = true)
    (l41 : K.lookup f41 = some ⟨oc41, od41, .func (PySem.W.fnOf "_collect_beside" "Space._collect_beside" (defArgs s_Space__collect_beside) (defBody s_Space__collect_beside) (defScope s_Space__collect_beside) .none kV41 dc41 pm41 an41 cd41 ct41), sl41⟩) (c41 : PySem.W.codeIn K cd41 "Space._collect_beside" = true) (k41 : PySem.W.keepIn K (.ref f41) = true)
    (a42 : PySem.W.nsIn K mainGlobals "_law_number" = some (some (.ref f42)))
    (l42 : K.lookup f42 = some ⟨oc42, od42, .func (PySem.W.fnOf "_law_number" "_law_number" (defArgs s__law_number) (defBody s__law_number) (defScope s__law_number) .none kV42 dc42 pm42 an42 cd42 ct42), sl42⟩) (c42 : PySem.W.codeIn K cd42 "_law_number" = true) (k42 : PySem.W.keepIn K (.ref f42) = true)
    (a43 : PySem.W.nsIn K mainGlobals "_law_word" = some (some (.ref f43)))
    (l43 : K.lookup f43 = some ⟨oc43, od43, .func (PySem.W.fnOf "_law_word" "_law_word" (defArgs s__law_word) (defBody s__law_word) (defScope s__law_word) .none kV43 dc43 pm43 an43 cd43 ct43), sl43⟩) (c43 : PySem.W.codeIn K cd43 "_law_word" = true) (k43 : PySem.W.keepIn K (.ref f43) = true)
    (a44 : PySem.W.nsIn K mainGlobals "_law_is" = some (some (.ref f44)))
    (l44 : K.lookup f44 = some ⟨oc44, od44, .func (PySem.W.fnOf "_law_is" "_law_is" (defArgs s__law_is) (defBody s__law_is) (defScope s__law_is) .none kV44 dc44 pm44 an44 cd44 ct44), sl44⟩) (c44 : PySem.W.codeIn K cd44 "_law_is" = true) (k44 : PySem.W.keepIn K (.ref f44) = true)
    (a45 : PySem.W.nsIn K mainGlobals "_law_same" = some (some (.ref f45)))
    (l45 : K.lookup f45 = some ⟨oc45, od45, .func (PySem.W.fnOf "_law_same" "_law_same" (defArgs s__law_same) (defBody s__law_same) (defScope s__law_same) .none kV45 dc45 pm45 an45 cd45 ct45), sl45⟩) (c45 : PySem.W.codeIn K cd45 "_law_same" = true) (k45 : PySem.W.keepIn K (.ref f45) = true)
    (a46 : PySem.W.nsIn K mainGlobals "_law_sizes" = some (some (.ref f46)))
    (l46 : K.lookup f46 = some ⟨oc46, od46, .func (PySem.W.fnOf "_law_sizes" "_law_sizes" (defArgs s__law_sizes) (defBody s__law_sizes) (defScope s__law_sizes) .none kV46 dc46 pm46 an46 cd46 ct46), sl46⟩) (c46 : PySem.W.codeIn K cd46 "_law_sizes" = true) (k46 : PySem.W.keepIn K (.ref f46) = true)
    (a47 : PySem.W.nsIn K mainGlobals "_law_rows" = some (some (.ref f47)))
    (l47 : K.lookup f47 = some ⟨oc47, od47, .func (PySem.W.fnOf "_law_rows" "_law_rows" (defArgs s__law_rows) (defBody s__law_rows) (defScope s__law_rows) .none kV47 dc47 pm47 an47 cd47 ct47), sl47⟩) (c47 : PySem.W.codeIn K cd47 "_law_rows" = true) (k47 : PySem.W.keepIn K (.ref f47) = true)
    (a48 : PySem.W.nsIn K mainGlobals "_law_roots" = some (some (.ref f48)))
    (l48 : K.lookup f48 = some ⟨oc48, od48, .func (PySem.W.fnOf "_law_roots" "_law_roots" (defArgs s__law_roots) (defBody s__law_roots) (defScope s__law_roots) .none kV48 dc48 pm48 an48 cd48 ct48), sl48⟩) (c48 : PySem.W.codeIn K cd48 "_law_roots" = true) (k48 : PySem.W.keepIn K (.ref f48) = true)
    (a49 : PySem.W.nsIn K mainGlobals "_law_space" = some (some (.ref f49)))
    (l49 : K.lookup f49 = some ⟨oc49, od49, .func (PySem.W.fnOf "_law_space" "_law_space" (defArgs s__law_space) (defBody s__law_space) (defScope s__law_space) .none kV49 dc49 pm49 an49 cd49 ct49), sl49⟩) (c49 : PySem.W.codeIn K cd49 "_law_space" = true) (k49 : PySem.W.keepIn K (.ref f49) = true)
    (a50 : PySem.W.nsIn K mainGlobals "_law_walk" = some (some (.ref f50)))
    (l50 : K.lookup f50 = some ⟨oc50, od50, .func (PySem.W.fnOf "_law_walk" "_law_walk" (defArgs s__law_walk) (defBody s__law_walk) (defScope s__law_walk) .none kV50 dc50 pm50 an50 cd50 ct50), sl50⟩) (c50 : PySem.W.codeIn K cd50 "_law_walk" = true) (k50 : PySem.W.keepIn K (.ref f50) = true)
    (a51 : PySem.W.nsIn K mainGlobals "_law_extended" = some (some (.ref f51)))
    (l51 : K.lookup f51 = some ⟨oc51, od51, .func (PySem.W.fnOf "_law_extended" "_law_extended" (defArgs s__law_extended) (defBody s__law_extended) (defScope s__law_extended) .none kV51 dc51 pm51 an51 cd51 ct51), sl51⟩) (c51 : PySem.W.codeIn K cd51 "_law_extended" = true) (k51 : PySem.W.keepIn K (.ref f51) = true)
    (a52 : PySem.W.nsIn K mainGlobals "_law_best" = some (some (.ref f52)))
    (l52 : K.lookup f52 = some ⟨oc52, od52, .func (PySem.W.fnOf "_law_best" "_law_best" (defArgs s__law_best) (defBody s__law_best) (defScope s__law_best) .none kV52 dc52 pm52 an52 cd52 ct52), sl52⟩) (c52 : PySem.W.codeIn K cd52 "_law_best" = true) (k52 : PySem.W.keepIn K (.ref f52) = true)
    (a53 : PySem.W.nsIn K mainGlobals "_law_path_is" = some (some (.ref f53)))
    (l53 : K.lookup f53 = some ⟨oc53, od53, .func (PySem.W.fnOf "_law_path_is" "_law_path_is" (defArgs s__law_path_is) (defBody s__law_path_is) (defScope s__law_path_is) .none kV53 dc53 pm53 an53 cd53 ct53), sl53⟩) (c53 : PySem.W.codeIn K cd53 "_law_path_is" = true) (k53 : PySem.W.keepIn K (.ref f53) = true)
    (a54 : PySem.W.nsIn K mainGlobals "_law_told" = some (some (.ref f54)))
    (l54 : K.lookup f54 = some ⟨oc54, od54, .func (PySem.W.fnOf "_law_told" "_law_told" (defArgs s__law_told) (defBody s__law_told) (defScope s__law_told) .none kV54 dc54 pm54 an54 cd54 ct54), sl54⟩) (c54 : PySem.W.codeIn K cd54 "_law_told" = true) (k54 : PySem.W.keepIn K (.ref f54) = true)
    (a55 : PySem.W.nsIn K mainGlobals "_law_drawn" = some (some (.ref f55)))
    (l55 : K.lookup f55 = some ⟨oc55, od55, .func (PySem.W.fnOf "_law_drawn" "_law_drawn" (defArgs s__law_drawn) (defBody s__law_drawn) (defScope s__law_drawn) .none kV55 dc55 pm55 an55 cd55 ct55), sl55⟩) (c55 : PySem.W.codeIn K cd55 "_law_drawn" = true) (k55 : PySem.W.keepIn K (.ref f55) = true)
    (a56 : PySem.W.nsIn K mainGlobals "_law_kept" = some (some (.ref f56)))
    (l56 : K.lookup f56 = some ⟨oc56, od56, .func (PySem.W.fnOf "_law_kept" "_law_kept" (defArgs s__law_kept) (defBody s__law_kept) (defScope s__law_kept) .none kV56 dc56 pm56 an56 cd56 ct56), sl56⟩) (c56 : PySem.W.codeIn K cd56 "_law_kept" = true) (k56 : PySem.W.keepIn K (.ref f56) = true)
    (a57 : PySem.W.nsIn K mainGlobals "law" = some (some (.ref f57)))
    (l57 : K.lookup f57 = some ⟨oc57, od57, .func (PySem.W.fnOf "law" "law" (defArgs s_law) (defBody s_law) (defScope s_law) .none kV57 dc57 pm57 an57 cd57 ct57), sl57⟩) (c57 : PySem.W.codeIn K cd57 "law" = true) (k57 : PySem.W.keepIn K (.ref f57) = true)
    (q_NIL : PySem.W.nsIn K mainGlobals "NIL" = some (some (.int (0) t_NIL)))
    (q_HEADER : PySem.W.nsIn K mainGlobals "HEADER" = some (some (.int (3) t_HEADER)))
    (q_ROOTS : PySem.W.nsIn K mainGlobals "ROOTS" = some (some (.int (16) t_ROOTS)))
    (al_collect_collecting : PySem.W.nsIn K mainGlobals "collect_collecting" = some (some (.ref f22)))
    (h_heappop : PySem.W.nsIn K mainGlobals "heappop" = some (some (.builtin "_heapq.heappop")))
    (h_heappush : PySem.W.nsIn K mainGlobals "heappush" = some (some (.builtin "_heapq.heappush")))
    (z_ValueError : PySem.W.nsIn K mainGlobals "ValueError" = some none)
    (z_bool : PySem.W.nsIn K mainGlobals "bool" = some none)
    (z_dict : PySem.W.nsIn K mainGlobals "dict" = some none)
    (z_enumerate : PySem.W.nsIn K mainGlobals "enumerate" = some none)
    (z_int : PySem.W.nsIn K mainGlobals "int" = some none)
    (z_isinstance : PySem.W.nsIn K mainGlobals "isinstance" = some none)
    (z_len : PySem.W.nsIn K mainGlobals "len" = some none)
    (z_list : PySem.W.nsIn K mainGlobals "list" = some none)
    (z_range : PySem.W.nsIn K mainGlobals "range" = some none)
    (z_sorted : PySem.W.nsIn K mainGlobals "sorted" = some none)
    (z_tuple : PySem.W.nsIn K mainGlobals "tuple" = some none) :
    ∃ fd : FuncData, (∀ (s : Shared) (v : Value), BindsTo s fd ⟨[v], []⟩ [("script", v)]) ∧ ∀ base : Heap, K.In base → base.Ns mainGlobals mg → FnOk l.prog w K mg base CX0 8 fa fd ["script"] (sp_law K) := by
  have e : fa = f57 := Value.ref.inj (Option.some.inj (hfa.symm.trans (PySem.W.mg_of X G a57)))
  rw [e]
  have T : Txt K mg { C_SaggarError := C_SaggarError, C_NoRoom := C_NoRoom, C_NoNumber := C_NoNumber, C_Store := C_Store, C_Space := C_Space, f__wall := f0, d__wall := _, f_NoRoom___init__ := f1, d_NoRoom___init__ := _, f_NoNumber___init__ := f2, d_NoNumber___init__ := _, f_is_ref := f3, d_is_ref := _, f_Store___init__ := f4, d_Store___init__ := _, f_Store_used := f5, d_Store_used := _, f_Store_exists := f6, d_Store_exists := _, f_Store_numbers := f7, d_Store_numbers := _, f_Store_free_number := f8, d_Store_free_number := _, f_Store_allocate := f9, d_Store_allocate := _, f_Store_size := f10, d_Store_size := _, f_Store_kind := f11, d_Store_kind := _, f_Store_set_kind := f12, d_Store_set_kind := _, f_Store_get := f13, d_Store_get := _, f_Store_put := f14, d_Store_put := _, f_Store_slots := f15, d_Store_slots := _, f_Store_drop := f16, d_Store_drop := _, f_Store_close_up := f17, d_Store_close_up := _, f_Store_snapshot := f18, d_Store_snapshot := _, f_Store_restore := f19, d_Store_restore := _, f_Store_exchange := f20, d_Store_exchange := _, f_reached := f21, d_reached := _, f_collect := f22, d_collect := _, f_target := f23, d_target := _, f_row_of := f24, d_row_of := _, f_word_at := f25, d_word_at := _, f_paths := f26, d_paths := _, f_garbage := f27, d_garbage := _, f_Space___init__ := f28, d_Space___init__ := _, f_Space_root := f29, d_Space_root := _, f_Space_set_root := f30, d_Space_set_root := _, f_Space_hold := f31, d_Space_hold := _, f_Space_drop := f32, d_Space_drop := _, f_Space_held := f33, d_Space_held := _, f_Space_all_roots := f34, d_Space_all_roots := _, f_Space_collect := f35, d_Space_collect := _, f_Space_live_words := f36, d_Space_live_words := _, f_Space_new := f37, d_Space_new := _, f_Space_begin := f38, d_Space_begin := _, f_Space_commit := f39, d_Space_commit := _, f_Space_abort := f40, d_Space_abort := _, f_Space__collect_beside := f41, d_Space__collect_beside := _, f__law_number := f42, d__law_number := _, f__law_word := f43, d__law_word := _, f__law_is := f44, d__law_is := _, f__law_same := f45, d__law_same := _, f__law_sizes := f46, d__law_sizes := _, f__law_rows := f47, d__law_rows := _, f__law_roots := f48, d__law_roots := _, f__law_space := f49, d__law_space := _, f__law_walk := f50, d__law_walk := _, f__law_extended := f51, d__law_extended := _, f__law_best := f52, d__law_best := _, f__law_path_is := f53, d__law_path_is := _, f__law_told := f54, d__law_told := _, f__law_drawn := f55, d__law_drawn := _, f__law_kept := f56, d__law_kept := _, f_law := f57, d_law := _, t_NIL := t_NIL, t_HEADER := t_HEADER, t_ROOTS := t_ROOTS } := {
      m_SaggarError := PySem.W.mg_of X G m_SaggarError,
      m_NoRoom := PySem.W.mg_of X G m_NoRoom,
      m_NoNumber := PySem.W.mg_of X G m_NoNumber,
      m_Store := PySem.W.mg_of X G m_Store,
      m_Space := PySem.W.mg_of X G m_Space,
      x_NoRoom := ⟨⟨⟨_, _, _, _, _, _, _, _, _, _, _, _, _, _, _, xl_NoRoom, by rfl⟩, sa_NoRoom, ec_NoRoom, tc_NoRoom, kc_NoRoom⟩, ⟨ga_NoRoom, gg_NoRoom, ec_NoRoom, hc_NoRoom⟩, ic_NoRoom, ti_NoRoom, ha_NoRoom, hn_NoRoom, ht_NoRoom, hm_NoRoom⟩,
      no_NoRoom_need := no_NoRoom_need,
      ex_NoRoom_NoNumber := ex_NoRoom_NoNumber,
      ex_NoRoom_NoRoom := ex_NoRoom_NoRoom,
      x_NoNumber := ⟨⟨⟨_, _, _, _, _, _, _, _, _, _, _, _, _, _, _, xl_NoNumber, by rfl⟩, sa_NoNumber, ec_NoNumber, tc_NoNumber, kc_NoNumber⟩, ⟨ga_NoNumber, gg_NoNumber, ec_NoNumber, hc_NoNumber⟩, ic_NoNumber, ti_NoNumber, ha_NoNumber, hn_NoNumber, ht_NoNumber, hm_NoNumber⟩,
      no_NoNumber_limit := no_NoNumber_limit,
      ex_NoNumber_NoNumber := ex_NoNumber_NoNumber,
      ex_NoNumber_NoRoom := ex_NoNumber_NoRoom,
      cl_Store := ⟨pg_Store, hd_Store, po_Store, sa_Store⟩,
      mk_Store := ⟨mi_Store, a4, i4, kc_Store⟩,
      no_Store_room := no_Store_room,
      no_Store_entries := no_Store_entries,
      no_Store_words := no_Store_words,
      no_Store__places := no_Store__places,
      no_Store__free := no_Store__free,
      no_Store__fresh := no_Store__fresh,
      cl_Space := ⟨pg_Space, hd_Space, po_Space, sa_Space⟩,
      mk_Space := ⟨mi_Space, a28, i28, kc_Space⟩,
      no_Space_store := no_Space_store,
      no_Space_always := no_Space_always,
      no_Space_pressure := no_Space_pressure,
      no_Space_allocations := no_Space_allocations,
      no_Space_collections := no_Space_collections,
      no_Space__roots := no_Space__roots,
      no_Space__held := no_Space__held,
      no_Space__moments := no_Space__moments,
      no_Space__work := no_Space__work,
      g__wall := PySem.W.mg_of X G a0,
      k__wall := k0,
      F__wall := fun_mk (st := s__wall) l0 c0 k0,
      b__wall := (fun_mk (st := s__wall) l0 c0 k0).binds (fun _ _ _ _ _ _ us hl => match us, hl with | [_], _ => rfl),
      k_NoRoom___init__ := k1,
      F_NoRoom___init__ := fun_mk (st := s_NoRoom___init__) l1 c1 k1,
      b_NoRoom___init__ := (fun_mk (st := s_NoRoom___init__) l1 c1 k1).binds (fun _ _ _ _ _ _ us hl => match us, hl with | [_, _], _ => rfl),
      k_NoNumber___init__ := k2,
      F_NoNumber___init__ := fun_mk (st := s_NoNumber___init__) l2 c2 k2,
      b_NoNumber___init__ := (fun_mk (st := s_NoNumber___init__) l2 c2 k2).binds (fun _ _ _ _ _ _ us hl => match us, hl with | [_, _], _ => rfl),
      g_is_ref := PySem.W.mg_of X G a3,
      k_is_ref := k3,
      F_is_ref := fun_mk (st := s_is_ref) l3 c3 k3,
      b_is_ref := (fun_mk (st := s_is_ref) l3 c3 k3).binds (fun _ _ _ _ _ _ us hl => match us, hl with | [_], _ => rfl),
      k_Store___init__ := k4,
      F_Store___init__ := fun_mk (st := s_Store___init__) l4 c4 k4,
      b_Store___init__ := (fun_mk (st := s_Store___init__) l4 c4 k4).binds (fun _ _ _ _ _ _ us hl => match us, hl with | [_, _, _], _ => rfl),
      me_Store_used := ⟨a5, i5, k5⟩,
      k_Store_used := k5,
      F_Store_used := fun_mk (st := s_Store_used) l5 c5 k5,
      b_Store_used := (fun_mk (st := s_Store_used) l5 c5 k5).binds (fun _ _ _ _ _ _ us hl => match us, hl with | [_], _ => rfl),
      me_Store_exists := ⟨a6, i6, k6⟩,
      k_Store_exists := k6,
      F_Store_exists := fun_mk (st := s_Store_exists) l6 c6 k6,
      b_Store_exists := (fun_mk (st := s_Store_exists) l6 c6 k6).binds (fun _ _ _ _ _ _ us hl => match us, hl with | [_, _], _ => rfl),
      me_Store_numbers := ⟨a7, i7, k7⟩,
      k_Store_numbers := k7,
      F_Store_numbers := fun_mk (st := s_Store_numbers) l7 c7 k7,
      b_Store_numbers := (fun_mk (st := s_Store_numbers) l7 c7 k7).binds (fun _ _ _ _ _ _ us hl => match us, hl with | [_], _ => rfl),
      me_Store_free_number := ⟨a8, i8, k8⟩,
      k_Store_free_number := k8,
      F_Store_free_number := fun_mk (st := s_Store_free_number) l8 c8 k8,
      b_Store_free_number := (fun_mk (st := s_Store_free_number) l8 c8 k8).binds (fun _ _ _ _ _ _ us hl => match us, hl with | [_], _ => rfl),
      me_Store_allocate := ⟨a9, i9, k9⟩,
      k_Store_allocate := k9,
      F_Store_allocate := fun_mk (st := s_Store_allocate) l9 c9 k9,
      b_Store_allocate := (fun_mk (st := s_Store_allocate) l9 c9 k9).binds (fun _ _ _ _ _ _ us hl => match us, hl with | [_, _, _], _ => rfl),
      me_Store_size := ⟨a10, i10, k10⟩,
      k_Store_size := k10,
      F_Store_size := fun_mk (st := s_Store_size) l10 c10 k10,
      b_Store_size := (fun_mk (st := s_Store_size) l10 c10 k10).binds (fun _ _ _ _ _ _ us hl => match us, hl with | [_, _], _ => rfl),
      me_Store_kind := ⟨a11, i11, k11⟩,
      k_Store_kind := k11,
      F_Store_kind := fun_mk (st := s_Store_kind) l11 c11 k11,
      b_Store_kind := (fun_mk (st := s_Store_kind) l11 c11 k11).binds (fun _ _ _ _ _ _ us hl => match us, hl with | [_, _], _ => rfl),
      me_Store_set_kind := ⟨a12, i12, k12⟩,
      k_Store_set_kind := k12,
      F_Store_set_kind := fun_mk (st := s_Store_set_kind) l12 c12 k12,
      b_Store_set_kind := (fun_mk (st := s_Store_set_kind) l12 c12 k12).binds (fun _ _ _ _ _ _ us hl => match us, hl with | [_, _, _], _ => rfl),
      me_Store_get := ⟨a13, i13, k13⟩,
      k_Store_get := k13,
      F_Store_get := fun_mk (st := s_Store_get) l13 c13 k13,
      b_Store_get := (fun_mk (st := s_Store_get) l13 c13 k13).binds (fun _ _ _ _ _ _ us hl => match us, hl with | [_, _, _], _ => rfl),
      me_Store_put := ⟨a14, i14, k14⟩,
      k_Store_put := k14,
      F_Store_put := fun_mk (st := s_Store_put) l14 c14 k14,
      b_Store_put := (fun_mk (st := s_Store_put) l14 c14 k14).binds (fun _ _ _ _ _ _ us hl => match us, hl with | [_, _, _, _], _ => rfl),
      me_Store_slots := ⟨a15, i15, k15⟩,
      k_Store_slots := k15,
      F_Store_slots := fun_mk (st := s_Store_slots) l15 c15 k15,
      b_Store_slots := (fun_mk (st := s_Store_slots) l15 c15 k15).binds (fun _ _ _ _ _ _ us hl => match us, hl with | [_, _], _ => rfl),
      me_Store_drop := ⟨a16, i16, k16⟩,
      k_Store_drop := k16,
      F_Store_drop := fun_mk (st := s_Store_drop) l16 c16 k16,
      b_Store_drop := (fun_mk (st := s_Store_drop) l16 c16 k16).binds (fun _ _ _ _ _ _ us hl => match us, hl with | [_, _], _ => rfl),
      me_Store_close_up := ⟨a17, i17, k17⟩,
      k_Store_close_up := k17,
      F_Store_close_up := fun_mk (st := s_Store_close_up) l17 c17 k17,
      b_Store_close_up := (fun_mk (st := s_Store_close_up) l17 c17 k17).binds (fun _ _ _ _ _ _ us hl => match us, hl with | [_], _ => rfl),
      me_Store_snapshot := ⟨a18, i18, k18⟩,
      k_Store_snapshot := k18,
      F_Store_snapshot := fun_mk (st := s_Store_snapshot) l18 c18 k18,
      b_Store_snapshot := (fun_mk (st := s_Store_snapshot) l18 c18 k18).binds (fun _ _ _ _ _ _ us hl => match us, hl with | [_], _ => rfl),
      me_Store_restore := ⟨a19, i19, k19⟩,
      k_Store_restore := k19,
      F_Store_restore := fun_mk (st := s_Store_restore) l19 c19 k19,
      b_Store_restore := (fun_mk (st := s_Store_restore) l19 c19 k19).binds (fun _ _ _ _ _ _ us hl => match us, hl with | [_, _], _ => rfl),
      me_Store_exchange := ⟨a20, i20, k20⟩,
      k_Store_exchange := k20,
      F_Store_exchange := fun_mk (st := s_Store_exchange) l20 c20 k20,
      b_Store_exchange := (fun_mk (st := s_Store_exchange) l20 c20 k20).binds (fun _ _ _ _ _ _ us hl => match us, hl with | [_, _, _], _ => rfl),
      g_reached := PySem.W.mg_of X G a21,
      k_reached := k21,
      F_reached := fun_mk (st := s_reached) l21 c21 k21,
      b_reached := (fun_mk (st := s_reached) l21 c21 k21).binds (fun _ _ _ _ _ _ us hl => match us, hl with | [_, _], _ => rfl),
      g_collect := PySem.W.mg_of X G a22,
      k_collect := k22,
      F_collect := fun_mk (st := s_collect) l22 c22 k22,
      b_collect := (fun_mk (st := s_collect) l22 c22 k22).binds (fun _ _ _ _ _ _ us hl => match us, hl with | [_, _], _ => rfl),
      g_target := PySem.W.mg_of X G a23,
      k_target := k23,
      F_target := fun_mk (st := s_target) l23 c23 k23,
      b_target := (fun_mk (st := s_target) l23 c23 k23).binds (fun _ _ _ _ _ _ us hl => match us, hl with | [_, _], _ => rfl),
      g_row_of := PySem.W.mg_of X G a24,
      k_row_of := k24,
      F_row_of := fun_mk (st := s_row_of) l24 c24 k24,
      b_row_of := (fun_mk (st := s_row_of) l24 c24 k24).binds (fun _ _ _ _ _ _ us hl => match us, hl with | [_, _], _ => rfl),
      g_word_at := PySem.W.mg_of X G a25,
      k_word_at := k25,
      F_word_at := fun_mk (st := s_word_at) l25 c25 k25,
      b_word_at := (fun_mk (st := s_word_at) l25 c25 k25).binds (fun _ _ _ _ _ _ us hl => match us, hl with | [_, _], _ => rfl),
      g_paths := PySem.W.mg_of X G a26,
      k_paths := k26,
      F_paths := fun_mk (st := s_paths) l26 c26 k26,
      b_paths := (fun_mk (st := s_paths) l26 c26 k26).binds (fun _ _ _ _ _ _ us hl => match us, hl with | [_], _ => rfl),
      g_garbage := PySem.W.mg_of X G a27,
      k_garbage := k27,
      F_garbage := fun_mk (st := s_garbage) l27 c27 k27,
      b_garbage := (fun_mk (st := s_garbage) l27 c27 k27).binds (fun _ _ _ _ _ _ us hl => match us, hl with | [_], _ => rfl),
      k_Space___init__ := k28,
      F_Space___init__ := fun_mk (st := s_Space___init__) l28 c28 k28,
      b_Space___init__ := (fun_mk (st := s_Space___init__) l28 c28 k28).binds (fun _ _ _ _ _ _ us hl => match us, hl with | [_, _, _], _ => rfl),
      me_Space_root := ⟨a29, i29, k29⟩,
      k_Space_root := k29,
      F_Space_root := fun_mk (st := s_Space_root) l29 c29 k29,
      b_Space_root := (fun_mk (st := s_Space_root) l29 c29 k29).binds (fun _ _ _ _ _ _ us hl => match us, hl with | [_, _], _ => rfl),
      me_Space_set_root := ⟨a30, i30, k30⟩,
      k_Space_set_root := k30,
      F_Space_set_root := fun_mk (st := s_Space_set_root) l30 c30 k30,
      b_Space_set_root := (fun_mk (st := s_Space_set_root) l30 c30 k30).binds (fun _ _ _ _ _ _ us hl => match us, hl with | [_, _, _], _ => rfl),
      me_Space_hold := ⟨a31, i31, k31⟩,
      k_Space_hold := k31,
      F_Space_hold := fun_mk (st := s_Space_hold) l31 c31 k31,
      b_Space_hold := (fun_mk (st := s_Space_hold) l31 c31 k31).binds (fun _ _ _ _ _ _ us hl => match us, hl with | [_, _], _ => rfl),
      me_Space_drop := ⟨a32, i32, k32⟩,
      k_Space_drop := k32,
      F_Space_drop := fun_mk (st := s_Space_drop) l32 c32 k32,
      b_Space_drop := (fun_mk (st := s_Space_drop) l32 c32 k32).binds (fun _ _ _ _ _ _ us hl => match us, hl with | [_, _], _ => rfl),
      me_Space_held := ⟨a33, i33, k33⟩,
      k_Space_held := k33,
      F_Space_held := fun_mk (st := s_Space_held) l33 c33 k33,
      b_Space_held := (fun_mk (st := s_Space_held) l33 c33 k33).binds (fun _ _ _ _ _ _ us hl => match us, hl with | [_], _ => rfl),
      me_Space_all_roots := ⟨a34, i34, k34⟩,
      k_Space_all_roots := k34,
      F_Space_all_roots := fun_mk (st := s_Space_all_roots) l34 c34 k34,
      b_Space_all_roots := (fun_mk (st := s_Space_all_roots) l34 c34 k34).binds (fun _ _ _ _ _ _ us hl => match us, hl with | [_], _ => rfl),
      me_Space_collect := ⟨a35, i35, k35⟩,
      k_Space_collect := k35,
      F_Space_collect := fun_mk (st := s_Space_collect) l35 c35 k35,
      b_Space_collect := (fun_mk (st := s_Space_collect) l35 c35 k35).binds (fun _ _ _ _ _ _ us hl => match us, hl with | [_], _ => rfl),
      me_Space_live_words := ⟨a36, i36, k36⟩,
      k_Space_live_words := k36,
      F_Space_live_words := fun_mk (st := s_Space_live_words) l36 c36 k36,
      b_Space_live_words := (fun_mk (st := s_Space_live_words) l36 c36 k36).binds (fun _ _ _ _ _ _ us hl => match us, hl with | [_], _ => rfl),
      me_Space_new := ⟨a37, i37, k37⟩,
      k_Space_new := k37,
      F_Space_new := fun_mk (st := s_Space_new) l37 c37 k37,
      b_Space_new := (fun_mk (st := s_Space_new) l37 c37 k37).binds (fun _ _ _ _ _ _ us hl => match us, hl with | [_, _, _], _ => rfl),
      me_Space_begin := ⟨a38, i38, k38⟩,
      k_Space_begin := k38,
      F_Space_begin := fun_mk (st := s_Space_begin) l38 c38 k38,
      b_Space_begin := (fun_mk (st := s_Space_begin) l38 c38 k38).binds (fun _ _ _ _ _ _ us hl => match us, hl with | [_], _ => rfl),
      me_Space_commit := ⟨a39, i39, k39⟩,
      k_Space_commit := k39,
      F_Space_commit := fun_mk (st := s_Space_commit) l39 c39 k39,
      b_Space_commit := (fun_mk (st := s_Space_commit) l39 c39 k39).binds (fun _ _ _ _ _ _ us hl => match us, hl with | [_], _ => rfl),
      me_Space_abort := ⟨a40, i40, k40⟩,
      k_Space_abort := k40,
      F_Space_abort := fun_mk (st := s_Space_abort) l40 c40 k40,
      b_Space_abort := (fun_mk (st := s_Space_abort) l40 c40 k40).binds (fun _ _ _ _ _ _ us hl => match us, hl with | [_], _ => rfl),
      me_Space__collect_beside := ⟨a41, i41, k41⟩,
      k_Space__collect_beside := k41,
      F_Space__collect_beside := fun_mk (st := s_Space__collect_beside) l41 c41 k41,
      b_Space__collect_beside := (fun_mk (st := s_Space__collect_beside) l41 c41 k41).binds (fun _ _ _ _ _ _ us hl => match us, hl with | [_, _], _ => rfl),
      g__law_number := PySem.W.mg_of X G a42,
      k__law_number := k42,
      F__law_number := fun_mk (st := s__law_number) l42 c42 k42,
      b__law_number := (fun_mk (st := s__law_number) l42 c42 k42).binds (fun _ _ _ _ _ _ us hl => match us, hl with | [_, _], _ => rfl),
      g__law_word := PySem.W.mg_of X G a43,
      k__law_word := k43,
      F__law_word := fun_mk (st := s__law_word) l43 c43 k43,
      b__law_word := (fun_mk (st := s__law_word) l43 c43 k43).binds (fun _ _ _ _ _ _ us hl => match us, hl with | [_, _], _ => rfl),
      g__law_is := PySem.W.mg_of X G a44,
      k__law_is := k44,
      F__law_is := fun_mk (st := s__law_is) l44 c44 k44,
      b__law_is := (fun_mk (st := s__law_is) l44 c44 k44).binds (fun _ _ _ _ _ _ us hl => match us, hl with | [_, _], _ => rfl),
      g__law_same := PySem.W.mg_of X G a45,
      k__law_same := k45,
      F__law_same := fun_mk (st := s__law_same) l45 c45 k45,
      b__law_same := (fun_mk (st := s__law_same) l45 c45 k45).binds (fun _ _ _ _ _ _ us hl => match us, hl with | [_, _], _ => rfl),
      g__law_sizes := PySem.W.mg_of X G a46,
      k__law_sizes := k46,
      F__law_sizes := fun_mk (st := s__law_sizes) l46 c46 k46,
      b__law_sizes := (fun_mk (st := s__law_sizes) l46 c46 k46).binds (fun _ _ _ _ _ _ us hl => match us, hl with | [_], _ => rfl),
      g__law_rows := PySem.W.mg_of X G a47,
      k__law_rows := k47,
      F__law_rows := fun_mk (st := s__law_rows) l47 c47 k47,
      b__law_rows := (fun_mk (st := s__law_rows) l47 c47 k47).binds (fun _ _ _ _ _ _ us hl => match us, hl with | [_, _], _ => rfl),
      g__law_roots := PySem.W.mg_of X G a48,
      k__law_roots := k48,
      F__law_roots := fun_mk (st := s__law_roots) l48 c48 k48,
      b__law_roots := (fun_mk (st := s__law_roots) l48 c48 k48).binds (fun _ _ _ _ _ _ us hl => match us, hl with | [_, _], _ => rfl),
      g__law_space := PySem.W.mg_of X G a49,
      k__law_space := k49,
      F__law_space := fun_mk (st := s__law_space) l49 c49 k49,
      b__law_space := (fun_mk (st := s__law_space) l49 c49 k49).binds (fun _ _ _ _ _ _ us hl => match us, hl with | [_, _], _ => rfl),
      g__law_walk := PySem.W.mg_of X G a50,
      k__law_walk := k50,
      F__law_walk := fun_mk (st := s__law_walk) l50 c50 k50,
      b__law_walk := (fun_mk (st := s__law_walk) l50 c50 k50).binds (fun _ _ _ _ _ _ us hl => match us, hl with | [_, _, _], _ => rfl),
      g__law_extended := PySem.W.mg_of X G a51,
      k__law_extended := k51,
      F__law_extended := fun_mk (st := s__law_extended) l51 c51 k51,
      b__law_extended := (fun_mk (st := s__law_extended) l51 c51 k51).binds (fun _ _ _ _ _ _ us hl => match us, hl with | [_, _, _], _ => rfl),
      g__law_best := PySem.W.mg_of X G a52,
      k__law_best := k52,
      F__law_best := fun_mk (st := s__law_best) l52 c52 k52,
      b__law_best := (fun_mk (st := s__law_best) l52 c52 k52).binds (fun _ _ _ _ _ _ us hl => match us, hl with | [_, _], _ => rfl),
      g__law_path_is := PySem.W.mg_of X G a53,
      k__law_path_is := k53,
      F__law_path_is := fun_mk (st := s__law_path_is) l53 c53 k53,
      b__law_path_is := (fun_mk (st := s__law_path_is) l53 c53 k53).binds (fun _ _ _ _ _ _ us hl => match us, hl with | [_, _], _ => rfl),
      g__law_told := PySem.W.mg_of X G a54,
      k__law_told := k54,
      F__law_told := fun_mk (st := s__law_told) l54 c54 k54,
      b__law_told := (fun_mk (st := s__law_told) l54 c54 k54).binds (fun _ _ _ _ _ _ us hl => match us, hl with | [_, _, _, _], _ => rfl),
      g__law_drawn := PySem.W.mg_of X G a55,
      k__law_drawn := k55,
      F__law_drawn := fun_mk (st := s__law_drawn) l55 c55 k55,
      b__law_drawn := (fun_mk (st := s__law_drawn) l55 c55 k55).binds (fun _ _ _ _ _ _ us hl => match us, hl with | [_, _, _], _ => rfl),
      g__law_kept := PySem.W.mg_of X G a56,
      k__law_kept := k56,
      F__law_kept := fun_mk (st := s__law_kept) l56 c56 k56,
      b__law_kept := (fun_mk (st := s__law_kept) l56 c56 k56).binds (fun _ _ _ _ _ _ us hl => match us, hl with | [_, _, _], _ => rfl),
      g_law := PySem.W.mg_of X G a57,
      k_law := k57,
      F_law := fun_mk (st := s_law) l57 c57 k57,
      b_law := (fun_mk (st := s_law) l57 c57 k57).binds (fun _ _ _ _ _ _ us hl => match us, hl with | [_], _ => rfl),
      c_NIL := PySem.W.mg_of X G q_NIL,
      c_HEADER := PySem.W.mg_of X G q_HEADER,
      c_ROOTS := PySem.W.mg_of X G q_ROOTS,
      al_collect_collecting := PySem.W.mg_of X G al_collect_collecting,
      h_heappop := PySem.W.mg_of X G h_heappop,
      h_heappush := PySem.W.mg_of X G h_heappush,
      z_ValueError := PySem.W.mg_none_of X G z_ValueError,
      z_bool := PySem.W.mg_none_of X G z_bool,
      z_dict := PySem.W.mg_none_of X G z_dict,
      z_enumerate := PySem.W.mg_none_of X G z_enumerate,
      z_int := PySem.W.mg_none_of X G z_int,
      z_isinstance := PySem.W.mg_none_of X G z_isinstance,
      z_len := PySem.W.mg_none_of X G z_len,
      z_list := PySem.W.mg_none_of X G z_list,
      z_range := PySem.W.mg_none_of X G z_range,
      z_sorted := PySem.W.mg_none_of X G z_sorted,
      z_tuple := PySem.W.mg_none_of X G z_tuple }
  exact ⟨_, fun s v => .of_eq rfl, fun base _ _ => ok_law T⟩
theorem walk {l : PySem.W.OpenLaw} {q : Program} {loose : List Str} {XP : (Str → Option Value) → Heap → Prop} {YP : World → Heap → Prop} {d : DefRec} {K : Params → PySem.W.Frag} (hn : l.most = some 63) (hdf : d.params.defaults = [])
    (hY : ∀ (w : World) (h : Heap), YP w h → (K w.params).In h)
    (F : ∀ (w : World) (mg : Str → Option Value) (fa : Addr) (h : Heap), (K w.params).In h → h.Ns mainGlobals mg → mg d.name = some (.ref fa) →
      ∃ fd : FuncData, (∀ (s : Shared) (u : Value), BindsTo s fd ⟨[u], []⟩ [("script", u)]) ∧ ∀ base : Heap, (K w.params).In base → base.Ns mainGlobals mg → FnOk l.prog w (K w.params) mg base CX0 8 fa fd ["script"] (sp_law (K w.params))) :
    PySem.W.WalkO q loose XP YP l.row.toRowW d [] (fun f vs => PySem.call f vs) :=
  L2.walk_of (n := 63) (k := 8) (x := "script") (CX := fun _ => CX0) (sp := fun w => sp_law (K w.params)) hn (by decide) hdf ⟨rfl, by decide, by decide⟩ hY F (fun _ _ a ns hl _ hS => ⟨a, ns, rfl, hS, hl, fun _ => rfl⟩) fun _ _ _ _ _ z => z

end My
open PySem PySem.W PyProof.Rows
set_option maxRecDepth 100000 in
set_option maxHeartbeats 0 in
theorem PySem.Challenge.cw_saggar_k64_best_paths_holds : PySem.Challenge.rw_saggar_k64_best_paths.Holds := by
  w_on; o_law; k_head; (case hw => w_witness2)
  k_fill
  refine My.walk (l := PySem.Challenge.rw_saggar_k64_best_paths) rfl rfl (fun w h Y => PySem.W.kIn_of Y) ?F
  case F =>
    intro w mg fa h KX G hmg
    refine' My.all_mk KX G hmg ?m_SaggarError ?m_NoRoom ?m_NoNumber ?m_Store ?m_Space ?xl_NoRoom ?sa_NoRoom ?ga_NoRoom ?gg_NoRoom ?ic_NoRoom ?ti_NoRoom ?kc_NoRoom ?ec_NoRoom ?tc_NoRoom ?hc_NoRoom ?ha_NoRoom ?hn_NoRoom ?ht_NoRoom ?hm_NoRoom ?no_NoRoom_need ?ex_NoRoom_NoNumber ?ex_NoRoom_NoRoom ?xl_NoNumber ?sa_NoNumber ?ga_NoNumber ?gg_NoNumber ?ic_NoNumber ?ti_NoNumber ?kc_NoNumber ?ec_NoNumber ?tc_NoNumber ?hc_NoNumber ?ha_NoNumber ?hn_NoNumber ?ht_NoNumber ?hm_NoNumber ?no_NoNumber_limit ?ex_NoNumber_NoNumber ?ex_NoNumber_NoRoom ?pg_Store ?hd_Store ?po_Store ?sa_Store ?mi_Store ?kc_Store ?no_Store_room ?no_Store_entries ?no_Store_words ?no_Store__places ?no_Store__free ?no_Store__fresh ?pg_Space ?hd_Space ?po_Space ?sa_Space ?mi_Space ?kc_Space ?no_Space_store ?no_Space_always ?no_Space_pressure ?no_Space_allocations ?no_Space_collections ?no_Space__roots ?no_Space__held ?no_Space__moments ?no_Space__work ?a0 ?l0 ?c0 ?k0 ?l1 ?c1 ?k1 ?l2 ?c2 ?k2 ?a3 ?l3 ?c3 ?k3 ?a4 ?i4 ?l4 ?c4 ?k4 ?a5 ?i5 ?l5 ?c5 ?k5 ?a6 ?i6 ?l6 ?c6 ?k6 ?a7 ?i7 ?l7 ?c7 ?k7 ?a8 ?i8 ?l8 ?c8 ?k8 ?a9 ?i9 ?l9 ?c9 ?k9 ?a10 ?i10 ?l10 ?c10 ?k10 ?a11 ?i11 ?l11 ?c11 ?k11 ?a12 ?i12 ?l12 ?c12 ?k12 ?a13 ?i13 ?l13 ?c13 ?k13 ?a14 ?i14 ?l14 ?c14 ?k14 ?a15 ?i15 ?l15 ?c15 ?k15 ?a16 ?i16 ?l16 ?c16 ?k16 ?a17 ?i17 ?l17 ?c17 ?k17 ?a18 ?i18 ?l18 ?c18 ?k18 ?a19 ?i19 ?l19 ?c19 ?k19 ?a20 ?i20 ?l20 ?c20 ?k20 ?a21 ?l21 ?c21 ?k21 ?a22 ?l22 ?c22 ?k22 ?a23 ?l23 ?c23 ?k23 ?a24 ?l24 ?c24 ?k24 ?a25 ?l25 ?c25 ?k25 ?a26 ?l26 ?c26 ?k26 ?a27 ?l27 ?c27 ?k27 ?a28 ?i28 ?l28 ?c28 ?k28 ?a29 ?i29 ?l29 ?c29 ?k29 ?a30 ?i30 ?l30 ?c30 ?k30 ?a31 ?i31 ?l31 ?c31 ?k31 ?a32 ?i32 ?l32 ?c32 ?k32 ?a33 ?i33 ?l33 ?c33 ?k33 ?a34 ?i34 ?l34 ?c34 ?k34 ?a35 ?i35 ?l35 ?c35 ?k35 ?a36 ?i36 ?l36 ?c36 ?k36 ?a37 ?i37 ?l37 ?c37 ?k37 ?a38 ?i38 ?l38 ?c38 ?k38 ?a39 ?i39 ?l39 ?c39 ?k39 ?a40 ?i40 ?l40 ?c40 ?k40 ?a41 ?i41 ?l41 ?c41 ?k41 ?a42 ?l42 ?c42 ?k42 ?a43 ?l43 ?c43 ?k43 ?a44 ?l44 ?c44 ?k44 ?a45 ?l45 ?c45 ?k45 ?a46 ?l46 ?c46 ?k46 ?a47 ?l47 ?c47 ?k47 ?a48 ?l48 ?c48 ?k48 ?a49 ?l49 ?c49 ?k49 ?a50 ?l50 ?c50 ?k50 ?a51 ?l51 ?c51 ?k51 ?a52 ?l52 ?c52 ?k52 ?a53 ?l53 ?c53 ?k53 ?a54 ?l54 ?c54 ?k54 ?a55 ?l55 ?c55 ?k55 ?a56 ?l56 ?c56 ?k56 ?a57 ?l57 ?c57 ?k57 ?q_NIL ?q_HEADER ?q_ROOTS ?al_collect_collecting ?h_heappop ?h_heappush ?z_ValueError ?z_bool ?z_dict ?z_enumerate ?z_int ?z_isinstance ?z_len ?z_list ?z_range ?z_sorted ?z_tuple
    (case m_SaggarError => first | k_is | kit_is | kts_exm)
    (case m_NoRoom => first | k_is | kit_is | kts_exm)
    (case m_NoNumber => first | k_is | kit_is | kts_exm)
    (case m_Store => first | k_is | kit_is | kts_exm)
    (case m_Space => first | k_is | kit_is | kts_exm)
    (case xl_NoRoom => first | k_is | kit_is | kts_exm)
    (case sa_NoRoom => first | k_is | kit_is | kts_exm)
    (case ga_NoRoom => first | k_is | kit_is | kts_exm)
    (case gg_NoRoom => first | k_is | kit_is | kts_exm)
    (case ic_NoRoom => first | k_is | kit_is | kts_exm)
    (case ti_NoRoom => first | k_is | kit_is | kts_exm)
    (case kc_NoRoom => first | k_is | kit_is | kts_exm)
    (case ec_NoRoom => first | k_is | kit_is | kts_exm)
    (case tc_NoRoom => first | k_is | kit_is | kts_exm)
    (case hc_NoRoom => first | k_is | kit_is | kts_exm)
    (case ha_NoRoom => first | k_is | kit_is | kts_exm)
    (case hn_NoRoom => first | k_is | kit_is | kts_exm)
    (case ht_NoRoom => first | k_is | kit_is | kts_exm)
    (case hm_NoRoom => first | k_is | kit_is | kts_exm)
    (case no_NoRoom_need => first | k_is | kit_is | kts_exm)
    (case ex_NoRoom_NoNumber => first | k_is | kit_is | kts_exm)
    (case ex_NoRoom_NoRoom => first | k_is | kit_is | kts_exm)
    (case xl_NoNumber => first | k_is | kit_is | kts_exm)
    (case sa_NoNumber => first | k_is | kit_is | kts_exm)
    (case ga_NoNumber => first | k_is | kit_is | kts_exm)
    (case gg_NoNumber => first | k_is | kit_is | kts_exm)
    (case ic_NoNumber => first | k_is | kit_is | kts_exm)
    (case ti_NoNumber => first | k_is | kit_is | kts_exm)
    (case kc_NoNumber => first | k_is | kit_is | kts_exm)
    (case ec_NoNumber => first | k_is | kit_is | kts_exm)
    (case tc_NoNumber => first | k_is | kit_is | kts_exm)
    (case hc_NoNumber => first | k_is | kit_is | kts_exm)
    (case ha_NoNumber => first | k_is | kit_is | kts_exm)
    (case hn_NoNumber => first | k_is | kit_is | kts_exm)
    (case ht_NoNumber => first | k_is | kit_is | kts_exm)
    (case hm_NoNumber => first | k_is | kit_is | kts_exm)
    (case no_NoNumber_limit => first | k_is | kit_is | kts_exm)
    (case ex_NoNumber_NoNumber => first | k_is | kit_is | kts_exm)
    (case ex_NoNumber_NoRoom => first | k_is | kit_is | kts_exm)
    (case pg_Store => first | k_is | kit_is | kts_exm)
    (case hd_Store => first | k_is | kit_is | kts_exm)
    (case po_Store => first | k_is | kit_is | kts_exm)
    (case sa_Store => first | k_is | kit_is | kts_exm)
    (case mi_Store => first | k_is | kit_is | kts_exm)
    (case kc_Store => first | k_is | kit_is | kts_exm)
    (case no_Store_room => first | k_is | kit_is | kts_exm)
    (case no_Store_entries => first | k_is | kit_is | kts_exm)
    (case no_Store_words => first | k_is | kit_is | kts_exm)
    (case no_Store__places => first | k_is | kit_is | kts_exm)
    (case no_Store__free => first | k_is | kit_is | kts_exm)
    (case no_Store__fresh => first | k_is | kit_is | kts_exm)
    (case pg_Space => first | k_is | kit_is | kts_exm)
    (case hd_Space => first | k_is | kit_is | kts_exm)
    (case po_Space => first | k_is | kit_is | kts_exm)
    (case sa_Space => first | k_is | kit_is | kts_exm)
    (case mi_Space => first | k_is | kit_is | kts_exm)
    (case kc_Space => first | k_is | kit_is | kts_exm)
    (case no_Space_store => first | k_is | kit_is | kts_exm)
    (case no_Space_always => first | k_is | kit_is | kts_exm)
    (case no_Space_pressure => first | k_is | kit_is | kts_exm)
    (case no_Space_allocations => first | k_is | kit_is | kts_exm)
    (case no_Space_collections => first | k_is | kit_is | kts_exm)
    (case no_Space__roots => first | k_is | kit_is | kts_exm)
    (case no_Space__held => first | k_is | kit_is | kts_exm)
    (case no_Space__moments => first | k_is | kit_is | kts_exm)
    (case no_Space__work => first | k_is | kit_is | kts_exm)
    (case a0 => first | k_is | kit_is | kts_exm)
    (case l0 => first | k_is | kit_is | kts_exm)
    (case c0 => first | k_is | kit_is | kts_exm)
    (case k0 => first | k_is | kit_is | kts_exm)
    (case l1 => first | k_is | kit_is | kts_exm)
    (case c1 => first | k_is | kit_is | kts_exm)
    (case k1 => first | k_is | kit_is | kts_exm)
    (case l2 => first | k_is | kit_is | kts_exm)
    (case c2 => first | k_is | kit_is | kts_exm)
    (case k2 => first | k_is | kit_is | kts_exm)
    (case a3 => first | k_is | kit_is | kts_exm)
    (case l3 => first | k_is | kit_is | kts_exm)
    (case c3 => first | k_is | kit_is | kts_exm)
    (case k3 => first | k_is | kit_is | kts_exm)
    (case a4 => first | k_is | kit_is | kts_exm)
    (case i4 => first | k_is | kit_is | kts_exm)
    (case l4 => first | k_is | kit_is | kts_exm)
    (case c4 => first | k_is | kit_is | kts_exm)
    (case k4 => first | k_is | kit_is | kts_exm)
    (case a5 => first | k_is | kit_is | kts_exm)
    (case i5 => first | k_is | kit_is | kts_exm)
    (case l5 => first | k_is | kit_is | kts_exm)
    (case c5 => first | k_is | kit_is | kts_exm)
    (case k5 => first | k_is | kit_is | kts_exm)
    (case a6 => first | k_is | kit_is | kts_exm)
    (case i6 => first | k_is | kit_is | kts_exm)
    (case l6 => first | k_is | kit_is | kts_exm)
    (case c6 => first | k_is | kit_is | kts_exm)
    (case k6 => first | k_is | kit_is | kts_exm)
    (case a7 => first | k_is | kit_is | kts_exm)
    (case i7 => first | k_is | kit_is | kts_exm)
    (case l7 => first | k_is | kit_is | kts_exm)
    (case c7 => first | k_is | kit_is | kts_exm)
    (case k7 => first | k_is | kit_is | kts_exm)
    (case a8 => first | k_is | kit_is | kts_exm)
    (case i8 => first | k_is | kit_is | kts_exm)
    (case l8 => first | k_is | kit_is | kts_exm)
    (case c8 => first | k_is | kit_is | kts_exm)
    (case k8 => first | k_is | kit_is | kts_exm)
    (case a9 => first | k_is | kit_is | kts_exm)
    (case i9 => first | k_is | kit_is | kts_exm)
    (case l9 => first | k_is | kit_is | kts_exm)
    (case c9 => first | k_is | kit_is | kts_exm)
    (case k9 => first | k_is | kit_is | kts_exm)
    (case a10 => first | k_is | kit_is | kts_exm)
    (case i10 => first | k_is | kit_is | kts_exm)
    (case l10 => first | k_is | kit_is | kts_exm)
    (case c10 => first | k_is | kit_is | kts_exm)
    (case k10 => first | k_is | kit_is | kts_exm)
    (case a11 => first | k_is | kit_is | kts_exm)
    (case i11 => first | k_is | kit_is | kts_exm)
    (case l11 => first | k_is | kit_is | kts_exm)
    (case c11 => first | k_is | kit_is | kts_exm)
    (case k11 => first | k_is | kit_is | kts_exm)
    (case a12 => first | k_is | kit_is | kts_exm)
    (case i12 => first | k_is | kit_is | kts_exm)
    (case l12 => first | k_is | kit_is | kts_exm)
    (case c12 => first | k_is | kit_is | kts_exm)
    (case k12 => first | k_is | kit_is | kts_exm)
    (case a13 => first | k_is | kit_is | kts_exm)
    (case i13 => first | k_is | kit_is | kts_exm)
    (case l13 => first | k_is | kit_is | kts_exm)
    (case c13 => first | k_is | kit_is | kts_exm)
    (case k13 => first | k_is | kit_is | kts_exm)
    (case a14 => first | k_is | kit_is | kts_exm)
    (case i14 => first | k_is | kit_is | kts_exm)
    (case l14 => first | k_is | kit_is | kts_exm)
    (case c14 => first | k_is | kit_is | kts_exm)
    (case k14 => first | k_is | kit_is | kts_exm)
    (case a15 => first | k_is | kit_is | kts_exm)
    (case i15 => first | k_is | kit_is | kts_exm)
    (case l15 => first | k_is | kit_is | kts_exm)
    (case c15 => first | k_is | kit_is | kts_exm)
    (case k15 => first | k_is | kit_is | kts_exm)
    (case a16 => first | k_is | kit_is | kts_exm)
    (case i16 => first | k_is | kit_is | kts_exm)
    (case l16 => first | k_is | kit_is | kts_exm)
    (case c16 => first | k_is | kit_is | kts_exm)
    (case k16 => first | k_is | kit_is | kts_exm)
    (case a17 => first | k_is | kit_is | kts_exm)
    (case i17 => first | k_is | kit_is | kts_exm)
    (case l17 => first | k_is | kit_is | kts_exm)
    (case c17 => first | k_is | kit_is | kts_exm)
    (case k17 => first | k_is | kit_is | kts_exm)
    (case a18 => first | k_is | kit_is | kts_exm)
    (case i18 => first | k_is | kit_is | kts_exm)
    (case l18 => first | k_is | kit_is | kts_exm)
    (case c18 => first | k_is | kit_is | kts_exm)
    (case k18 => first | k_is | kit_is | kts_exm)
    (case a19 => first | k_is | kit_is | kts_exm)
    (case i19 => first | k_is | kit_is | kts_exm)
    (case l19 => first | k_is | kit_is | kts_exm)
    (case c19 => first | k_is | kit_is | kts_exm)
    (case k19 => first | k_is | kit_is | kts_exm)
    (case a20 => first | k_is | kit_is | kts_exm)
    (case i20 => first | k_is | kit_is | kts_exm)
    (case l20 => first | k_is | kit_is | kts_exm)
    (case c20 => first | k_is | kit_is | kts_exm)
    (case k20 => first | k_is | kit_is | kts_exm)
    (case a21 => first | k_is | kit_is | kts_exm)
    (case l21 => first | k_is | kit_is | kts_exm)
    (case c21 => first | k_is | kit_is | kts_exm)
    (case k21 => first | k_is | kit_is | kts_exm)
    (case a22 => first | k_is | kit_is | kts_exm)
    (case l22 => first | k_is | kit_is | kts_exm)
    (case c22 => first | k_is | kit_is | kts_exm)
    (case k22 => first | k_is | kit_is | kts_exm)
    (case a23 => first | k_is | kit_is | kts_exm)
    (case l23 => first | k_is | kit_is | kts_exm)
    (case c23 => first | k_is | kit_is | kts_exm)
    (case k23 => first | k_is | kit_is | kts_exm)
    (case a24 => first | k_is | kit_is | kts_exm)
    (case l24 => first | k_is | kit_is | kts_exm)
    (case c24 => first | k_is | kit_is | kts_exm)
    (case k24 => first | k_is | kit_is | kts_exm)
    (case a25 => first | k_is | kit_is | kts_exm)
    (case l25 => first | k_is | kit_is | kts_exm)
    (case c25 => first | k_is | kit_is | kts_exm)
    (case k25 => first | k_is | kit_is | kts_exm)
    (case a26 => first | k_is | kit_is | kts_exm)
    (case l26 => first | k_is | kit_is | kts_exm)
    (case c26 => first | k_is | kit_is | kts_exm)
    (case k26 => first | k_is | kit_is | kts_exm)
    (case a27 => first | k_is | kit_is | kts_exm)
    (case l27 => first | k_is | kit_is | kts_exm)
    (case c27 => first | k_is | kit_is | kts_exm)
    (case k27 => first | k_is | kit_is | kts_exm)
    (case a28 => first | k_is | kit_is | kts_exm)
    (case i28 => first | k_is | kit_is | kts_exm)
    (case l28 => first | k_is | kit_is | kts_exm)
    (case c28 => first | k_is | kit_is | kts_exm)
    (case k28 => first | k_is | kit_is | kts_exm)
    (case a29 => first | k_is | kit_is | kts_exm)
    (case i29 => first | k_is | kit_is | kts_exm)
    (case l29 => first | k_is | kit_is | kts_exm)
    (case c29 => first | k_is | kit_is | kts_exm)
    (case k29 => first | k_is | kit_is | kts_exm)
    (case a30 => first | k_is | kit_is | kts_exm)
    (case i30 => first | k_is | kit_is | kts_exm)
    (case l30 => first | k_is | kit_is | kts_exm)
    (case c30 => first | k_is | kit_is | kts_exm)
    (case k30 => first | k_is | kit_is | kts_exm)
    (case a31 => first | k_is | kit_is | kts_exm)
    (case i31 => first | k_is | kit_is | kts_exm)
    (case l31 => first | k_is | kit_is | kts_exm)
    (case c31 => first | k_is | kit_is | kts_exm)
    (case k31 => first | k_is | kit_is | kts_exm)
    (case a32 => first | k_is | kit_is | kts_exm)
    (case i32 => first | k_is | kit_is | kts_exm)
    (case l32 => first | k_is | kit_is | kts_exm)
    (case c32 => first | k_is | kit_is | kts_exm)
    (case k32 => first | k_is | kit_is | kts_exm)
    (case a33 => first | k_is | kit_is | kts_exm)
    (case i33 => first | k_is | kit_is | kts_exm)
    (case l33 => first | k_is | kit_is | kts_exm)
    (case c33 => first | k_is | kit_is | kts_exm)
    (case k33 => first | k_is | kit_is | kts_exm)
    (case a34 => first | k_is | kit_is | kts_exm)
    (case i34 => first | k_is | kit_is | kts_exm)
    (case l34 => first | k_is | kit_is | kts_exm)
    (case c34 => first | k_is | kit_is | kts_exm)
    (case k34 => first | k_is | kit_is | kts_exm)
    (case a35 => first | k_is | kit_is | kts_exm)
    (case i35 => first | k_is | kit_is | kts_exm)
    (case l35 => first | k_is | kit_is | kts_exm)
    (case c35 => first | k_is | kit_is | kts_exm)
    (case k35 => first | k_is | kit_is | kts_exm)
    (case a36 => first | k_is | kit_is | kts_exm)
    (case i36 => first | k_is | kit_is | kts_exm)
    (case l36 => first | k_is | kit_is | kts_exm)
    (case c36 => first | k_is | kit_is | kts_exm)
    (case k36 => first | k_is | kit_is | kts_exm)
    (case a37 => first | k_is | kit_is | kts_exm)
    (case i37 => first | k_is | kit_is | kts_exm)
    (case l37 => first | k_is | kit_is | kts_exm)
    (case c37 => first | k_is | kit_is | kts_exm)
    (case k37 => first | k_is | kit_is | kts_exm)
    (case a38 => first | k_is | kit_is | kts_exm)
    (case i38 => first | k_is | kit_is | kts_exm)
    (case l38 => first | k_is | kit_is | kts_exm)
    (case c38 => first | k_is | kit_is | kts_exm)
    (case k38 => first | k_is | kit_is | kts_exm)
    (case a39 => first | k_is | kit_is | kts_exm)
    (case i39 => first | k_is | kit_is | kts_exm)
    (case l39 => first | k_is | kit_is | kts_exm)
    (case c39 => first | k_is | kit_is | kts_exm)
    (case k39 => first | k_is | kit_is | kts_exm)
    (case a40 => first | k_is | kit_is | kts_exm)
    (case i40 => first | k_is | kit_is | kts_exm)
    (case l40 => first | k_is | kit_is | kts_exm)
    (case c40 => first | k_is | kit_is | kts_exm)
    (case k40 => first | k_is | kit_is | kts_exm)
    (case a41 => first | k_is | kit_is | kts_exm)
    (case i41 => first | k_is | kit_is | kts_exm)
    (case l41 => first | k_is | kit_is | kts_exm)
    (case c41 => first | k_is | kit_is | kts_exm)
    (case k41 => first | k_is | kit_is | kts_exm)
    (case a42 => first | k_is | kit_is | kts_exm)
    (case l42 => first | k_is | kit_is | kts_exm)
    (case c42 => first | k_is | kit_is | kts_exm)
    (case k42 => first | k_is | kit_is | kts_exm)
    (case a43 => first | k_is | kit_is | kts_exm)
    (case l43 => first | k_is | kit_is | kts_exm)
    (case c43 => first | k_is | kit_is | kts_exm)
    (case k43 => first | k_is | kit_is | kts_exm)
    (case a44 => first | k_is | kit_is | kts_exm)
    (case l44 => first | k_is | kit_is | kts_exm)
    (case c44 => first | k_is | kit_is | kts_exm)
    (case k44 => first | k_is | kit_is | kts_exm)
    (case a45 => first | k_is | kit_is | kts_exm)
    (case l45 => first | k_is | kit_is | kts_exm)
    (case c45 => first | k_is | kit_is | kts_exm)
    (case k45 => first | k_is | kit_is | kts_exm)
    (case a46 => first | k_is | kit_is | kts_exm)
    (case l46 => first | k_is | kit_is | kts_exm)
    (case c46 => first | k_is | kit_is | kts_exm)
    (case k46 => first | k_is | kit_is | kts_exm)
    (case a47 => first | k_is | kit_is | kts_exm)
    (case l47 => first | k_is | kit_is | kts_exm)
    (case c47 => first | k_is | kit_is | kts_exm)
    (case k47 => first | k_is | kit_is | kts_exm)
    (case a48 => first | k_is | kit_is | kts_exm)
    (case l48 => first | k_is | kit_is | kts_exm)
    (case c48 => first | k_is | kit_is | kts_exm)
    (case k48 => first | k_is | kit_is | kts_exm)
    (case a49 => first | k_is | kit_is | kts_exm)
    (case l49 => first | k_is | kit_is | kts_exm)
    (case c49 => first | k_is | kit_is | kts_exm)
    (case k49 => first | k_is | kit_is | kts_exm)
    (case a50 => first | k_is | kit_is | kts_exm)
    (case l50 => first | k_is | kit_is | kts_exm)
    (case c50 => first | k_is | kit_is | kts_exm)
    (case k50 => first | k_is | kit_is | kts_exm)
    (case a51 => first | k_is | kit_is | kts_exm)
    (case l51 => first | k_is | kit_is | kts_exm)
    (case c51 => first | k_is | kit_is | kts_exm)
    (case k51 => first | k_is | kit_is | kts_exm)
    (case a52 => first | k_is | kit_is | kts_exm)
    (case l52 => first | k_is | kit_is | kts_exm)
    (case c52 => first | k_is | kit_is | kts_exm)
    (case k52 => first | k_is | kit_is | kts_exm)
    (case a53 => first | k_is | kit_is | kts_exm)
    (case l53 => first | k_is | kit_is | kts_exm)
    (case c53 => first | k_is | kit_is | kts_exm)
    (case k53 => first | k_is | kit_is | kts_exm)
    (case a54 => first | k_is | kit_is | kts_exm)
    (case l54 => first | k_is | kit_is | kts_exm)
    (case c54 => first | k_is | kit_is | kts_exm)
    (case k54 => first | k_is | kit_is | kts_exm)
    (case a55 => first | k_is | kit_is | kts_exm)
    (case l55 => first | k_is | kit_is | kts_exm)
    (case c55 => first | k_is | kit_is | kts_exm)
    (case k55 => first | k_is | kit_is | kts_exm)
    (case a56 => first | k_is | kit_is | kts_exm)
    (case l56 => first | k_is | kit_is | kts_exm)
    (case c56 => first | k_is | kit_is | kts_exm)
    (case k56 => first | k_is | kit_is | kts_exm)
    (case a57 => first | k_is | kit_is | kts_exm)
    (case l57 => first | k_is | kit_is | kts_exm)
    (case c57 => first | k_is | kit_is | kts_exm)
    (case k57 => first | k_is | kit_is | kts_exm)
    (case q_NIL => first | k_is | kit_is | kts_exm)
    (case q_HEADER => first | k_is | kit_is | kts_exm)
    (case q_ROOTS => first | k_is | kit_is | kts_exm)
    (case al_collect_collecting => first | k_is | kit_is | kts_exm)
    (case h_heappop => first | k_is | kit_is | kts_exm)
    (case h_heappush => first | k_is | kit_is | kts_exm)
    (case z_ValueError => first | k_is | kit_is | kts_exm)
    (case z_bool => first | k_is | kit_is | kts_exm)
    (case z_dict => first | k_is | kit_is | kts_exm)
    (case z_enumerate => first | k_is | kit_is | kts_exm)
    (case z_int => first | k_is | kit_is | kts_exm)
    (case z_isinstance => first | k_is | kit_is | kts_exm)
    (case z_len => first | k_is | kit_is | kts_exm)
    (case z_list => first | k_is | kit_is | kts_exm)
    (case z_range => first | k_is | kit_is | kts_exm)
    (case z_sorted => first | k_is | kit_is | kts_exm)
    (case z_tuple => first | k_is | kit_is | kts_exm)
#print axioms PySem.Challenge.cw_saggar_k64_best_paths_holds
