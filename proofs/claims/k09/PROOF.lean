import PyProof.Rows.All
import Wide.All
import OpenK.AllK
import Wide.FinOn
import HandS.ForMost
import HandS.ForExc
import HandS.IsInst
import HandS.TupLe
import HandS.Evl
import HandS.ExcInit
import HandS.ExcField
import KE.KExcIs
import HandS.ExcCtx
import HandS.HotCalls
import HandS.Defaults
import HandS.SortInts
import HandS.Struct
import HandS.DictComp
import HandS.Wide
import PyProof.StrOps2
import KE.KDictExact
import KE.KDictWalk
import KE.KTryMore
import PyProof.Seq
import PySem.Challenge.RW_saggar_k09_whole_undone_work_leaves_no_t
set_option Elab.async false
set_option linter.all false
set_option maxRecDepth 100000
set_option maxHeartbeats 4000000

namespace My
open PySem PySem.Spec PyProof.Rows L2
/-! ### the text by places -/
def top (i : Nat) : Stmt := PySem.Challenge.pw_saggar_k09_whole_undone_work_leaves_no_t.main.body.getD i (.Pass ⟨0, 0, 0, 0⟩)
abbrev s_NoRoom___init__ : Stmt := inClass (top 3) 0
abbrev s_NoNumber___init__ : Stmt := inClass (top 4) 0
abbrev s_Wrong___init__ : Stmt := inClass (top 5) 0
abbrev s_is_ref : Stmt := top 8
abbrev s_Store___init__ : Stmt := inClass (top 11) 0
abbrev s_Store_used : Stmt := inClass (top 11) 1
abbrev s_Store_exists : Stmt := inClass (top 11) 2
abbrev s_Store_numbers : Stmt := inClass (top 11) 3
abbrev s_Store_free_number : Stmt := inClass (top 11) 4
abbrev s_Store_allocate : Stmt := inClass (top 11) 5
abbrev s_Store_size : Stmt := inClass (top 11) 6
abbrev s_Store_kind : Stmt := inClass (top 11) 7
abbrev s_Store_set_kind : Stmt := inClass (top 11) 8
abbrev s_Store_get : Stmt := inClass (top 11) 9
abbrev s_Store_put : Stmt := inClass (top 11) 10
abbrev s_Store_slots : Stmt := inClass (top 11) 11
abbrev s_Store_drop : Stmt := inClass (top 11) 12
abbrev s_Store_close_up : Stmt := inClass (top 11) 13
abbrev s_Store_snapshot : Stmt := inClass (top 11) 14
abbrev s_Store_restore : Stmt := inClass (top 11) 15
abbrev s_Store_exchange : Stmt := inClass (top 11) 16
abbrev s_reached : Stmt := top 13
abbrev s_words_of : Stmt := top 14
abbrev s_collect : Stmt := top 15
abbrev s_Space___init__ : Stmt := inClass (top 19) 0
abbrev s_Space_press : Stmt := inClass (top 19) 1
abbrev s_Space_root : Stmt := inClass (top 19) 2
abbrev s_Space_set_root : Stmt := inClass (top 19) 3
abbrev s_Space_hold : Stmt := inClass (top 19) 4
abbrev s_Space_drop : Stmt := inClass (top 19) 5
abbrev s_Space_held : Stmt := inClass (top 19) 6
abbrev s_Space_all_roots : Stmt := inClass (top 19) 7
abbrev s_Space_collect : Stmt := inClass (top 19) 8
abbrev s_Space_live_words : Stmt := inClass (top 19) 9
abbrev s_Space_new : Stmt := inClass (top 19) 10
abbrev s_Space_begin : Stmt := inClass (top 19) 11
abbrev s_Space_commit : Stmt := inClass (top 19) 12
abbrev s_Space_abort : Stmt := inClass (top 19) 13
abbrev s_Space__collect_beside : Stmt := inClass (top 19) 14
abbrev s__law_number : Stmt := top 21
abbrev s__law_deeds : Stmt := top 22
abbrev s__law_place : Stmt := top 23
abbrev s__law_word : Stmt := top 24
abbrev s__law_shown : Stmt := top 25
abbrev s__law_new : Stmt := top 26
abbrev s__law_held : Stmt := top 27
abbrev s__law_changed : Stmt := top 28
abbrev s__law_work : Stmt := top 29
abbrev s__law_done : Stmt := top 30
abbrev s__law_equal : Stmt := top 31
abbrev s__law_paired : Stmt := top 32
abbrev s__law_alike : Stmt := top 33
abbrev s__law_row : Stmt := top 34
abbrev s__law_state : Stmt := top 35
abbrev s__law_collected : Stmt := top 36
abbrev s__law_both : Stmt := top 37
abbrev s__law_begun : Stmt := top 38
abbrev s__law_grown : Stmt := top 39
abbrev s__law_first : Stmt := top 40
abbrev s__law_undone : Stmt := top 41
abbrev s__law_pressed : Stmt := top 42
abbrev s__law_limits : Stmt := top 43
abbrev s_law : Stmt := top 44
theorem sc_NoRoom___init__ : FnScope ["self", "need"] ["self", "need"] (defScope s_NoRoom___init__) := ⟨rfl, rfl, rfl, by decide +kernel, rfl, by decide +kernel, by decide +kernel⟩
theorem sc_NoNumber___init__ : FnScope ["self", "limit"] ["self", "limit"] (defScope s_NoNumber___init__) := ⟨rfl, rfl, rfl, by decide +kernel, rfl, by decide +kernel, by decide +kernel⟩
theorem sc_Wrong___init__ : FnScope ["self", "why"] ["self", "why"] (defScope s_Wrong___init__) := ⟨rfl, rfl, rfl, by decide +kernel, rfl, by decide +kernel, by decide +kernel⟩
theorem sc_is_ref : FnScope ["word"] ["word"] (defScope s_is_ref) := ⟨rfl, rfl, rfl, by decide +kernel, rfl, by decide +kernel, by decide +kernel⟩
theorem sc_Store___init__ : FnScope ["self", "room", "entries"] ["self", "room", "entries"] (defScope s_Store___init__) := ⟨rfl, rfl, rfl, by decide +kernel, rfl, by decide +kernel, by decide +kernel⟩
theorem sc_Store_used : FnScope ["self"] ["self"] (defScope s_Store_used) := ⟨rfl, rfl, rfl, by decide +kernel, rfl, by decide +kernel, by decide +kernel⟩
theorem sc_Store_exists : FnScope ["self", "number"] ["self", "number"] (defScope s_Store_exists) := ⟨rfl, rfl, rfl, by decide +kernel, rfl, by decide +kernel, by decide +kernel⟩
theorem sc_Store_numbers : FnScope ["self"] ["self"] (defScope s_Store_numbers) := ⟨rfl, rfl, rfl, by decide +kernel, rfl, by decide +kernel, by decide +kernel⟩
theorem sc_Store_free_number : FnScope ["self"] ["self"] (defScope s_Store_free_number) := ⟨rfl, rfl, rfl, by decide +kernel, rfl, by decide +kernel, by decide +kernel⟩
theorem sc_Store_allocate : FnScope ["self", "kind", "size", "need", "number"] ["self", "kind", "size"] (defScope s_Store_allocate) := ⟨rfl, rfl, rfl, by decide +kernel, rfl, by decide +kernel, by decide +kernel⟩
theorem sc_Store_size : FnScope ["self", "number"] ["self", "number"] (defScope s_Store_size) := ⟨rfl, rfl, rfl, by decide +kernel, rfl, by decide +kernel, by decide +kernel⟩
theorem sc_Store_kind : FnScope ["self", "number"] ["self", "number"] (defScope s_Store_kind) := ⟨rfl, rfl, rfl, by decide +kernel, rfl, by decide +kernel, by decide +kernel⟩
theorem sc_Store_set_kind : FnScope ["self", "number", "word"] ["self", "number", "word"] (defScope s_Store_set_kind) := ⟨rfl, rfl, rfl, by decide +kernel, rfl, by decide +kernel, by decide +kernel⟩
theorem sc_Store_get : FnScope ["self", "number", "at"] ["self", "number", "at"] (defScope s_Store_get) := ⟨rfl, rfl, rfl, by decide +kernel, rfl, by decide +kernel, by decide +kernel⟩
theorem sc_Store_put : FnScope ["self", "number", "at", "word"] ["self", "number", "at", "word"] (defScope s_Store_put) := ⟨rfl, rfl, rfl, by decide +kernel, rfl, by decide +kernel, by decide +kernel⟩
theorem sc_Store_slots : FnScope ["self", "number", "first"] ["self", "number"] (defScope s_Store_slots) := ⟨rfl, rfl, rfl, by decide +kernel, rfl, by decide +kernel, by decide +kernel⟩
theorem sc_Store_drop : FnScope ["self", "number"] ["self", "number"] (defScope s_Store_drop) := ⟨rfl, rfl, rfl, by decide +kernel, rfl, by decide +kernel, by decide +kernel⟩
theorem sc_Store_close_up : FnScope ["self", "kept", "places", "at", "number", "end"] ["self"] (defScope s_Store_close_up) := ⟨rfl, rfl, rfl, by decide +kernel, rfl, by decide +kernel, by decide +kernel⟩
theorem sc_Store_snapshot : FnScope ["self", "places", "number", "at"] ["self"] (defScope s_Store_snapshot) := ⟨rfl, rfl, rfl, by decide +kernel, rfl, by decide +kernel, by decide +kernel⟩
theorem sc_Store_restore : FnScope ["self", "snapshot", "words", "places", "free", "fresh", "number", "at"] ["self", "snapshot"] (defScope s_Store_restore) := ⟨rfl, rfl, rfl, by decide +kernel, rfl, by decide +kernel, by decide +kernel⟩
theorem sc_Store_exchange : FnScope ["self", "first", "second", "here", "there"] ["self", "first", "second"] (defScope s_Store_exchange) := ⟨rfl, rfl, rfl, by decide +kernel, rfl, by decide +kernel, by decide +kernel⟩
theorem sc_reached : FnScope ["store", "roots", "found", "waiting", "row", "word", "number"] ["store", "roots"] (defScope s_reached) := ⟨rfl, rfl, rfl, by decide +kernel, rfl, by decide +kernel, by decide +kernel⟩
theorem sc_words_of : FnScope ["store", "numbers", "number"] ["store", "numbers"] (defScope s_words_of) := ⟨rfl, rfl, rfl, by decide +kernel, rfl, by decide +kernel, by decide +kernel⟩
theorem sc_collect : FnScope ["store", "roots", "kept", "number", "lost"] ["store", "roots"] (defScope s_collect) := ⟨rfl, rfl, rfl, by decide +kernel, rfl, by decide +kernel, by decide +kernel⟩
theorem sc_Space___init__ : FnScope ["self", "room", "entries"] ["self", "room", "entries"] (defScope s_Space___init__) := ⟨rfl, rfl, rfl, by decide +kernel, rfl, by decide +kernel, by decide +kernel⟩
theorem sc_Space_press : FnScope ["self", "moments", "always", "moment"] ["self", "moments", "always"] (defScope s_Space_press) := ⟨rfl, rfl, rfl, by decide +kernel, rfl, by decide +kernel, by decide +kernel⟩
theorem sc_Space_root : FnScope ["self", "k"] ["self", "k"] (defScope s_Space_root) := ⟨rfl, rfl, rfl, by decide +kernel, rfl, by decide +kernel, by decide +kernel⟩
theorem sc_Space_set_root : FnScope ["self", "k", "word"] ["self", "k", "word"] (defScope s_Space_set_root) := ⟨rfl, rfl, rfl, by decide +kernel, rfl, by decide +kernel, by decide +kernel⟩
theorem sc_Space_hold : FnScope ["self", "word"] ["self", "word"] (defScope s_Space_hold) := ⟨rfl, rfl, rfl, by decide +kernel, rfl, by decide +kernel, by decide +kernel⟩
theorem sc_Space_drop : FnScope ["self", "count"] ["self", "count"] (defScope s_Space_drop) := ⟨rfl, rfl, rfl, by decide +kernel, rfl, by decide +kernel, by decide +kernel⟩
theorem sc_Space_held : FnScope ["self"] ["self"] (defScope s_Space_held) := ⟨rfl, rfl, rfl, by decide +kernel, rfl, by decide +kernel, by decide +kernel⟩
theorem sc_Space_all_roots : FnScope ["self"] ["self"] (defScope s_Space_all_roots) := ⟨rfl, rfl, rfl, by decide +kernel, rfl, by decide +kernel, by decide +kernel⟩
theorem sc_Space_collect : FnScope ["self"] ["self"] (defScope s_Space_collect) := ⟨rfl, rfl, rfl, by decide +kernel, rfl, by decide +kernel, by decide +kernel⟩
theorem sc_Space_live_words : FnScope ["self"] ["self"] (defScope s_Space_live_words) := ⟨rfl, rfl, rfl, by decide +kernel, rfl, by decide +kernel, by decide +kernel⟩
theorem sc_Space_new : FnScope ["self", "kind", "size"] ["self", "kind", "size"] (defScope s_Space_new) := ⟨rfl, rfl, rfl, by decide +kernel, rfl, by decide +kernel, by decide +kernel⟩
theorem sc_Space_begin : FnScope ["self"] ["self"] (defScope s_Space_begin) := ⟨rfl, rfl, rfl, by decide +kernel, rfl, by decide +kernel, by decide +kernel⟩
theorem sc_Space_commit : FnScope ["self"] ["self"] (defScope s_Space_commit) := ⟨rfl, rfl, rfl, by decide +kernel, rfl, by decide +kernel, by decide +kernel⟩
theorem sc_Space_abort : FnScope ["self", "snapshot", "roots", "held"] ["self"] (defScope s_Space_abort) := ⟨rfl, rfl, rfl, by decide +kernel, rfl, by decide +kernel, by decide +kernel⟩
theorem sc_Space__collect_beside : FnScope ["self", "words"] ["self", "words"] (defScope s_Space__collect_beside) := ⟨rfl, rfl, rfl, by decide +kernel, rfl, by decide +kernel, by decide +kernel⟩
theorem sc__law_number : FnScope ["cell", "k", "mixed"] ["cell", "k"] (defScope s__law_number) := ⟨rfl, rfl, rfl, by decide +kernel, rfl, by decide +kernel, by decide +kernel⟩
theorem sc__law_deeds : FnScope ["cell", "k"] ["cell", "k"] (defScope s__law_deeds) := ⟨rfl, rfl, rfl, by decide +kernel, rfl, by decide +kernel, by decide +kernel⟩
theorem sc__law_place : FnScope ["x", "place"] ["x"] (defScope s__law_place) := ⟨rfl, rfl, rfl, by decide +kernel, rfl, by decide +kernel, by decide +kernel⟩
theorem sc__law_word : FnScope ["space", "x", "rest"] ["space", "x"] (defScope s__law_word) := ⟨rfl, rfl, rfl, by decide +kernel, rfl, by decide +kernel, by decide +kernel⟩
theorem sc__law_shown : FnScope ["word"] ["word"] (defScope s__law_shown) := ⟨rfl, rfl, rfl, by decide +kernel, rfl, by decide +kernel, by decide +kernel⟩
theorem sc__law_new : FnScope ["space", "kind", "size", "place", "number", "e"] ["space", "kind", "size", "place"] (defScope s__law_new) := ⟨rfl, rfl, rfl, by decide +kernel, rfl, by decide +kernel, by decide +kernel⟩
theorem sc__law_held : FnScope ["space", "deed", "place", "rest", "held"] ["space", "deed", "place", "rest"] (defScope s__law_held) := ⟨rfl, rfl, rfl, by decide +kernel, rfl, by decide +kernel, by decide +kernel⟩
theorem sc__law_changed : FnScope ["space", "deed", "place", "rest", "word", "size", "at", "other"] ["space", "deed", "place", "rest"] (defScope s__law_changed) := ⟨rfl, rfl, rfl, by decide +kernel, rfl, by decide +kernel, by decide +kernel⟩
theorem sc__law_work : FnScope ["space", "deed", "e"] ["space", "deed"] (defScope s__law_work) := ⟨rfl, rfl, rfl, by decide +kernel, rfl, by decide +kernel, by decide +kernel⟩
theorem sc__law_done : FnScope ["space", "x", "deed", "place", "rest", "size", "kind"] ["space", "x"] (defScope s__law_done) := ⟨rfl, rfl, rfl, by decide +kernel, rfl, by decide +kernel, by decide +kernel⟩
theorem sc__law_equal : FnScope ["told", "due", "k"] ["told", "due"] (defScope s__law_equal) := ⟨rfl, rfl, rfl, by decide +kernel, rfl, by decide +kernel, by decide +kernel⟩
theorem sc__law_paired : FnScope ["one", "other", "first", "second", "there", "back"] ["one", "other", "first", "second", "there", "back"] (defScope s__law_paired) := ⟨rfl, rfl, rfl, by decide +kernel, rfl, by decide +kernel, by decide +kernel⟩
theorem sc__law_alike : FnScope ["one", "other", "there", "back", "waiting", "turn", "rows", "k", "first", "second"] ["one", "other"] (defScope s__law_alike) := ⟨rfl, rfl, rfl, by decide +kernel, rfl, by decide +kernel, by decide +kernel⟩
theorem sc__law_row : FnScope ["space", "number"] ["space", "number"] (defScope s__law_row) := ⟨rfl, rfl, rfl, by decide +kernel, rfl, by decide +kernel, by decide +kernel⟩
theorem sc__law_state : FnScope ["space"] ["space"] (defScope s__law_state) := ⟨rfl, rfl, rfl, by decide +kernel, rfl, by decide +kernel, by decide +kernel⟩
theorem sc__law_collected : FnScope ["space", "e"] ["space"] (defScope s__law_collected) := ⟨rfl, rfl, rfl, by decide +kernel, rfl, by decide +kernel, by decide +kernel⟩
theorem sc__law_both : FnScope ["space", "x"] ["space", "x"] (defScope s__law_both) := ⟨rfl, rfl, rfl, by decide +kernel, rfl, by decide +kernel, by decide +kernel⟩
theorem sc__law_begun : FnScope ["space", "before", "told", "after", "number"] ["space", "before", "told"] (defScope s__law_begun) := ⟨rfl, rfl, rfl, by decide +kernel, rfl, by decide +kernel, by decide +kernel⟩
theorem sc__law_grown : FnScope ["space", "limits", "before", "x", "told", "rest", "size", "after"] ["space", "limits", "before", "x", "told"] (defScope s__law_grown) := ⟨rfl, rfl, rfl, by decide +kernel, rfl, by decide +kernel, by decide +kernel⟩
theorem sc__law_first : FnScope ["space", "limits", "saved", "x", "deed", "before", "told", "kept"] ["space", "limits", "saved", "x"] (defScope s__law_first) := ⟨rfl, rfl, rfl, by decide +kernel, rfl, by decide +kernel, by decide +kernel⟩
theorem sc__law_undone : FnScope ["deeds", "undone", "start", "k", "deed", "at"] ["deeds"] (defScope s__law_undone) := ⟨rfl, rfl, rfl, by decide +kernel, rfl, by decide +kernel, by decide +kernel⟩
theorem sc__law_pressed : FnScope ["space", "cell", "k", "y", "moments", "at"] ["space", "cell", "k"] (defScope s__law_pressed) := ⟨rfl, rfl, rfl, by decide +kernel, rfl, by decide +kernel, by decide +kernel⟩
theorem sc__law_limits : FnScope ["cell", "x", "room"] ["cell"] (defScope s__law_limits) := ⟨rfl, rfl, rfl, by decide +kernel, rfl, by decide +kernel, by decide +kernel⟩
theorem sc_law : FnScope ["script", "cells", "limits", "one", "other", "deeds", "k", "undone", "saved", "step", "cell"] ["script"] (defScope s_law) := ⟨rfl, rfl, rfl, by decide +kernel, rfl, by decide +kernel, by decide +kernel⟩

/-! ### words for all laws -/
abbrev cl (x : Str) : List Nat := x.cps.toList
theorem str1 {a c : Nat} : ((⟨#[a]⟩ : Str) = ⟨#[c]⟩) = (a = c) := by
  apply propext
  constructor
  · intro h
    have h2 := congrArg (fun x : Str => x.cps.toList) h
    simpa using h2
  · intro h
    rw [h]
theorem len_cl (x : Str) : x.length = (cl x).length := by
  show x.cps.size = x.cps.toList.length
  simp
theorem cl_append (x y : Str) : cl (x ++ y) = cl x ++ cl y := by
  show (x.cps ++ y.cps).toList = _
  simp
theorem at_cl (x : Str) (n : Nat) : x.cps[n]? = (cl x)[n]? := by
  show x.cps[n]? = x.cps.toList[n]?
  simp
theorem cl_nil {x : Str} : x = "" ↔ cl x = [] := by
  constructor
  · intro h
    rw [h]
    rfl
  · intro h
    have e : x.cps = #[] := by
      have := congrArg List.toArray h
      simpa using this
    have : x = ⟨x.cps⟩ := rfl
    rw [this, e]
    rfl
theorem sc_ii {i j : Int} : scal (.int i) (.int j) = true := rfl
theorem sc_ss {x y : Str} : scal (.str x) (.str y) = true := rfl
theorem sc_bb {a b : Bool} : scal (.bl a) (.bl b) = true := rfl
theorem cx_K {CX : CXT} {P : Program} {w : World} {K : PySem.W.Frag} {mg : Str → Option Value} {base : Heap} {N : List Str} {qual : Str} {scope : Scope} {f : Addr} {cd : Value} {A : Around} {outer : List Env} {s : Shared} {H : Hp} {E : XK} : (cxOf CX P w K mg base N qual scope f cd A outer s H E).K = K := rfl
/-! ### rules told over a tracked list as it stands: H p is looked up -/
def lstAt (H : Hp) (p : Addr) (R : List V → Prop) : Prop := match H p with
  | some (.lst xs) => R xs
  | _ => False
theorem lstAt_of {H : Hp} {p : Addr} {xs : List V} {R : List V → Prop} (h : H p = some (.lst xs)) : lstAt H p R = R xs := by
  unfold lstAt
  rw [h]
theorem lstAt_get {H : Hp} {p : Addr} {R : List V → Prop} (h : lstAt H p R) : ∃ xs, H p = some (.lst xs) ∧ R xs := by
  unfold lstAt at h
  split at h
  · rename_i xs e
    exact ⟨xs, e, h⟩
  · exact h.elim
def setI (xs : List V) (i : Int) (v : V) : Option (List V) := (ixN xs.length i).map fun j => xs.set j v
def rIxM : R2 := fun x y H Q => ∃ p i, x = .ref p ∧ y = .int i ∧ lstAt H p fun xs => ∃ v, atI xs i = some v ∧ Q v H
def rSetM : V → V → V → Hp → (Hp → Prop) → Prop := fun o i v H Q => ∃ p k, o = .ref p ∧ i = .int k ∧ lstAt H p fun xs => ∃ ys, setI xs k v = some ys ∧ Q (upd H p (.lst ys))
def rLenM : List V → Hp → VK → Prop := fun vs H Q => ∃ p, vs = [.ref p] ∧ lstAt H p fun xs => Q (.int xs.length) H
theorem atI_0 {α : Type} {a : α} {l : List α} : atI (a :: l) 0 = some a := by simp [atI, ixN]
theorem atI_1 {α : Type} {a b : α} {l : List α} : atI (a :: b :: l) 1 = some b := by
  have : ixN (a :: b :: l).length 1 = some 1 := by
    unfold ixN
    rw [if_pos (by omega), if_pos (by simp only [List.length_cons]; omega)]
    rfl
  unfold atI
  rw [this]
  rfl
theorem atI_2 {α : Type} {a b c : α} {l : List α} : atI (a :: b :: c :: l) 2 = some c := by
  have : ixN (a :: b :: c :: l).length 2 = some 2 := by
    unfold ixN
    rw [if_pos (by omega), if_pos (by simp only [List.length_cons]; omega)]
    rfl
  unfold atI
  rw [this]
  rfl
theorem atI_3 {α : Type} {a b c d : α} {l : List α} : atI (a :: b :: c :: d :: l) 3 = some d := by
  have : ixN (a :: b :: c :: d :: l).length 3 = some 3 := by
    unfold ixN
    rw [if_pos (by omega), if_pos (by simp only [List.length_cons]; omega)]
    rfl
  unfold atI
  rw [this]
  rfl
theorem setI_0 {a v : V} {l : List V} : setI (a :: l) 0 v = some (v :: l) := by simp [setI, ixN]
theorem setI_1 {a b v : V} {l : List V} : setI (a :: b :: l) 1 v = some (a :: v :: l) := by
  have : ixN (a :: b :: l).length 1 = some 1 := by
    unfold ixN
    rw [if_pos (by omega), if_pos (by simp only [List.length_cons]; omega)]
    rfl
  unfold setI
  rw [this]
  rfl
theorem setI_2 {a b c v : V} {l : List V} : setI (a :: b :: c :: l) 2 v = some (a :: b :: v :: l) := by
  have : ixN (a :: b :: c :: l).length 2 = some 2 := by
    unfold ixN
    rw [if_pos (by omega), if_pos (by simp only [List.length_cons]; omega)]
    rfl
  unfold setI
  rw [this]
  rfl
theorem setI_3 {a b c d v : V} {l : List V} : setI (a :: b :: c :: d :: l) 3 v = some (a :: b :: c :: v :: l) := by
  have : ixN (a :: b :: c :: d :: l).length 3 = some 3 := by
    unfold ixN
    rw [if_pos (by omega), if_pos (by simp only [List.length_cons]; omega)]
    rfl
  unfold setI
  rw [this]
  rfl
/-- isinstance of a plain value and a built-in type -/
def isTy : V → String → Option Bool
  | .bl _, T => L2.kitB "bool" T
  | .int _, T => L2.kitB "int" T
  | .str _, T => L2.kitB "str" T
  | .non, T => L2.kitB "NoneType" T
  | _, _ => none
def rIsS : List V → Hp → VK → Prop := fun xs H Q => ∃ x T, xs = [x, .ty T] ∧ ∃ b, isTy x T = some b ∧ Q (.bl b) H
theorem isTy_bb {b : Bool} : isTy (.bl b) "bool" = some true := by
  show L2.kitB "bool" "bool" = some true
  decide +kernel
theorem isTy_bi {b : Bool} : isTy (.bl b) "int" = some true := by
  show L2.kitB "bool" "int" = some true
  decide +kernel
theorem isTy_ib {i : Int} : isTy (.int i) "bool" = some false := by
  show L2.kitB "int" "bool" = some false
  decide +kernel
theorem isTy_ii {i : Int} : isTy (.int i) "int" = some true := by
  show L2.kitB "int" "int" = some true
  decide +kernel
theorem isTy_ss {x : Str} : isTy (.str x) "str" = some true := by
  show L2.kitB "str" "str" = some true
  decide +kernel
theorem isTy_nb : isTy .non "bool" = some false := by
  show L2.kitB "NoneType" "bool" = some false
  decide +kernel
theorem isTy_ni : isTy .non "int" = some false := by
  show L2.kitB "NoneType" "int" = some false
  decide +kernel
section
variable {X : Cx}
theorem call_isS : CallR X (.builtin "isinstance") rIsS := by
  intro pins s σ H xs us Q I r h
  obtain ⟨x, T, rfl, b, e, q⟩ := h
  have ty : ∃ t, TyX X.K H x (.type t) ∧ L2.kitB t T = some b := by
    cases x with
    | bl k => exact ⟨_, .base (.bl k), e⟩
    | int k => exact ⟨_, .base (.int k), e⟩
    | str k => exact ⟨_, .base (.str k), e⟩
    | non => exact ⟨_, .base .non, e⟩
    | byt k => cases e
    | flt k => cases e
    | ref k => cases e
    | ty k => cases e
  obtain ⟨t, ht, hk⟩ := ty
  exact call_isi pins s σ H _ us Q I r ⟨x, .ty T, .type t, .type T, b, rfl, .ty T, ht, kit_ty hk, q⟩
theorem ix_lstM : IxR X rIxM := by
  intro value slice pins s σ H x y v u Q I rx ry h hs
  obtain ⟨p, i, e1, e2, h⟩ := h
  obtain ⟨xs, hp, z, hz, q⟩ := lstAt_get h
  exact ix_list value slice pins s σ H x y v u Q I rx ry ⟨p, xs, i, z, e1, e2, .inl (.inl hp), hz, q⟩ hs
theorem set_lstM : PSet X rSetM := by
  intro pins s σ H o i v ov iv u Q I ro ri rv h
  obtain ⟨p, k, e1, e2, h⟩ := h
  obtain ⟨xs, hp, ys, hy, q⟩ := lstAt_get h
  unfold setI at hy
  cases hj : ixN xs.length k with
  | none =>
    rw [hj] at hy
    cases hy
  | some j =>
    rw [hj] at hy
    have hy2 : xs.set j v = ys := Option.some.inj hy
    subst hy2
    exact set_list pins s σ H o i v ov iv u Q I ro ri rv ⟨p, xs, k, j, e1, e2, hp, hj, q⟩
theorem call_lenM : CallR X (.builtin "len") rLenM := by
  intro pins s σ H xs us Q I r h
  obtain ⟨p, e, h⟩ := h
  obtain ⟨ys, hp, q⟩ := lstAt_get h
  exact call_len_seq pins s σ H xs us Q I r ⟨p, ys, e, .inl (.inl (.inl hp)), q⟩
/-- int(n) of an int -/
theorem call_intI : CallR X (.type "int") (fun xs H Q => ∃ i, xs = [.int i] ∧ Q (.int i) H) := fun pins s σ H xs us Q I r h => call_int1 pins s σ H xs us Q I r (Or.inl h)
end
theorem same_new {H : Hp} {p : Addr} {o : HO} (h : H p = none) : Same H (upd H p o) := fun b x e => by
  rw [upd_ne (ne_of_none e h)]
  exact e
/-! ### loops by an invariant, told over the loop's own reading -/
theorem for_rng {ta : TA} {g : TG} {tb : TS} {D : Ends} {σ : L2.St} {H : Hp} (j : Int) (hta : ∀ R : List V → Hp → Prop, R [.int j] H → ta σ H R) (h0 : 0 ≤ j) (h1 : j < 2 ^ 62) (Pv : Nat → L2.St → Hp → Prop) (hp : Pv 0 σ H)
    (hs : ∀ (i : Nat) σ H, (i : Int) < j → Pv i σ H → g (.int (i : Int)) σ H fun σ2 H2 => tb { D with nx := Pv (i + 1), ct := Pv (i + 1), bk := D.nx } σ2 H2) (hd : ∀ σ H, Pv j.toNat σ H → D.nx σ H) : tFor (iRng1 ta) g tb D σ H := by
  refine hta _ ⟨j, rfl, by omega, h1, for_range (lo := 0) (n := j.toNat) Pv hp (fun i σ H hi pv => ?_) hd⟩
  rw [Int.zero_add]
  exact hs i σ H (by omega) pv
theorem for_rng2 {ta : TA} {g : TG} {tb : TS} {D : Ends} {σ : L2.St} {H : Hp} (l j : Int) (hta : ∀ R : List V → Hp → Prop, R [.int l, .int j] H → ta σ H R) (h0 : -(2 ^ 62) ≤ l) (h2 : l < 2 ^ 62) (h3 : -(2 ^ 62) ≤ j) (h1 : j < 2 ^ 62) (Pv : Nat → L2.St → Hp → Prop) (hp : Pv 0 σ H)
    (hs : ∀ (i : Nat) σ H, l + (i : Int) < j → Pv i σ H → g (.int (l + (i : Int))) σ H fun σ2 H2 => tb { D with nx := Pv (i + 1), ct := Pv (i + 1), bk := D.nx } σ2 H2) (hd : ∀ σ H, Pv (j - l).toNat σ H → D.nx σ H) : tFor (iRng2 ta) g tb D σ H :=
  hta _ ⟨l, j, rfl, ⟨h0, h2, h3, h1⟩, for_range (lo := l) (n := (j - l).toNat) Pv hp (fun i σ H hi pv => hs i σ H (by omega) pv) hd⟩
theorem for_lst {K : PySem.W.Frag} {tl : TE} {g : TG} {tb : TS} {D : Ends} {σ : L2.St} {H H0 : Hp} {a : Addr} (xs : List V) (htl : ∀ R : V → Hp → Prop, R (.ref a) H0 → tl σ H R) (Pv : Nat → L2.St → Hp → Prop) (hp : Pv 0 σ H0) (hl : ∀ i σ H, i ≤ xs.length → Pv i σ H → SqL K H a xs)
    (hs : ∀ i x σ H, xs[i]? = some x → Pv i σ H → g x σ H fun σ2 H2 => tb { D with nx := Pv (i + 1), ct := Pv (i + 1), bk := D.nx } σ2 H2) (hd : ∀ σ H, Pv xs.length σ H → D.nx σ H) : tFor (iList K tl) g tb D σ H :=
  htl _ ⟨a, rfl, ⟨xs, hl 0 σ H0 (Nat.zero_le _) hp⟩, L2.for_list (K := K) (a := a) (xs := xs) Pv hp hl hs hd⟩
/-- [f(x) for x in a list of ints], the element an int that is reckoned from x alone -/
theorem lc_ints {K : PySem.W.Frag} {tl te : TE} {c : Nat} {σ : L2.St} {H : Hp} {Q : VK} {a : Addr} {ns : List Int} (f : Int → Int) (htl : ∀ R : V → Hp → Prop, R (.ref a) H → tl σ H R) (ha : SqL K H a (ns.map V.int)) (hc : c < σ.length) (hn : ns.length ≤ 100000)
    (hte : ∀ (σ' : L2.St) (H' : Hp) (z : Int) (R : VK), σ'[c]? = some (some (.int z)) → R (.int (f z)) H' → te σ' H' R) (k : ∀ D, H D = none → Q (.ref D) (upd H D (.lst (ns.map fun z => .int (f z))))) : tLc (iList K tl) (gName c) tYes te [c] σ H Q := by
  refine htl _ ⟨a, rfl, ⟨_, ha⟩, fun D hD => lc_list (K := K) (a := a) (xs := ns.map V.int) (fun i H' => H' = upd H D (.lst ((ns.take i).map fun z => .int (f z)))) (by rw [List.take_zero]; rfl) (fun i H' _ e => ?_) ?_ ?_⟩
  · rw [e]
    exact (same_new hD).seq ha
  · rintro i x H' hx rfl
    rw [List.getElem?_map] at hx
    cases hz : ns[i]? with
    | none =>
      rw [hz] at hx
      cases hx
    | some z =>
      rw [hz] at hx
      have ex : V.int z = x := Option.some.inj hx
      subst ex
      have hlt : i < ns.length := (List.getElem?_eq_some_iff.mp hz).1
      refine ⟨?_, ?_⟩
      · show List.set (List.set (List.set σ c none) c _) c none = List.set σ c none
        rw [List.set_set, List.set_set]
      · simp only [tYes, if_true]
        refine hte _ _ z _ ?_ ⟨_, upd_same, ?_, ?_⟩
        · show (List.set (List.set σ c none) c _)[c]? = _
          rw [List.getElem?_set_self (by rw [List.length_set]; exact hc)]
        · rw [List.length_map, List.length_take]
          exact Nat.lt_of_le_of_lt (Nat.min_le_left _ _) (Nat.lt_of_lt_of_le (by omega : i < 100000) (by decide))
        · rw [upd_upd, List.take_add_one, hz, List.map_append]
          rfl
  · rintro H' rfl
    rw [List.length_map, List.take_length]
    exact k D hD

/-! ### dicts, told over a tracked dict as it stands -/
def dcAt (H : Hp) (p : Addr) (R : List (Key × V) → Prop) : Prop := match H p with
  | some (.dK kvs) => R kvs
  | _ => False
theorem dcAt_get {H : Hp} {p : Addr} {R : List (Key × V) → Prop} (h : dcAt H p R) : ∃ kvs, H p = some (.dK kvs) ∧ R kvs := by
  unfold dcAt at h
  split at h
  · rename_i kvs e
    exact ⟨kvs, e, h⟩
  · exact h.elim
/-- .. read, though it may be locked -/
def dcRd (H : Hp) (p : Addr) (R : List (Key × V) → Prop) : Prop := match H p with
  | some (.dK kvs) => R kvs
  | some (.frz _ (.dK kvs)) => R kvs
  | _ => False
theorem dcRd_get {H : Hp} {p : Addr} {R : List (Key × V) → Prop} (h : dcRd H p R) : ∃ kvs, Rd H p (.dK kvs) ∧ R kvs := by
  unfold dcRd at h
  split at h
  · rename_i kvs e
    exact ⟨kvs, .inl e, h⟩
  · rename_i o kvs e
    exact ⟨kvs, .inr ⟨o, e⟩, h⟩
  · exact h.elim
def keyOf : V → Option Key
  | .int i => some (Sum.inl i)
  | .str x => some (Sum.inr x)
  | _ => none
theorem keyOf_kV {y : V} {k : Key} (h : keyOf y = some k) : y = kV k := by
  cases y <;> first | (cases h; rfl) | cases h
theorem keyOf_int {i : Int} : keyOf (.int i) = some (Sum.inl i) := rfl
theorem keyOf_str {x : Str} : keyOf (.str x) = some (Sum.inr x) := rfl
theorem kV_int {i : Int} {k : Key} : (V.int i = kV k) = (Sum.inl i = k) := by
  apply propext
  cases k with
  | inl j => exact ⟨(fun h => by cases h; rfl), (fun h => by cases h; rfl)⟩
  | inr x => exact ⟨(fun h => by cases h), (fun h => by cases h)⟩
theorem kV_str {x : Str} {k : Key} : (V.str x = kV k) = (Sum.inr x = k) := by
  apply propext
  cases k with
  | inl j => exact ⟨(fun h => by cases h), (fun h => by cases h)⟩
  | inr y => exact ⟨(fun h => by cases h; rfl), (fun h => by cases h; rfl)⟩
def rDInM (neg : Bool) : R2 := fun y x H Q => ∃ a, x = .ref a ∧ ∃ k, keyOf y = some k ∧ dcRd H a fun kvs => Q (.bl (if neg then !(valV kvs k).isSome else (valV kvs k).isSome)) H
def rDGetM : R2 := fun x y H Q => ∃ a, x = .ref a ∧ ∃ k, keyOf y = some k ∧ dcRd H a fun kvs => ∃ v, valV kvs k = some v ∧ Q v H
def rDSetM : V → V → V → Hp → (Hp → Prop) → Prop := fun o i v H Q => ∃ a, o = .ref a ∧ ∃ k, keyOf i = some k ∧ dcAt H a fun kvs => kvs.length < sizeLine ∧ Q (upd H a (.dK (putK kvs k v)))
def rDLenM : List V → Hp → VK → Prop := fun vs H Q => ∃ a, vs = [.ref a] ∧ dcAt H a fun kvs => Q (.int kvs.length) H
section
variable {X : Cx}
theorem op_dinM (hu : X.A.units + 1 < cLine) : OpR X (compareOp .In) (rDInM false) := by
  intro pins s σ H y x u v Q I ry rx h
  obtain ⟨a, rfl, k, hk, h⟩ := h
  obtain ⟨kvs, hp, q⟩ := dcRd_get h
  obtain rfl : v = Value.ref a := rx
  have e := keyOf_kV hk
  subst e
  exact d_in hu I (.inl ⟨kvs, k, hp, rfl, rfl⟩) ry fun s3 I3 => ⟨.bl (valV kvs k).isSome, H, I3, rfl, q⟩
theorem op_dnotinM (hu : X.A.units + 1 < cLine) : OpR X (compareOp .NotIn) (rDInM true) := by
  intro pins s σ H y x u v Q I ry rx h
  obtain ⟨a, rfl, k, hk, h⟩ := h
  obtain ⟨kvs, hp, q⟩ := dcRd_get h
  obtain rfl : v = Value.ref a := rx
  have e := keyOf_kV hk
  subst e
  exact d_notIn hu I (.inl ⟨kvs, k, hp, rfl, rfl⟩) ry fun s3 I3 => ⟨.bl (!(valV kvs k).isSome), H, I3, rfl, q⟩
theorem ix_dictM (hu : X.A.units + 1 < cLine) : IxR X rDGetM := by
  intro value slice pins s σ H x y v u Q I rx ry h hs
  obtain ⟨a, rfl, k, hk, h⟩ := h
  obtain ⟨kvs, hp, z, hz, q⟩ := dcRd_get h
  obtain rfl : v = Value.ref a := rx
  have e := keyOf_kV hk
  subst e
  have g : DGet H a (kV k) (some z) := by
    rw [← hz]
    exact .inl ⟨kvs, k, hp, rfl, rfl⟩
  exact tail_any (dict_typeIs I g) PySem.F.slot_dict_getitem.lookup (d_getItem hu I g ry fun w' s3 I3 rw' => ⟨z, H, I3, rw', q⟩) hs
theorem set_dictM (hu : X.A.units + 1 < cLine) : PSet X rDSetM := by
  intro pins s σ H o i v ov iv u Q I ro ri rv h
  obtain ⟨a, rfl, k, hk, h⟩ := h
  obtain ⟨kvs, hp, hl, q⟩ := dcAt_get h
  obtain rfl : ov = Value.ref a := ro
  have e := keyOf_kV hk
  subst e
  exact d_setItem hu I (.k hp hl) ri rv fun s4 I4 => ⟨_, I4, q⟩
theorem call_lenDM : CallR X (.builtin "len") rDLenM := by
  intro pins s σ H xs us Q I r h
  obtain ⟨a, e, h⟩ := h
  obtain ⟨kvs, hp, q⟩ := dcAt_get h
  exact call_lenD pins s σ H xs us Q I r ⟨a, kvs, e, hp, q⟩
end
/-! ### own errors with fields -/
/-- what the written part says of an own error class at C, its __init__ at fI -/
structure ExF (K : PySem.W.Frag) (C fI : Addr) : Prop where
  o : OexC K C
  x : XfC K C
  ic : PySem.W.findIn K (.ref C) "__init__" = some (some (.ref fI))
  ti : PySem.W.typeIn K (.ref fI) = some (.type "function")
  ha : PySem.W.findIn K (.ref C) "__class__" = some (some (.builtin "object.__class__"))
  hn : PySem.W.specialIn K (.builtin "object.__class__") "__get__" = some (some (.builtin "getset_descriptor.__get__"))
  ht : PySem.W.takesIn K (.builtin "object.__class__") = some true
  hm : PySem.W.mroIn K C (.type "object") = some true
/-- __init__ of an error with one field, with two -/
def sp_ex1 (C : Addr) (f : Str) : Sp := fun vs H Q _ => ∃ (a : Addr) (v : V), vs = [.ref a, v] ∧ H a = some (exo a C none) ∧ ∀ dx, H dx = none → dx ≠ a → Q .non (upd (upd H dx (exd dx [(f, v)])) a (exo a C (some dx)))
def sp_ex2 (C : Addr) (f g : Str) : Sp := fun vs H Q _ => ∃ (a : Addr) (v w : V), vs = [.ref a, v, w] ∧ H a = some (exo a C none) ∧
  ∀ dx, H dx = none → dx ≠ a → Q .non (upd (upd (upd H dx (exd dx [(f, v)])) a (exo a C (some dx))) dx (exd dx [(g, w), (f, v)]))
/-- raise C(e), raise C(e, e2) -/
def tRz1 (C : Addr) (f : Str) (W : WX) (ta : TA) : TS := fun _ σ H => ta σ H fun vs H1 => ∃ v, vs = [v] ∧ ∀ d, H1 d = none → W (.ref C) (some d) σ (upd H1 d (.xd [(f, v)]))
def tRz2 (C : Addr) (f g : Str) (W : WX) (ta : TA) : TS := fun _ σ H => ta σ H fun vs H1 => ∃ v w, vs = [v, w] ∧ ∀ d, H1 d = none → W (.ref C) (some d) σ (upd H1 d (.xd [(g, w), (f, v)]))
theorem del_upd_upd {H : Hp} {a dx : Addr} {o1 o2 : HO} {o3 : HO} {o0 : HO} (ha : H a = none) (ne : dx ≠ a) : upd (del (upd (upd (upd H a o0) dx o1) a o2) a) dx o3 = upd H dx o3 := by
  funext b
  by_cases hb : b = dx
  · subst hb
    rw [upd_same, upd_same]
  · rw [upd_ne hb, upd_ne hb]
    by_cases hba : b = a
    · subst hba
      rw [del_same, ha]
    · rw [del_ne hba, upd_ne hba, upd_ne hb, upd_ne hba]
theorem del_upd_upd2 {H : Hp} {a dx : Addr} {o0 o1 o2 o3 o4 : HO} (ha : H a = none) (ne : dx ≠ a) : upd (del (upd (upd (upd (upd H a o0) dx o1) a o2) dx o3) a) dx o4 = upd H dx o4 := by
  funext b
  by_cases hb : b = dx
  · subst hb
    rw [upd_same, upd_same]
  · rw [upd_ne hb, upd_ne hb]
    by_cases hba : b = a
    · subst hba
      rw [del_same, ha]
    · rw [del_ne hba, upd_ne hb, upd_ne hba, upd_ne hb, upd_ne hba]
theorem pa_at {X : Cx} {es : List Expr} {ta : TA} {σ0 : L2.St} {H0 : Hp} {R : List V → Hp → Prop} (ha : PA X es ta) (h0 : ta σ0 H0 R) : PA X es (fun σ H Q => σ = σ0 ∧ H = H0 ∧ ∀ vs H1, R vs H1 → Q vs H1) := by
  refine ⟨fun pos pins s σ H Q I h => ?_⟩
  obtain ⟨e1, e2, hk⟩ := h
  subst e1 e2
  exact thn (ha.run pos pins s σ H _ I h0) fun us s1 ⟨vs, H1, I1, r, q⟩ => ⟨vs, H1, I1, r, hk vs H1 q⟩
section
variable {X : Cx} {C fI : Addr} {k : Nat} {fd : FuncData} {x f g : Str} {W : WX} {ta : TA} {e : Expr} {es : List Expr} {p pos pos2 : Pos}
/-- C(e, ..) where nothing is handled: the error that comes has no context -/
theorem pmkN {CX0' : CXT} {ps : List Str} {sp : Sp} (T : ExF X.K C fI) (F1 : FnOk X.prog X.w X.K X.mg X.base CX0' k fI fd ps sp) (hr : Room (k + 1) X.A) (hb : Binds X.K fd ps []) (hx : Passes CX0' X (fun _ _ _ => False)) (hg : Gl X x) (hm : X.mg x = some (.ref C)) (ha : PA X (e :: es) ta)
    (hdb : (x == ("__debug__" : Str)) = false) (he : starEach (e :: es) X.env = (false, eval e X.env) :: starEach es X.env) (hpl : (backTo pos (starEach es X.env)).any (·.1) = false) :
    L2N.PMk X (.Call (.Name x p) (e :: es) [] pos) (tMkO C sp [] ta) := by
  intro pn0 st sg Hh Qq J hh
  obtain ⟨_, _, _, _, lb, _, _, _, _, _, _, _, _, _, _, hCl, hRef⟩ := T.o.cls
  refine wpAny_Call_Name_kw (ld_glob J hg hm ?_ hdb)
  refine PySem.W.callWith_K (h₀ := X.base) J.ok.mod.kin T.o.kC (thn (ha.run pos pn0 st sg Hh _ J hh) fun us st1 hx1 => ?_) he hpl
  obtain ⟨vs, G1, J1, rl, hz, hq0⟩ := hx1
  refine ⟨J1.kIn, ?_⟩
  show wpAny _ _ (call (.ref C) us) _ _ _
  obtain ⟨hp, gs, dr, tks, osx⟩ := st1
  have two : ∀ b o, hp.get? b = some o → ((hp.push (PySem.W.kdv_tup us)).push (PySem.HandSPX.excO C hp.objs.size)).get? b = some o := fun b o q => Heap.get?_push_of_some _ (Heap.get?_push_of_some _ q)
  have here : ((hp.push (PySem.W.kdv_tup us)).push (PySem.HandSPX.excO C hp.objs.size)).get? (hp.objs.size + 1) = some (PySem.HandSPX.excO C hp.objs.size) := by heap_get
  generalize hN : hp.objs.size + 1 = n at here
  have big : hp.objs.size ≤ n := by omega
  have hq := hq0 n (J1.hok.fresh big)
  rw [List.append_nil] at hq
  have J2 := J1.laid (t' := tks) (a := n) (o := exo n C none) two big (exo_ok here)
  have rl2 : Vals (V.ref n :: vs) (Value.ref n :: us) := .cons rfl rl
  have len2 : (Value.ref n :: us ++ []).length = ps.length := by
    rw [List.append_nil, ← rl2.length]
    exact F1.len _ _ _ _ hq
  have few : us.length ≤ sizeLine := by
    have := Paired.length rl
    rw [sizeLine_eq]
    omega
  have bnd := hb _ (Value.ref n :: us) J2.kIn len2
  rw [List.append_nil] at bnd
  have run := F1.run _ X.stack _ _ ⟨Value.ref n :: us, []⟩ (Value.ref n :: us) _ _ (fun _ _ _ => False) (hr.make C us []) (J2.env0.make C us []) bnd rl2 hq
  subst hN
  refine wpAny_call (PySem.HandSPX.call_own F.excBase_ValueError (fun Y => PySem.HandSPX.refsVE_contains Y lb hRef) (J1.kIn _ _ hCl) (PySem.W.looks_findIn J1.kIn T.ic) (fun me => PySem.W.bind_fn J1.kIn me T.ti) few (codeAny_mono run fun res st2 hres => ?_))
  cases res with
  | error er => exact hx pn0 sg _ _ er st2 J2 hres
  | ok fl =>
    cases fl with
    | next => exact hres.elim
    | brk => exact hres.elim
    | cont => exact hres.elim
    | ret u =>
      obtain ⟨v, G2, o2, b2, u2, k2, rv, ev, d, fs, ea, ed, hd1, q2⟩ := hres
      subst ev
      obtain ⟨hp2, gs2, dr2, tk2, os2⟩ := st2
      obtain ⟨t0, G, J3, kG, ge, hoe, na⟩ := mk_end0 (d2 := dr2) (t2 := tk2) J1 big two u2 k2 o2 b2 ea ed hd1
      exact ⟨rv, _, _, _, ⟨G, gs2, dr2, tk2, os2⟩, _, .ref C, some d, rfl, J3, kG, ge, hoe, ⟨rfl, rfl, fun ws hw => by cases hw; rfl⟩, rfl, rfl, na, rfl, b2, raises_own T.o.exC T.o.tyC, q2⟩
theorem ps_rz1 {ps : List Str} (hc : X.calm = true) (T : ExF X.K C fI) (F : FnOk X.prog X.w X.K X.mg X.base CX0 k fI fd ps (sp_ex1 C f)) (hr : Room (k + 1) X.A) (hb : Binds X.K fd ps []) (tk : L2N.Takes X W) (hg : Gl X x) (hm : X.mg x = some (.ref C)) (ha : PA X (e :: es) ta)
    (hdb : (x == ("__debug__" : Str)) = false := by decide) (he : starEach (e :: es) X.env = (false, eval e X.env) :: starEach es X.env := by rfl) (hpl : (backTo pos (starEach es X.env)).any (·.1) = false := by rfl) :
    PS X (.Raise (some (.Call (.Name x p) (e :: es) [] pos)) none pos2) (tRz1 C f W ta) := by
  refine ⟨fun pins s σ H D I h => ?_⟩
  have key := L2N.ps_raise (pos := pos2) hc tk (pmkN (p := p) T F hr hb pass0 hg hm (pa_at ha h) hdb he hpl)
  refine key.run pins s σ H D I ⟨rfl, rfl, fun vs H1 hk => ?_⟩
  obtain ⟨v, rfl, hw⟩ := hk
  refine ⟨by show 1 ≤ 1000; decide, fun a ha2 => ⟨a, v, rfl, upd_same, fun dx hdx ne => ⟨rfl, dx, [(f, v)], upd_same, ?_, ?_, ?_⟩⟩⟩
  · rw [upd_ne ne, upd_same]
  · rw [upd_ne ne] at hdx
    exact hdx
  · rw [upd_ne ne] at hdx
    rw [del_upd_upd ha2 ne]
    exact hw dx hdx
theorem ps_rz2 {ps : List Str} (hc : X.calm = true) (T : ExF X.K C fI) (F : FnOk X.prog X.w X.K X.mg X.base CX0 k fI fd ps (sp_ex2 C f g)) (hr : Room (k + 1) X.A) (hb : Binds X.K fd ps []) (tk : L2N.Takes X W) (hg : Gl X x) (hm : X.mg x = some (.ref C)) (ha : PA X (e :: es) ta)
    (hdb : (x == ("__debug__" : Str)) = false := by decide) (he : starEach (e :: es) X.env = (false, eval e X.env) :: starEach es X.env := by rfl) (hpl : (backTo pos (starEach es X.env)).any (·.1) = false := by rfl) :
    PS X (.Raise (some (.Call (.Name x p) (e :: es) [] pos)) none pos2) (tRz2 C f g W ta) := by
  refine ⟨fun pins s σ H D I h => ?_⟩
  have key := L2N.ps_raise (pos := pos2) hc tk (pmkN (p := p) T F hr hb pass0 hg hm (pa_at ha h) hdb he hpl)
  refine key.run pins s σ H D I ⟨rfl, rfl, fun vs H1 hk => ?_⟩
  obtain ⟨v, w, rfl, hw⟩ := hk
  refine ⟨by show 2 ≤ 1000; decide, fun a ha2 => ⟨a, v, w, rfl, upd_same, fun dx hdx ne => ⟨rfl, dx, [(g, w), (f, v)], ?_, upd_same, ?_, ?_⟩⟩⟩
  · rw [upd_ne (Ne.symm ne), upd_same]
  · rw [upd_ne ne] at hdx
    exact hdx
  · rw [upd_ne ne] at hdx
    rw [del_upd_upd2 ha2 ne]
    exact hw dx hdx
end
/-! ### an error that an except suite holds: isinstance, fields -/
def rIsX (K : PySem.W.Frag) (a : Addr) (cls : Value) (d : Option Addr) : List V → Hp → VK → Prop := fun xs H Q => ∃ (c : V) (cv : Value) (C fI dd : Addr) (fs : List (Str × V)) (b : Bool),
  xs = [.ref a, c] ∧ ClsV c cv ∧ cls = .ref C ∧ d = some dd ∧ H dd = some (.xd fs) ∧ ExF K C fI ∧ PySem.W.kitOne K (.ref C) cv = some b ∧ Q (.bl b) H
theorem call_isX {X : Cx} {a : Addr} {oe : Obj} {cls : Value} {d : Option Addr} (hp : (a, oe) ∈ X.pn) (hz : Zc cls d oe) (hf : ∃ vs, oe.data = .fields vs) : CallR X (.builtin "isinstance") (rIsX X.K a cls d) := by
  intro pins s σ H xs us Q I r h
  obtain ⟨c, cv, C, fI, dd, fs, b, rfl, hcv, rfl, rfl, hdd, T, hk, q⟩ := h
  obtain ⟨u1, u2, rfl, r1, r2⟩ := vals2 r
  have e2 := hcv.eq r2
  subst e2
  cases (show u1 = Value.ref a from r1)
  obtain ⟨hget, _⟩ := I.pin (a, oe) (List.mem_append_left _ hp)
  obtain ⟨vs, hv⟩ := hf
  obtain ⟨mA, hns, _⟩ := (show ObjOk X.prog X.w H s.heap dd (.xd fs) from I.hok dd _ hdd)
  obtain ⟨od, ho, _⟩ := lookIn_ns hns
  have J : PySem.W.InstAt s.heap a oe C (some od) := ⟨hget, hz.1, by unfold PySem.W.notCls; rw [hv] <;> rfl, by rw [hz.2]; exact ho⟩
  have hcl : (PySem.W.clsIn X.K C).isSome = true := by
    obtain ⟨nm, q, N, bs, bm, sn, sub, ab, col, dD, k0, k1, k2, k3, k5, hC, _⟩ := T.o.cls
    unfold PySem.W.clsIn
    rw [hC] <;> rfl
  exact PySem.W.kia_one (PySem.W.kitx_exc hcl T.x.ga T.x.gg T.x.exC T.ha T.hn T.ht T.hm) I.kIn J hk (fun z => nomatch z) fun tk => ⟨.bl b, H, I.kept (t' := tk) fun _ _ z => z, rfl, q⟩
/-- e.f, e the error at a -/
def tFx (a : Addr) (cls : Value) (d : Option Addr) (f : Str) (K : PySem.W.Frag) (te : TE) : TE := fun σ H Q => te σ H fun x H1 => x = .ref a ∧ ∃ (C fI dd : Addr) (fs : List (Str × V)) (v : V), cls = .ref C ∧ ExF K C fI ∧ PySem.W.findIn K (.ref C) f = some none ∧ d = some dd ∧ H1 dd = some (.xd fs) ∧ fs.lookup f = some v ∧ Q v H1
theorem pe_fx {X : Cx} {a : Addr} {oe : Obj} {cls : Value} {d : Option Addr} {e : Expr} {te : TE} {pos : Pos} {n : Str} (hp : (a, oe) ∈ X.pn) (hz : Zc cls d oe) (hf : ∃ vs, oe.data = .fields vs) (he : PE X e te)
    (hb : attributeBase e n X.env (eval e X.env) = eval e X.env := by rfl) : PE X (.Attribute e n pos) (tFx a cls d n X.K te) := by
  refine ⟨fun pins s σ H Q I h => ?_⟩
  refine attr_of hb (thn (he.run pins s σ H _ I h) fun u s1 hh => ?_)
  obtain ⟨x, H1, I1, rx, ex, C, fI, dd, fs, v, rfl, T, hno, rfl, ea, l, q⟩ := hh
  subst ex
  obtain rfl : u = Value.ref a := rx
  obtain ⟨hget, _⟩ := I1.pin (a, oe) (List.mem_append_left _ hp)
  obtain ⟨vs, hv⟩ := hf
  obtain ⟨mA, hns, hr⟩ := (show ObjOk X.prog X.w H1 s1.heap dd (.xd fs) from I1.hok dd _ ea)
  obtain ⟨od, ho, hl⟩ := lookIn_ns hns
  obtain ⟨w1, hw1, rw1⟩ := RelO.some_of (v := v) (o := mA n) (by rw [← l]; exact hr n)
  have J : PySem.W.InstAt s1.heap a oe C (some od) := ⟨hget, hz.1, by unfold PySem.W.notCls; rw [hv] <;> rfl, by rw [hz.2]; exact ho⟩
  exact HandSPX.exc_get I1.kIn J T.x.ga T.x.gg T.x.exC (PySem.W.findObj_own T.x.hdC hno rfl (by rw [hl, hw1])) (handed_of rw1) ⟨v, H1, I1.tok _, rw1, q⟩
/-- o.m(e, ..) that may raise, within a try -/
def tMethE (C : Addr) (m : Str) (sp : Sp) (E : L2.St → XK) (ta : TE) (t : TA) : TE := fun σ H Q => ta σ H fun x H1 => ∃ a dx fs, x = .ref a ∧ H1 a = some (.ins C dx fs) ∧ fs.lookup m = none ∧ t σ H1 fun vs H2 => sp (x :: vs) H2 Q (E σ)
theorem pe_methE {X : Cx} {CX : CXT} {k : Nat} {C f : Addr} {fd : FuncData} {ps : List Str} {m : Str} {sp : Sp} {E : L2.St → XK} {o e : Expr} {es : List Expr} {ta : TE} {t : TA} {apos pos : Pos} {pl : Sem Bool} (he : PE X o ta) (c : Cls X.K C) (hm : Meth X.K C m f)
    (F : FnOk X.prog X.w X.K X.mg X.base CX k f fd ps sp) (hr : Room k X.A) (hb : Binds X.K fd ps []) (hx : ∀ σ, PassesAt CX X σ (E σ)) (ha : PA X (e :: es) t)
    (hst : starEach (e :: es) X.env = (false, eval e X.env) :: starEach es X.env := by rfl) (hpl : (backTo pos (starEach es X.env)).any (·.1) = false := by rfl)
    (ht : eval (.Call (.Attribute o m apos) (e :: es) [] pos) X.env = (do
      let ov ← eval o X.env
      standAt apos.atName
      let (f, first) ← holding [ov] (getMethod ov m pl)
      callWith pos f first (backTo pos (starEach (e :: es) X.env)) (backToKw pos (keywordEach [] X.env))) := by rfl) :
    PE X (.Call (.Attribute o m apos) (e :: es) [] pos) (tMethE C m sp E ta t) := by
  refine ⟨fun pins s σ H Q I h => ?_⟩
  refine PySem.W.methodCall_KW (pl := pl) (thn (he.run pins s σ H _ I h) fun u1 s1 hh => ?_) ht
  obtain ⟨x, H1, I1, rx, a, dx, fs, ex, ea, l, q⟩ := hh
  subst ex
  obtain rfl : u1 = Value.ref a := rx
  refine getmeth_ok I1 ea c hm l ?_
  refine PySem.W.callWith_K (first := [.ref a]) (h₀ := X.base) I.ok.mod.kin hm.kp (thn (ha.run pos pins s1 σ H1 _ I1 q) fun us s2 hh2 => ?_) hst hpl
  obtain ⟨vs, H2, I2, r, q2⟩ := hh2
  exact ⟨I2.kIn, run_fnS (us := .ref a :: us) (vs := .ref a :: vs) F hr hb (hx σ) I2 (.cons rfl r) q2⟩
/-- a def that may raise -/
theorem okN {P : Program} {w : World} {K : PySem.W.Frag} {mg : Str → Option Value} {base : Heap} {CXx : CXT} {x qual : Str} {st : Stmt} {f : Addr} {fd : FuncData} {N ps : List Str} {k : Nat} {sp : Sp} (F : Fun K x qual st f fd) (S : FnScope N ps (defScope st)) (len : ∀ vs H Q E, sp vs H Q E → vs.length = ps.length)
    (body : ∀ (cdv : Value) (A : Around) (outer : List Env) (s : Shared) (H : Hp) (vs : List V) (Q : VK) (E : XK), Room k (A.deeper (envOfC qual (defScope st) s.heap.objs.size f cdv)) → sp vs H Q E →
      ∃ t, PSs (cxOf CXx P w K mg base N qual (defScope st) f cdv A outer s H E) (defBody st) t ∧ t { nx := fun _ H' => Q .non H', rt := Q } (L2.start N vs) H) : FnOk P w K mg base CXx (k + 1) f fd ps sp := by
  obtain ⟨_, _, _, _, _, _, cdv, _, _, rfl, lk, hcd⟩ := F.ex
  exact fn_of lk hcd S len (body cdv)
/-- a def as it is called where an error is handled -/
theorem okH {P : Program} {w : World} {K : PySem.W.Frag} {mg : Str → Option Value} {base : Heap} {CXx : CXT} {x qual : Str} {st : Stmt} {f : Addr} {fd : FuncData} {N ps : List Str} {k : Nat} {sp : Sp} (F : Fun K x qual st f fd) (S : FnScope N ps (defScope st)) (len : ∀ vs H Q E, sp vs H Q E → vs.length = ps.length)
    (body : ∀ (cdv : Value) (A : Around) (outer : List Env) (s : Shared) (H : Hp) (vs : List V) (Q : VK) (E : XK) (p : Addr × Obj), L2H.Hot1 A p → L2H.RoomH k (A.deeper (envOfC qual (defScope st) s.heap.objs.size f cdv)) → sp vs H Q E →
      ∃ t, PSs (L2H.cxH CXx P w K mg base N qual (defScope st) f cdv A outer s H E p) (defBody st) t ∧ t { nx := fun _ H' => Q .non H', rt := Q } (L2.start N vs) H) : L2H.FnH P w K mg base CXx (k + 1) f fd ps sp := by
  obtain ⟨_, _, _, _, _, _, cdv, _, _, rfl, lk, hcd⟩ := F.ex
  exact L2H.fn_ofH lk hcd S len (body cdv)
theorem takesN {X : Cx} : L2N.Takes X (fun _ _ _ _ => False) := fun _ _ x => by
  obtain ⟨_, _, _, _, _, _, _, _, _, _, _, _, _, _, _, _, z⟩ := x
  exact z.elim
theorem passAt0 {X : Cx} {σ : L2.St} : PassesAt CX0 X σ E0 := fun _ _ _ _ _ _ h => h.elim
theorem hotC_suite {X : Cx} {a : Addr} {oe : Obj} {cls : Value} {d : Option Addr} {pn : List (Addr × Obj)} (hz : L2N.Zn cls d oe) (hf : ∃ vs, oe.data = .fields vs) : L2H.HotC (X.suite a ((a, oe) :: pn)) := by
  obtain ⟨vs, hv⟩ := hf
  exact ⟨(a, oe), ⟨rfl, vs, hv, hz.2.2 vs hv⟩, List.mem_cons_self ..⟩
theorem roomH_suite {k : Nat} {A : Around} {h : Option Value} (r : Room k A) : L2H.RoomH k (A.mark h) := ⟨r.dp, r.un⟩
theorem tt_true {a : Prop} (h : a) : (a = True) := propext ⟨fun _ => trivial, fun _ => h⟩
/-! ### x is True, of a plain value -/
def plainV : V → Bool
  | .bl _ => true
  | .int _ => true
  | .non => true
  | .str _ => true
  | _ => false
def rIsBM (neg : Bool) : R2 := fun x y H Q => ∃ b, y = .bl b ∧ plainV x = true ∧ Q (.bl (if neg then !decide (x = .bl b) else decide (x = .bl b))) H
theorem plainV_b {b : Bool} : plainV (.bl b) = true := rfl
theorem plainV_i {i : Int} : plainV (.int i) = true := rfl
theorem plainV_n : plainV .non = true := rfl
theorem plainV_s {x : Str} : plainV (.str x) = true := rfl
section
variable {X : Cx}
theorem op_isBM : OpR X (compareOp .Is) (rIsBM false) := by
  intro pins s σ H x y v u Q I rx ry h
  obtain ⟨b, rfl, hx, q⟩ := h
  cases (show u = Value.bool b from ry)
  by_cases e : x = .bl b
  · subst e
    cases (show v = Value.bool b from rx)
    exact wpAny_is_self rfl ⟨.bl true, H, I, rfl, by simpa using q⟩
  · have ne : v ≠ Value.bool b := fun z => by
      subst z
      cases x with
      | bl a => exact e (by rw [Value.bool.inj (show Value.bool b = Value.bool a from rx)])
      | int i =>
        obtain ⟨t, z⟩ := rx
        cases z
      | str i =>
        obtain ⟨t, z⟩ := rx
        cases z
      | non => cases (show Value.bool b = Value.none from rx)
      | byt k => cases hx
      | flt k => cases hx
      | ref k => cases hx
      | ty k => cases hx
    have pl : PySem.plainIs v (Value.bool b) = true := by
      cases x with
      | bl a =>
        cases (show v = Value.bool a from rx)
        rfl
      | int i =>
        obtain ⟨t, rfl⟩ := rx
        rfl
      | str i =>
        obtain ⟨t, rfl⟩ := rx
        rfl
      | non =>
        cases (show v = Value.none from rx)
        rfl
      | byt k => cases hx
      | flt k => cases hx
      | ref k => cases hx
      | ty k => cases hx
    exact wpAny_is_other pl ne ⟨.bl false, H, I, rfl, by simpa [e] using q⟩
end
/-! ### in, methods, slices of a tracked list -/
def rInM (neg : Bool) : R2 := fun x y H Q => ∃ p, y = .ref p ∧ lstAt H p fun xs => flatV x = true ∧ xs.all flatV = true ∧ Q (.bl (if neg then !inV x xs else inV x xs)) H
def tBMM (r : V → List V → Hp → VK → Prop) (to : TE) (t : TA) : TE := fun σ H Q => to σ H fun x H1 => ∃ p, x = .ref p ∧ lstAt H1 p fun _ => t σ H1 fun xs H2 => r x xs H2 Q
def tBM0M (r : V → List V → Hp → VK → Prop) (to : TE) : TE := fun σ H Q => to σ H fun x H1 => ∃ p, x = .ref p ∧ lstAt H1 p fun _ => r x [] H1 Q
def rSlM : V → Option Int → Option Int → Hp → VK → Prop := fun x lo hi H Q => ∃ p, x = .ref p ∧ lstAt H p fun xs => ∀ l, H l = none → Q (.ref l) (upd H l (.lst (cutV xs lo hi)))
theorem pe_at {X : Cx} {e : Expr} {te : TE} {σ0 : L2.St} {H0 : Hp} {R : V → Hp → Prop} (ha : PE X e te) (h0 : te σ0 H0 R) : PE X e (fun σ H Q => σ = σ0 ∧ H = H0 ∧ ∀ v H1, R v H1 → Q v H1) := by
  refine ⟨fun pins s σ H Q I h => ?_⟩
  obtain ⟨e1, e2, hk⟩ := h
  subst e1 e2
  exact thn (ha.run pins s σ H _ I h0) fun u s1 ⟨v, H1, I1, r, q⟩ => ⟨v, H1, I1, r, hk v H1 q⟩
section
variable {X : Cx}
theorem op_inM : OpR X (compareOp .In) (rInM false) := by
  intro pins s σ H x y v u Q I rx ry h
  obtain ⟨p, e, h⟩ := h
  obtain ⟨xs, hp, h1, h2, q⟩ := lstAt_get h
  exact op_in_seq pins s σ H x y v u Q I rx ry ⟨p, xs, e, .inl (.inl (.inl hp)), h1, h2, q⟩
theorem op_notInM : OpR X (compareOp .NotIn) (rInM true) := by
  intro pins s σ H x y v u Q I rx ry h
  obtain ⟨p, e, h⟩ := h
  obtain ⟨xs, hp, h1, h2, q⟩ := lstAt_get h
  exact op_notIn_seq pins s σ H x y v u Q I rx ry ⟨p, xs, e, .inl (.inl (.inl hp)), h1, h2, q⟩
theorem sl_listM : SlR X rSlM := by
  intro pins s σ H x v vl vu lo hi sl Q I rx hs pl pu h
  obtain ⟨p, e, h⟩ := h
  obtain ⟨xs, hp, q⟩ := lstAt_get h
  exact sl_list pins s σ H x v vl vu lo hi sl Q I rx hs pl pu ⟨p, xs, e, .inl (.inl hp), q⟩
theorem pe_bmM {name : Str} {id : String} {r : V → List V → Hp → VK → Prop} {o e : Expr} {es : List Expr} {to : TE} {t : TA} {apos cpos : Pos} (slot : Slot "list" name id) (hty : typeOf (.builtin id) = pure (.type "method_descriptor")) (hm : MtR X id r) (ho : PE X o to) (ha : PA X (e :: es) t)
    (hbase : attributeBase o name X.env (eval o X.env) = eval o X.env := by rfl)
    (hfew : ((backTo cpos (starEach (e :: es) X.env)).all (fun x => !x.1) && (backToKw cpos (keywordEach [] X.env)).all (fun x => x.1.isSome)
      && decide ((e :: es).length + ([] : List Keyword).length + (if ([] : List Keyword).isEmpty then 0 else 1) < 30)) = true := by rfl)
    (hline : (apos.endLine == cpos.line) = true := by rfl) (hs : starEach (e :: es) X.env = (false, eval e X.env) :: starEach es X.env := by rfl) (hplain : (backTo cpos (starEach es X.env)).any (·.1) = false := by rfl) :
    PE X (.Call (.Attribute o name apos) (e :: es) [] cpos) (tBMM r to t) := by
  refine ⟨fun pins s σ H Q I h => ?_⟩
  refine (pe_bm PySem.F.plainAttrs_list slot hty hm (pe_at ho h) ha hbase hfew hline hs hplain).run pins s σ H Q I ⟨rfl, rfl, fun v H1 hv => ?_⟩
  obtain ⟨p, rfl, hv⟩ := hv
  obtain ⟨xs, hp, q⟩ := lstAt_get hv
  exact ⟨.inl ⟨rfl, xs, .inl (.inl hp)⟩, q⟩
theorem pe_bm0M {name : Str} {id : String} {r : V → List V → Hp → VK → Prop} {o : Expr} {to : TE} {apos cpos : Pos} (slot : Slot "list" name id) (hty : typeOf (.builtin id) = pure (.type "method_descriptor")) (hm : MtR X id r) (ho : PE X o to)
    (hbase : attributeBase o name X.env (eval o X.env) = eval o X.env := by rfl) (hline : (apos.endLine == cpos.line) = true := by rfl) : PE X (.Call (.Attribute o name apos) [] [] cpos) (tBM0M r to) := by
  refine ⟨fun pins s σ H Q I h => ?_⟩
  refine (pe_bm0 PySem.F.plainAttrs_list slot hty hm (pe_at ho h) hbase hline).run pins s σ H Q I ⟨rfl, rfl, fun v H1 hv => ?_⟩
  obtain ⟨p, rfl, hv⟩ := hv
  obtain ⟨xs, hp, q⟩ := lstAt_get hv
  exact ⟨.inl ⟨rfl, xs, .inl (.inl hp)⟩, q⟩
end
theorem lkc {a k : Str} {b : V} {es : List (Str × V)} : List.lookup a ((k, b) :: es) = if a = k then some b else List.lookup a es := by
  by_cases h : a = k
  · subst h
    simp [List.lookup]
  · have e : (a == k) = false := by simpa using h
    rw [if_neg h]
    simp [List.lookup, e]
theorem lkn {a : Str} : List.lookup a ([] : List (Str × V)) = none := rfl
theorem pfn {f : Str} {v : V} : putF f v [] = [(f, v)] := rfl
theorem pfc {f g : Str} {v x : V} {r : List (Str × V)} : putF f v ((g, x) :: r) = if g = f then (g, v) :: r else (g, x) :: putF f v r := rfl
theorem cxH_K {CX : CXT} {P : Program} {w : World} {K : PySem.W.Frag} {mg : Str → Option Value} {base : Heap} {N : List Str} {qual : Str} {scope : Scope} {f : Addr} {cd : Value} {A : Around} {outer : List Env} {s : Shared} {H : Hp} {E : XK} {p : Addr × Obj} : (L2H.cxH CX P w K mg base N qual scope f cd A outer s H E p).K = K := rfl
theorem clsV_ref {C : Addr} {u : Value} : ClsV (.ref C) u = (Value.ref C = u) := by
  apply propext
  constructor
  · intro h
    cases h
    rfl
  · intro h
    subst h
    exact .own C
theorem clsV_ty {n : String} {u : Value} : ClsV (.ty n) u = (Value.type n = u) := by
  apply propext
  constructor
  · intro h
    cases h
    rfl
  · intro h
    subst h
    exact .ty n

/-! ### a def that is handed the error that is handled: its promise speaks of the pinned object -/
structure FnE (P : Program) (w : World) (K : PySem.W.Frag) (mg : Str → Option Value) (base : Heap) (CXx : CXT) (k : Nat) (f : Addr) (fd : FuncData) (ps : List Str) (sp : Addr × Obj → Sp) : Prop where
  len : ∀ p vs H Q E, sp p vs H Q E → vs.length = ps.length
  run : ∀ (p : Addr × Obj) (A : Around) (outer : List Env) (s : Shared) (H : Hp) (args : Args) (us : List Value) (vs : List V) (Q : VK) (E : XK), L2H.RoomH k A → L2H.Hot1 A p → L2H.PinOk outer H s p → Env0 P w K mg base A outer s H → BindsTo s fd args (ps.zip us) →
    Vals vs us → sp p vs H Q E → codeAny (model P w) A (.call (.ref f) args) (CR CXx outer P w H s Q E) s
theorem okE {P : Program} {w : World} {K : PySem.W.Frag} {mg : Str → Option Value} {base : Heap} {CXx : CXT} {x qual : Str} {st : Stmt} {f : Addr} {fd : FuncData} {N ps : List Str} {k : Nat} {sp : Addr × Obj → Sp} (F : Fun K x qual st f fd) (S : FnScope N ps (defScope st))
    (len : ∀ p vs H Q E, sp p vs H Q E → vs.length = ps.length)
    (body : ∀ (p : Addr × Obj) (cdv : Value) (A : Around) (outer : List Env) (s : Shared) (H : Hp) (vs : List V) (Q : VK) (E : XK), L2H.Hot1 A p → L2H.RoomH k (A.deeper (envOfC qual (defScope st) s.heap.objs.size f cdv)) → sp p vs H Q E →
      ∃ t, PSs (L2H.cxH CXx P w K mg base N qual (defScope st) f cdv A outer s H E p) (defBody st) t ∧ t { nx := fun _ H' => Q .non H', rt := Q } (L2.start N vs) H) : FnE P w K mg base CXx (k + 1) f fd ps sp := by
  obtain ⟨_, _, _, _, _, _, cdv, _, _, rfl, lk, hcd⟩ := F.ex
  refine ⟨len, fun p A outer s H args us vs Q E hr hot pin e0 bnd rv hsp => ?_⟩
  have kin : K.In s.heap := e0.mod.kin.keeps fun b o q => (e0.bs b o q).1
  have own : ∀ y ∈ ps.zip us, (defScope st).names.lookup y.1 = some .local ∨ ((defScope st).names.lookup y.1 = some .cell ∧ ((cellsFrom (s.heap.objs.size + 1) (defScope st).names []).lookup y.1).isSome = true) := by
    intro y hy
    rcases S.par y.1 (List.of_mem_zip (a := y.1) (b := y.2) hy).1 with h | h
    · exact .inl h
    · exact .inr ⟨h, PySem.W.cellsFrom_some _ _ _ (.inl h)⟩
  refine codeAny_call_function hr.depth (kin _ _ lk) rfl S.co S.gen rfl (PySem.W.codeRec_of kin hcd) (bnd _ _ _ _ (wpAny_newFunctionEnv_cells S.kind own fun env he s1 z => ?_))
  subst he
  refine ⟨(e0.mod.nolimit.keeps fun b o q => (e0.bs b o q).1).keeps z.toInCall.keep, codeAny_func ?_⟩
  obtain ⟨t, ht, hq⟩ := body p cdv A outer s H vs Q E hot (hr.deeper _) hsp
  have I := L2H.inv_startH (CX := CXx) (P := P) (w := w) (mg := mg) (base := base) (E := E) S pin e0 (len _ _ _ _ _ hsp) rv z
  refine wpAny_mono (ht.run [] s1 (L2.start N vs) H _ I hq) (fun fl s2 h2 => ?_) fun _ _ h2 => h2
  cases fl with
  | brk =>
    obtain ⟨_, _, _, h2⟩ := h2
    exact h2.elim
  | cont =>
    obtain ⟨_, _, _, h2⟩ := h2
    exact h2.elim
  | next =>
    obtain ⟨_, H2, J, q⟩ := h2
    exact ⟨V.non, H2, J.os, J.bare, J.base, J.hok, rfl, q⟩
  | ret u =>
    obtain ⟨v, _, H2, J, r, q⟩ := h2
    exact ⟨v, H2, J.os, J.bare, J.base, J.hok, r, q⟩
def tCallZ (sp : Addr × Obj → Sp) (a : Addr) (cls : Value) (d : Option Addr) (t : TA) : TE := fun σ H Q => t σ H fun vs H1 => ∀ oe, L2N.Zn cls d oe → (∃ ws, oe.data = .fields ws) → sp (a, oe) vs H1 Q E0
theorem pe_callE {X : Cx} {k : Nat} {f : Addr} {fd : FuncData} {ps : List Str} {sp : Addr × Obj → Sp} {x : Str} {q pos : Pos} {e : Expr} {es : List Expr} {t : TA} {a : Addr} {oe : Obj} {cls : Value} {d : Option Addr} (F : FnE X.prog X.w X.K X.mg X.base CX0 k f fd ps sp) (hr : L2H.RoomH k X.A) (hot : L2H.Hot1 X.A (a, oe)) (hp : (a, oe) ∈ X.pn) (hz : L2N.Zn cls d oe) (hf : ∃ ws, oe.data = .fields ws)
    (hg : Gl X x) (hm : X.mg x = some (.ref f)) (hk : PySem.W.keepIn X.K (.ref f) = true) (hb : Binds X.K fd ps []) (ha : PA X (e :: es) t) (hdb : (x == ("__debug__" : Str)) = false := by decide)
    (he : starEach (e :: es) X.env = (false, eval e X.env) :: starEach es X.env := by rfl) (hpl : (backTo pos (starEach es X.env)).any (·.1) = false := by rfl) : PE X (.Call (.Name x q) (e :: es) [] pos) (tCallZ sp a cls d t) := by
  refine ⟨fun pins s σ H Q I h => ?_⟩
  refine wpAny_Call_Name_kw (ld_glob I hg hm ?_ hdb)
  refine PySem.W.callWith_K (h₀ := X.base) I.ok.mod.kin hk (thn (ha.run pos pins s σ H _ I h) fun us s1 z => ?_) he hpl
  obtain ⟨vs, H1, I1, r, hsp0⟩ := z
  have hsp := hsp0 oe hz hf
  refine ⟨I1.kIn, ?_⟩
  have n : us.length = ps.length := r.length.symm.trans (F.len _ _ _ _ _ hsp)
  have b := hb s1 us I1.kIn (by rw [List.append_nil]; exact n)
  rw [List.append_nil] at b
  have at1 := I1.pin (a, oe) (List.mem_append_left _ hp)
  have pin : L2H.PinOk X.stack H1 s1 (a, oe) := ⟨at1.1, at1.2.1, fun hx => (List.mem_cons.mp (I1.stkSub a hx)).elim at1.2.2.1 at1.2.2.2.1, at1.2.2.2.2⟩
  refine wpAny_call (codeAny_mono (F.run (a, oe) X.A X.stack s1 H1 ⟨us, []⟩ us vs Q E0 hr hot pin I1.env0 b r hsp) fun res s2 hres => ?_)
  cases res with
  | error er => exact hres.elim
  | ok fl =>
    cases fl with
    | ret u => exact I1.after hres
    | next => exact hres.elim
    | brk => exact hres.elim
    | cont => exact hres.elim
theorem hot_suite {X : Cx} {a : Addr} {oe : Obj} {cls : Value} {d : Option Addr} {pn : List (Addr × Obj)} (hz : L2N.Zn cls d oe) (hf : ∃ vs, oe.data = .fields vs) : L2H.Hot1 (X.suite a ((a, oe) :: pn)).A (a, oe) := by
  obtain ⟨vs, hv⟩ := hf
  exact ⟨rfl, vs, hv, hz.2.2 vs hv⟩

/-! ### more small rules -/
theorem passN0 {P : Program} {w : World} {X : Cx} : Passes (L2N.CX P w) X E0 := fun _ _ _ _ _ _ _ ⟨_, _, _, _, _, _, _, _, _, _, _, _, h⟩ => h.elim
theorem isTy_si {x : Str} : isTy (.str x) "int" = some false := by
  show L2.kitB "str" "int" = some false
  decide +kernel
theorem isTy_is {i : Int} : isTy (.int i) "str" = some false := by
  show L2.kitB "int" "str" = some false
  decide +kernel
theorem isTy_sb {x : Str} : isTy (.str x) "bool" = some false := by
  show L2.kitB "str" "bool" = some false
  decide +kernel
/-- isinstance(x, list), x a tracked list -/
def rIsL : List V → Hp → VK → Prop := fun xs H Q => ∃ p, xs = [.ref p, .ty "list"] ∧ lstAt H p fun _ => Q (.bl true) H
theorem call_isL {X : Cx} : CallR X (.builtin "isinstance") rIsL := by
  intro pins s σ H xs us Q I r h
  obtain ⟨p, rfl, h⟩ := h
  obtain ⟨ys, hp, q⟩ := lstAt_get h
  exact call_isi pins s σ H _ us Q I r ⟨.ref p, .ty "list", .type "list", .type "list", true, rfl, .ty "list", .base (.lst hp), kit_ty rfl, q⟩
/-- a str times an int that is more than one -/
def rRepS : R2 := fun x y H Q => ∃ (i : Str) (n : Int), x = .str i ∧ y = .int n ∧ 1 < n ∧ n ≤ 100000 ∧ 0 < i.length ∧ i.length ≤ 10 ∧ ∀ z : Str, z.length = i.length * n.toNat → Q (.str z) H
theorem size_foldl_rep (b : Array Nat) : ∀ (n : Nat) (a : Array Nat), (List.foldl (fun x1 x2 => x1 ++ x2) a (List.replicate n b)).size = a.size + b.size * n
  | 0, a => by simp
  | n + 1, a => by
    rw [List.replicate_succ, List.foldl_cons, size_foldl_rep b n, Array.size_append, Nat.mul_succ]
    omega
theorem op_repS {X : Cx} : OpR X (binaryOp .Mult) rRepS := by
  intro pins s σ H x y v u Q I rx ry h
  obtain ⟨i, n, rfl, rfl, h1, h2, h3, h4, q⟩ := h
  obtain ⟨t, rfl⟩ := rx
  obtain ⟨t', rfl⟩ := ry
  have hl : i.length * n.toNat ≤ 1000000 := by
    have := Nat.mul_le_mul h4 (show n.toNat ≤ 100000 by omega)
    omega
  have c0 : ¬ n < 1 := by omega
  have c1 : (n == 1 || i.length == 0) = false := by
    have a1 : (n == 1) = false := by simp; omega
    have a2 : (i.length == 0) = false := by simp; omega
    rw [a1, a2] <;> rfl
  have hs : (⟨(List.replicate n.toNat i.cps).foldl (· ++ ·) #[]⟩ : Str).length = i.length * n.toNat := by
    show Array.size _ = _
    rw [size_foldl_rep]
    simp [Str.length]
  have hsl : i.length * n.toNat ≤ sizeLine := Nat.le_trans hl (by decide)
  have ns : PySem.Builtin.Str.tooLong (i.length * n.toNat) = false := decide_eq_false (by omega)
  refine PySem.P.mul_str ?_ (fun _ _ => ?_) (fun _ _ => ns) ?_
  · have a1 : ¬ n < -(2 ^ 63 : Int) := by omega
    have a2 : ¬ n ≥ 2 ^ 63 := by omega
    rw [decide_eq_false a1, decide_eq_false a2] <;> rfl
  · have a1 : (100 : Int) ≤ (2 ^ 63 - 1) / n := by
      refine Int.le_ediv_of_mul_le (by omega) ?_
      omega
    omega
  · rw [if_neg c0, if_neg (by rw [c1]; decide)]
    exact ⟨by rw [hs]; exact hsl, ⟨.str _, H, I.tok _, ⟨_, rfl⟩, q _ hs⟩⟩
/-- a loop over a list that is made for it -/
theorem for_lstN {K : PySem.W.Frag} {tl : TE} {g : TG} {tb : TS} {D : Ends} {σ : L2.St} {H : Hp} (xs : List V) (htl : ∀ R : V → Hp → Prop, (∀ p, H p = none → R (.ref p) (upd H p (.lst xs))) → tl σ H R) (Pv : Addr → Nat → L2.St → Hp → Prop)
    (hp : ∀ p, H p = none → Pv p 0 σ (upd H p (.lst xs))) (hl : ∀ p i σ' H', H p = none → Pv p i σ' H' → H' p = some (.lst xs))
    (hs : ∀ p i x σ' H', H p = none → xs[i]? = some x → Pv p i σ' H' → g x σ' H' fun σ2 H2 => tb { D with nx := Pv p (i + 1), ct := Pv p (i + 1), bk := D.nx } σ2 H2) (hd : ∀ p σ' H', H p = none → Pv p xs.length σ' H' → D.nx σ' H') : tFor (iList K tl) g tb D σ H :=
  htl _ fun p h0 => ⟨p, rfl, ⟨xs, .inl (.inl upd_same)⟩, L2.for_list (K := K) (a := p) (xs := xs) (Pv p) (hp p h0) (fun i σ' H' _ h => .inl (.inl (hl p i σ' H' h0 h))) (fun i x σ' H' hx h => hs p i x σ' H' h0 hx h) (fun σ' H' h => hd p σ' H' h0 h)⟩
theorem cutV_from {xs : List V} {c : Nat} : cutV xs (some (c : Int)) none = xs.drop c := by
  unfold cutV
  rw [HT.sIx_none, HT.sIx_nat]
  by_cases h : c ≤ xs.length
  · rw [Nat.min_eq_left h]
    exact List.take_of_length_le (by rw [List.length_drop]; exact Nat.le_refl _)
  · rw [Nat.min_eq_right (by omega), List.drop_length, List.take_nil, List.drop_eq_nil_of_le (by omega)]
theorem cutV_to {xs : List V} {c : Nat} : cutV xs none (some (c : Int)) = xs.take c := by
  unfold cutV
  rw [HT.sIx_none, HT.sIx_nat, List.drop_zero, Nat.sub_zero]
  by_cases h : c ≤ xs.length
  · rw [Nat.min_eq_left h]
  · rw [Nat.min_eq_right (by omega), List.take_length, List.take_of_length_le (by omega)]
theorem suite_mem {X : Cx} {a : Addr} {oe : Obj} {pn : List (Addr × Obj)} : (a, oe) ∈ (X.suite a ((a, oe) :: pn)).pn := List.mem_cons_self ..
theorem call_isXs {X : Cx} {a : Addr} {oe : Obj} {pn : List (Addr × Obj)} {cls : Value} {d : Option Addr} (hz : L2N.Zn cls d oe) (hf : ∃ vs, oe.data = .fields vs) : CallR (X.suite a ((a, oe) :: pn)) (.builtin "isinstance") (rIsX X.K a cls d) :=
  call_isX (X := X.suite a ((a, oe) :: pn)) suite_mem (L2N.Zn.zc hz) hf
theorem pe_fxs {X : Cx} {a : Addr} {oe : Obj} {pn : List (Addr × Obj)} {cls : Value} {d : Option Addr} {e : Expr} {te : TE} {pos : Pos} {n : Str} (hz : L2N.Zn cls d oe) (hf : ∃ vs, oe.data = .fields vs) (he : PE (X.suite a ((a, oe) :: pn)) e te)
    (hb : attributeBase e n (X.suite a ((a, oe) :: pn)).env (eval e (X.suite a ((a, oe) :: pn)).env) = eval e (X.suite a ((a, oe) :: pn)).env := by rfl) : PE (X.suite a ((a, oe) :: pn)) (.Attribute e n pos) (tFx a cls d n X.K te) :=
  pe_fx (X := X.suite a ((a, oe) :: pn)) suite_mem (L2N.Zn.zc hz) hf he hb
/-- for k in range(j), j maybe less than nothing -/
theorem for_rngT {ta : TA} {g : TG} {tb : TS} {D : Ends} {σ : L2.St} {H : Hp} (j : Int) (hta : ∀ R : List V → Hp → Prop, R [.int j] H → ta σ H R) (h0 : -(2 ^ 62) ≤ j) (h1 : j < 2 ^ 62) (Pv : Nat → L2.St → Hp → Prop) (hp : Pv 0 σ H)
    (hs : ∀ (i : Nat) σ H, (i : Int) < j → Pv i σ H → g (.int (i : Int)) σ H fun σ2 H2 => tb { D with nx := Pv (i + 1), ct := Pv (i + 1), bk := D.nx } σ2 H2) (hd : ∀ σ H, Pv j.toNat σ H → D.nx σ H) : tFor (iRng1 ta) g tb D σ H :=
  hta _ ⟨j, rfl, h0, h1, for_range (lo := 0) (n := j.toNat) Pv hp (fun i σ H hi pv => by
    rw [Int.zero_add]
    exact hs i σ H (by omega) pv) hd⟩

/-! ### heappush, heappop over lists of ints -/
section
open PySem.AutoSeq1 PySem.MeetsSeq
def vals (ps : Array (Int × Tok)) : Array Value := ps.map fun p => Value.int p.1 p.2
theorem vals_size {ps : Array (Int × Tok)} : (vals ps).size = ps.size := Array.size_map ..
theorem vals_get {ps : Array (Int × Tok)} {i : Nat} (h : i < ps.size) : (vals ps)[i]? = some (Value.int ps[i].1 ps[i].2) := by
  unfold vals
  rw [Array.getElem?_map, Array.getElem?_eq_getElem h]
  rfl
theorem plain_sift : plainId "_heapq.heapify.sift" = true := by decide +kernel
theorem entry_sift : entryFor table "_heapq.heapify.sift" = some Builtin.«_heapq.heapify.sift» := entryFor_of_fast (by kernel_rfl)
def upS (l : Addr) (r : Value) (ps qs : Array (Int × Tok)) (n : Nat) : PySem.Spec := fun _ R s => s.heap.get? l = some { cls := .type "list", dict := none, data := .seq (vals ps) n, slots := #[] } ∧
  ∀ h' n' t', h'.get? l = some { cls := .type "list", dict := none, data := .seq (vals qs) n', slots := #[] } → (∀ b u, b ≠ l → s.heap.get? b = some u → h'.get? b = some u) → h'.objs.size = s.heap.objs.size → R (.ok (.ret r)) { s with heap := h', toks := t' }
def up (ps : Array (Int × Tok)) (pos : Nat) : Array (Int × Tok) :=
  if h : 0 < pos ∧ pos < ps.size then
    if ps[pos].1 < (ps[(pos - 1) / 2]'(by omega)).1 then up ((ps.setIfInBounds ((pos - 1) / 2) ps[pos]).setIfInBounds pos (ps[(pos - 1) / 2]'(by omega))) ((pos - 1) / 2) else ps
  else ps
termination_by pos
decreasing_by omega
theorem rc_lt {prog : Program} {w : World} {A : Around} {Q : Value → Shared → Prop} {E : Value → Shared → Prop} {s : Shared} {a b : Int} {t u : Tok} (h : Q (.bool (decide (a < b))) s) : wpAny (model prog w) A (richCompare .Lt (.int a t) (.int b u)) Q E s := PySem.P.lt_int h
theorem sift_up (l : Addr) (r : Value) (pos : Nat) : ∀ (ps : Array (Int × Tok)) (n : Nat), pos < ps.size → ps.size ≤ 100001 → Meets (Builtin.«_heapq.heapify.sift» ⟨[.ref l, .bool false, .bool false, rawInt (pos : Nat), rawInt (0 : Nat), r, rawInt (-1)], []⟩) (upS l r ps (up ps pos) n) := by
  induction pos using Nat.strongRecOn with
  | ind pos ih =>
    intro ps n hps hz prog w A R s h
    obtain ⟨hp, g, d, tk, os⟩ := s
    obtain ⟨hl, h⟩ := h
    have hz2 : (vals ps).size ≤ sizeLine := by rw [vals_size, sizeLine_eq]; omega
    wp_walk using wpAny_loadPart' hl
    by_cases hpos : 0 < pos
    · rw [if_pos (show ((pos : Nat) : Int).toNat > ((0 : Nat) : Int).toNat by rw [Int.toNat_natCast, Int.toNat_natCast]; exact hpos)]
      have hpar : (pos - 1) / 2 < ps.size := by omega
      simp only [Int.toNat_natCast]
      wp_walk
      rw [vals_get hps]
      wp_walk
      rw [vals_get hpar]
      wp_walk using rc_lt, wpAny_loadPart' hl
      by_cases c : ps[pos].1 < (ps[(pos - 1) / 2]).1
      · rw [if_pos (decide_eq_true c)]
        have e : up ps pos = up ((ps.setIfInBounds ((pos - 1) / 2) ps[pos]).setIfInBounds pos ps[(pos - 1) / 2]) ((pos - 1) / 2) := by
          rw [up, dif_pos ⟨hpos, hps⟩, if_pos c]
        have hz3 : (((vals ps).setIfInBounds ((pos - 1) / 2) (Value.int ps[pos].1 ps[pos].2)).setIfInBounds pos (Value.int (ps[(pos - 1) / 2]).1 (ps[(pos - 1) / 2]).2)).size ≤ sizeLine + 1 := by
          rw [Array.size_setIfInBounds, Array.size_setIfInBounds]
          omega
        wp_walk using wpAny_loadPart' hl
        rw [vals_get hpar]
        wp_walk
        rw [vals_get hps]
        wp_walk using (wpAny_updateSeq hl rfl (hz := hz2) (_hz' := hz3))
        have ev : vals ((ps.setIfInBounds ((pos - 1) / 2) ps[pos]).setIfInBounds pos ps[(pos - 1) / 2]) = ((vals ps).setIfInBounds ((pos - 1) / 2) (Value.int ps[pos].1 ps[pos].2)).setIfInBounds pos (Value.int (ps[(pos - 1) / 2]).1 (ps[(pos - 1) / 2]).2) := by
          unfold vals
          rw [Array.map_setIfInBounds, Array.map_setIfInBounds]
        have g1 := PySem.IsL.update hl (fun xs => (xs.setIfInBounds ((pos - 1) / 2) (Value.int ps[pos].1 ps[pos].2)).setIfInBounds pos (Value.int (ps[(pos - 1) / 2]).1 (ps[(pos - 1) / 2]).2))
        rw [← ev] at g1
        rw [e] at h
        exact ⟨plainId_quiet plain_sift _, codeAny_builtin entry_sift (by
          rw [Around.under_plainId plain_sift _]
          exact ih ((pos - 1) / 2) (by omega) _ _ (by rw [Array.size_setIfInBounds, Array.size_setIfInBounds]; exact hpar) (by rw [Array.size_setIfInBounds, Array.size_setIfInBounds]; exact hz) prog w A R _
            ⟨g1, fun h' n' t' a1 a2 a3 => h h' n' t' a1 (fun b u hb hu => a2 b u hb ((Heap.get?_update_other hp _ (Ne.symm hb)).trans hu)) (a3.trans (by simp [Heap.update]))⟩)⟩
      · rw [if_neg (by rw [decide_eq_true_eq]; exact c)]
        have e : up ps pos = ps := by
          rw [up, dif_pos ⟨hpos, hps⟩, if_neg c]
        rw [e] at h
        wp_walk
        exact h hp n tk hl (fun _ _ _ z => z) rfl
    · rw [if_neg (show ¬ ((pos : Nat) : Int).toNat > ((0 : Nat) : Int).toNat by rw [Int.toNat_natCast, Int.toNat_natCast]; exact hpos)]
      have e : up ps pos = ps := by
        unfold up
        rw [dif_neg (by omega)]
      rw [e] at h
      wp_walk
      exact h hp n tk hl (fun _ _ _ z => z) rfl
/-- the key at a place -/
def key (ps : Array (Int × Tok)) (i : Nat) : Int := (ps.getD i (0, 0)).1
theorem key_get {ps : Array (Int × Tok)} {i : Nat} (h : i < ps.size) : ps[i].1 = key ps i := by
  unfold key
  rw [Array.getD_eq_getD_getElem?, Array.getElem?_eq_getElem h]
  rfl
theorem key_set {ps : Array (Int × Tok)} {j : Nat} {y : Int × Tok} (h : j < ps.size) (i : Nat) : key (ps.setIfInBounds j y) i = if i = j then y.1 else key ps i := by
  unfold key
  rw [Array.getD_eq_getD_getElem?, Array.getD_eq_getD_getElem?, Array.getElem?_setIfInBounds]
  by_cases e : i = j
  · subst e
    rw [if_pos rfl, if_pos rfl, if_pos h]
    rfl
  · rw [if_neg (Ne.symm e), if_neg e]
def HpBut (ps : Array (Int × Tok)) (pos : Nat) : Prop := ∀ i, 0 < i → i < ps.size → i ≠ pos → key ps ((i - 1) / 2) ≤ key ps i
def IsHp (ps : Array (Int × Tok)) : Prop := ∀ i, 0 < i → i < ps.size → key ps ((i - 1) / 2) ≤ key ps i
theorem up_heap (pos : Nat) : ∀ ps : Array (Int × Tok), pos < ps.size → HpBut ps pos → (0 < pos → ∀ i, i < ps.size → 0 < i → (i - 1) / 2 = pos → key ps ((pos - 1) / 2) ≤ key ps i) → IsHp (up ps pos) := by
  induction pos using Nat.strongRecOn with
  | ind pos ih =>
    intro ps hps h1 h2
    by_cases hpos : 0 < pos
    · have hpar : (pos - 1) / 2 < ps.size := by omega
      by_cases c : ps[pos].1 < (ps[(pos - 1) / 2]).1
      · rw [up, dif_pos ⟨hpos, hps⟩, if_pos c]
        rw [key_get, key_get] at c
        have k1 : ∀ i, key ((ps.setIfInBounds ((pos - 1) / 2) ps[pos]).setIfInBounds pos ps[(pos - 1) / 2]) i = if i = pos then key ps ((pos - 1) / 2) else if i = (pos - 1) / 2 then key ps pos else key ps i := fun i => by
          rw [key_set (by rw [Array.size_setIfInBounds]; exact hps), key_set hpar, key_get, key_get]
        have sz : ((ps.setIfInBounds ((pos - 1) / 2) ps[pos]).setIfInBounds pos ps[(pos - 1) / 2]).size = ps.size := by rw [Array.size_setIfInBounds, Array.size_setIfInBounds]
        refine ih ((pos - 1) / 2) (by omega) _ (by rw [sz]; exact hpar) (fun i i0 i1 i2 => ?_) (fun p0 i i1 i0 i2 => ?_)
        · rw [sz] at i1
          rw [k1, k1]
          by_cases e : i = pos
          · subst e
            rw [if_neg (by omega), if_pos rfl, if_pos rfl]
            exact Int.le_of_lt c
          · rw [if_neg e, if_neg i2]
            have g := h1 i i0 i1 e
            by_cases e2 : (i - 1) / 2 = pos
            · rw [if_pos e2]
              exact h2 hpos i i1 i0 e2
            · rw [if_neg e2]
              by_cases e3 : (i - 1) / 2 = (pos - 1) / 2
              · rw [if_pos e3]
                rw [e3] at g
                omega
              · rw [if_neg e3]
                exact g
        · rw [sz] at i1
          rw [k1, k1, if_neg (by omega), if_neg (by omega)]
          have g := h1 ((pos - 1) / 2) p0 hpar (by omega)
          by_cases e : i = pos
          · rw [if_pos e]
            exact g
          · rw [if_neg e, if_neg (by omega)]
            have g2 := h1 i i0 i1 e
            rw [i2] at g2
            omega
      · rw [up, dif_pos ⟨hpos, hps⟩, if_neg c]
        rw [key_get, key_get] at c
        intro i i0 i1
        by_cases e : i = pos
        · subst e
          omega
        · exact h1 i i0 i1 e
    · rw [up, dif_neg (by omega)]
      exact fun i i0 i1 => h1 i i0 i1 (by omega)
theorem up_perm (pos : Nat) : ∀ ps : Array (Int × Tok), (up ps pos).toList.Perm ps.toList := by
  induction pos using Nat.strongRecOn with
  | ind pos ih =>
    intro ps
    by_cases h : 0 < pos ∧ pos < ps.size
    · have hpar : (pos - 1) / 2 < ps.size := by omega
      by_cases c : ps[pos].1 < (ps[(pos - 1) / 2]).1
      · rw [up, dif_pos h, if_pos c]
        refine (ih ((pos - 1) / 2) (by omega) _).trans ?_
        have e : (ps.setIfInBounds ((pos - 1) / 2) ps[pos]).setIfInBounds pos ps[(pos - 1) / 2] = ps.swap ((pos - 1) / 2) pos hpar h.2 := by
          simp [Array.swap_def, Array.setIfInBounds, hpar, h.2]
        rw [e]
        exact (Array.swap_perm hpar h.2).toList
      · rw [up, dif_pos h, if_neg c]
    · rw [up, dif_neg h]
theorem sub_tt : isSubtype (.type "tuple") (.type "tuple") = pure true := PySem.AutoSeq1.sub_tuple_tuple
theorem push_meets (l : Addr) (x : Int) (t : Tok) (ps : Array (Int × Tok)) (n : Nat) (hz : ps.size ≤ 100000) : Meets (Builtin.«_heapq.heappush» ⟨[.ref l, .int x t], []⟩) (upS l .none ps (up (ps.push (x, t)) ps.size) n) := by
  intro prog w A R s h
  obtain ⟨hp, g, d, tk, os⟩ := s
  obtain ⟨hl, h⟩ := h
  have f1 := idx_int
  have f2 := sub_tt
  have f3 := PySem.AutoSeq1.sub_list_list
  have f4 := PySem.AutoSeq1.sub_tuple_list
  have f5 := PySem.AutoSeq1.sub_list_tuple
  have hz' : ((vals ps).push (.int x t)).size ≤ sizeLine + 1 := by rw [Array.size_push, sizeLine_eq, vals_size]; omega
  have hz2 : (vals ps).size ≤ sizeLine := by rw [sizeLine_eq, vals_size]; omega
  have ev : vals (ps.push (x, t)) = (vals ps).push (.int x t) := by
    unfold vals
    rw [Array.map_push]
  have g1 := PySem.IsL.update hl (fun xs => xs.push (.int x t))
  rw [← ev] at g1
  wp_walk using (wpAny_updateSeq hl rfl (hz := hz2) (_hz' := hz')), wpAny_loadPart' hl, wpAny_loadPart' g1
  refine ⟨plainId_quiet plain_sift _, codeAny_builtin entry_sift ?_⟩
  rw [Around.under_plainId plain_sift _]
  have e : (vals (ps.push (x, t))).size - 1 = ps.size := by rw [vals_size, Array.size_push]; rfl
  rw [e]
  exact sift_up l _ ps.size (ps.push (x, t)) _ (by rw [Array.size_push]; omega) (by rw [Array.size_push]; omega) prog w A R _
    ⟨g1, fun h' n' t' a1 a2 a3 => h h' n' t' a1 (fun b u hb hu => a2 b u hb ((Heap.get?_update_other hp _ (Ne.symm hb)).trans hu)) (a3.trans (by simp [Heap.update]))⟩
/-- two places change -/
def sw (ps : Array (Int × Tok)) (i j : Nat) : Array (Int × Tok) := (ps.setIfInBounds i (ps.getD j (0, 0))).setIfInBounds j (ps.getD i (0, 0))
theorem sw_size {ps : Array (Int × Tok)} {i j : Nat} : (sw ps i j).size = ps.size := by
  unfold sw
  rw [Array.size_setIfInBounds, Array.size_setIfInBounds]
theorem getD_get {ps : Array (Int × Tok)} {i : Nat} (h : i < ps.size) : ps.getD i (0, 0) = ps[i] := by
  rw [Array.getD_eq_getD_getElem?, Array.getElem?_eq_getElem h]
  rfl
theorem sw_key {ps : Array (Int × Tok)} {i j : Nat} (hi : i < ps.size) (hj : j < ps.size) (k : Nat) : key (sw ps i j) k = if k = j then key ps i else if k = i then key ps j else key ps k := by
  unfold sw
  rw [key_set (by rw [Array.size_setIfInBounds]; exact hj), key_set hi]
  rfl
theorem sw_perm {ps : Array (Int × Tok)} {i j : Nat} (hi : i < ps.size) (hj : j < ps.size) : (sw ps i j).toList.Perm ps.toList := by
  have e : sw ps i j = ps.swap i j hi hj := by
    unfold sw
    rw [getD_get hi, getD_get hj]
    simp [Array.swap_def, Array.setIfInBounds, hi, hj]
  rw [e]
  exact (Array.swap_perm hi hj).toList
theorem sw_vals {ps : Array (Int × Tok)} {i j : Nat} (hi : i < ps.size) (hj : j < ps.size) : vals (sw ps i j) = ((vals ps).setIfInBounds i (Value.int ps[j].1 ps[j].2)).setIfInBounds j (Value.int ps[i].1 ps[i].2) := by
  unfold sw vals
  rw [getD_get hi, getD_get hj, Array.map_setIfInBounds, Array.map_setIfInBounds]
def dnC (ps : Array (Int × Tok)) (pos : Nat) : Nat := if 2 * pos + 1 + 1 < ps.size ∧ ¬ key ps (2 * pos + 1) < key ps (2 * pos + 1 + 1) then 2 * pos + 1 + 1 else 2 * pos + 1
theorem dnC_lt {ps : Array (Int × Tok)} {pos : Nat} (h : pos < ps.size / 2) : dnC ps pos < ps.size ∧ pos < dnC ps pos := by
  unfold dnC
  split <;> omega
def dn (ps : Array (Int × Tok)) (pos : Nat) : Array (Int × Tok) := if h : pos < ps.size / 2 then dn (sw ps (dnC ps pos) pos) (dnC ps pos) else up ps pos
termination_by ps.size - pos
decreasing_by
  have := dnC_lt h
  rw [sw_size]
  omega
theorem dn_perm (k : Nat) : ∀ (ps : Array (Int × Tok)) (pos : Nat), ps.size - pos = k → (dn ps pos).toList.Perm ps.toList := by
  induction k using Nat.strongRecOn with
  | ind k ih =>
    intro ps pos hk
    by_cases h : pos < ps.size / 2
    · have hc := dnC_lt h
      rw [dn, dif_pos h]
      exact (ih (ps.size - dnC ps pos) (by omega) (sw ps (dnC ps pos) pos) (dnC ps pos) (by rw [sw_size])).trans (sw_perm hc.1 (by omega))
    · rw [dn, dif_neg h]
      exact up_perm pos ps
theorem dn_heap (k : Nat) : ∀ (ps : Array (Int × Tok)) (pos : Nat), ps.size - pos = k → pos < ps.size → (∀ i, 0 < i → i < ps.size → i ≠ pos → (i - 1) / 2 ≠ pos → key ps ((i - 1) / 2) ≤ key ps i) →
    (0 < pos → ∀ i, i < ps.size → 0 < i → (i - 1) / 2 = pos → key ps ((pos - 1) / 2) ≤ key ps i) → IsHp (dn ps pos) := by
  induction k using Nat.strongRecOn with
  | ind k ih =>
    intro ps pos hk hp h1 h2
    by_cases h : pos < ps.size / 2
    · have hc := dnC_lt h
      have sm : ∀ i, i < ps.size → 0 < i → (i - 1) / 2 = pos → key ps (dnC ps pos) ≤ key ps i := fun i i1 i0 e => by
        have e2 : i = 2 * pos + 1 ∨ i = 2 * pos + 1 + 1 := by omega
        unfold dnC
        rcases e2 with rfl | rfl
        · split <;> omega
        · split
          · exact Int.le_refl _
          · rename_i g
            have g2 : key ps (2 * pos + 1) < key ps (2 * pos + 1 + 1) := Classical.byContradiction fun z => g ⟨i1, z⟩
            omega
      have pc : (dnC ps pos - 1) / 2 = pos := by
        unfold dnC
        split <;> omega
      rw [dn, dif_pos h]
      refine ih (ps.size - dnC ps pos) (by omega) (sw ps (dnC ps pos) pos) (dnC ps pos) (by rw [sw_size]) (by rw [sw_size]; exact hc.1) (fun i i0 i1 i2 i3 => ?_) (fun p0 i i1 i0 i2 => ?_)
      · rw [sw_size] at i1
        rw [sw_key hc.1 hp, sw_key hc.1 hp, if_neg i3, if_neg i2]
        by_cases e : i = pos
        · subst e
          rw [if_neg (by omega), if_pos rfl]
          exact h2 i0 _ hc.1 (by omega) pc
        · rw [if_neg e]
          by_cases e2 : (i - 1) / 2 = pos
          · rw [if_pos e2]
            exact sm i i1 i0 e2
          · rw [if_neg e2]
            exact h1 i i0 i1 e e2
      · rw [sw_size] at i1
        rw [sw_key hc.1 hp, sw_key hc.1 hp, pc, if_pos rfl, if_neg (by omega), if_neg (by omega)]
        have g := h1 i i0 i1 (by omega) (by omega)
        rw [i2] at g
        exact g
    · rw [dn, dif_neg h]
      exact up_heap pos ps hp (fun i i0 i1 i2 => h1 i i0 i1 i2 (by omega)) (fun p0 i i1 i0 i2 => by omega)
theorem sift_dn (l : Addr) (r : Value) (k : Nat) : ∀ (ps : Array (Int × Tok)) (pos : Nat) (n : Nat), ps.size - pos = k → pos < ps.size → ps.size ≤ 100001 →
    Meets (Builtin.«_heapq.heapify.sift» ⟨[.ref l, .bool false, .bool true, rawInt (pos : Nat), rawInt (0 : Nat), r, rawInt (-1)], []⟩) (upS l r ps (dn ps pos) n) := by
  induction k using Nat.strongRecOn with
  | ind k ih =>
    intro ps pos n hk hps hz prog w A R s h
    obtain ⟨hp, g, d, tk, os⟩ := s
    obtain ⟨hl, h⟩ := h
    have hz2 : (vals ps).size ≤ sizeLine := by rw [vals_size, sizeLine_eq]; omega
    wp_walk using wpAny_loadPart' hl
    by_cases hpos : pos < ps.size / 2
    · rw [if_pos (show ((pos : Nat) : Int).toNat < (vals ps).size / 2 by rw [Int.toNat_natCast, vals_size]; exact hpos)]
      simp only [Int.toNat_natCast]
      have hl2 : 2 * pos + 1 < ps.size := by omega
      wp_walk
      by_cases c1 : 2 * pos + 1 + 1 < ps.size
      · rw [if_pos (show 2 * pos + 1 + 1 < (vals ps).size by rw [vals_size]; exact c1)]
        wp_walk
        rw [vals_get hl2]
        wp_walk
        rw [vals_get c1]
        wp_walk using rc_lt, wpAny_loadPart' hl
        by_cases c2 : ¬ key ps (2 * pos + 1) < key ps (2 * pos + 1 + 1)
        · have c3 : (!decide ((ps[2 * pos + 1]).1 < (ps[2 * pos + 1 + 1]).1)) = true := by
            rw [key_get, key_get, decide_eq_false c2] <;> rfl
          rw [if_pos c3]
          have ec : dnC ps pos = 2 * pos + 1 + 1 := by
            unfold dnC
            rw [if_pos ⟨c1, c2⟩]
          have hc1 : 2 * pos + 1 + 1 < ps.size := by omega
          have g1 := PySem.IsL.update hl (fun xs => (xs.setIfInBounds (2 * pos + 1 + 1) (Value.int ps[pos].1 ps[pos].2)).setIfInBounds pos (Value.int (ps[2 * pos + 1 + 1]).1 (ps[2 * pos + 1 + 1]).2))
          rw [← sw_vals hc1 hps] at g1
          rw [dn, dif_pos hpos] at h
          have hz3 : (((vals ps).setIfInBounds (2 * pos + 1 + 1) (Value.int ps[pos].1 ps[pos].2)).setIfInBounds pos (Value.int (ps[2 * pos + 1 + 1]).1 (ps[2 * pos + 1 + 1]).2)).size ≤ sizeLine + 1 := by
            rw [Array.size_setIfInBounds, Array.size_setIfInBounds]
            omega
          wp_walk using wpAny_loadPart' hl
          rw [vals_get hc1]
          wp_walk
          rw [vals_get hps]
          wp_walk using (wpAny_updateSeq hl rfl (hz := hz2) (_hz' := hz3))
          refine ⟨plainId_quiet plain_sift _, codeAny_builtin entry_sift ?_⟩
          rw [Around.under_plainId plain_sift _]
          have key2 := fun n2 => ih (ps.size - dnC ps pos) (by have := dnC_lt hpos; omega) (sw ps (dnC ps pos) pos) (dnC ps pos) n2 (by rw [sw_size]) (by rw [sw_size]; exact (dnC_lt hpos).1) (by rw [sw_size]; exact hz) prog w A R
          rw [ec] at key2 h
          exact key2 _ _ ⟨g1, fun h' n' t' a1 a2 a3 => h h' n' t' a1 (fun b u hb hu => a2 b u hb ((Heap.get?_update_other hp _ (Ne.symm hb)).trans hu)) (a3.trans (by simp [Heap.update]))⟩
        · have c3 : ¬ (!decide ((ps[2 * pos + 1]).1 < (ps[2 * pos + 1 + 1]).1)) = true := by
            rw [key_get, key_get, decide_eq_true (Classical.not_not.mp c2)]
            decide
          rw [if_neg c3]
          have ec : dnC ps pos = 2 * pos + 1 := by
            unfold dnC
            rw [if_neg (fun z => z.2 (Classical.not_not.mp c2))]
          have hc1 : 2 * pos + 1 < ps.size := by omega
          have g1 := PySem.IsL.update hl (fun xs => (xs.setIfInBounds (2 * pos + 1) (Value.int ps[pos].1 ps[pos].2)).setIfInBounds pos (Value.int (ps[2 * pos + 1]).1 (ps[2 * pos + 1]).2))
          rw [← sw_vals hc1 hps] at g1
          rw [dn, dif_pos hpos] at h
          have hz3 : (((vals ps).setIfInBounds (2 * pos + 1) (Value.int ps[pos].1 ps[pos].2)).setIfInBounds pos (Value.int (ps[2 * pos + 1]).1 (ps[2 * pos + 1]).2)).size ≤ sizeLine + 1 := by
            rw [Array.size_setIfInBounds, Array.size_setIfInBounds]
            omega
          wp_walk using wpAny_loadPart' hl
          rw [vals_get hc1]
          wp_walk
          rw [vals_get hps]
          wp_walk using (wpAny_updateSeq hl rfl (hz := hz2) (_hz' := hz3))
          refine ⟨plainId_quiet plain_sift _, codeAny_builtin entry_sift ?_⟩
          rw [Around.under_plainId plain_sift _]
          have key2 := fun n2 => ih (ps.size - dnC ps pos) (by have := dnC_lt hpos; omega) (sw ps (dnC ps pos) pos) (dnC ps pos) n2 (by rw [sw_size]) (by rw [sw_size]; exact (dnC_lt hpos).1) (by rw [sw_size]; exact hz) prog w A R
          rw [ec] at key2 h
          exact key2 _ _ ⟨g1, fun h' n' t' a1 a2 a3 => h h' n' t' a1 (fun b u hb hu => a2 b u hb ((Heap.get?_update_other hp _ (Ne.symm hb)).trans hu)) (a3.trans (by simp [Heap.update]))⟩
      · rw [if_neg (show ¬ 2 * pos + 1 + 1 < (vals ps).size by rw [vals_size]; exact c1)]
        have ec : dnC ps pos = 2 * pos + 1 := by
          unfold dnC
          rw [if_neg (fun z => c1 z.1)]
        have hc1 : 2 * pos + 1 < ps.size := by omega
        have g1 := PySem.IsL.update hl (fun xs => (xs.setIfInBounds (2 * pos + 1) (Value.int ps[pos].1 ps[pos].2)).setIfInBounds pos (Value.int (ps[2 * pos + 1]).1 (ps[2 * pos + 1]).2))
        rw [← sw_vals hc1 hps] at g1
        rw [dn, dif_pos hpos] at h
        have hz3 : (((vals ps).setIfInBounds (2 * pos + 1) (Value.int ps[pos].1 ps[pos].2)).setIfInBounds pos (Value.int (ps[2 * pos + 1]).1 (ps[2 * pos + 1]).2)).size ≤ sizeLine + 1 := by
          rw [Array.size_setIfInBounds, Array.size_setIfInBounds]
          omega
        wp_walk using wpAny_loadPart' hl
        rw [vals_get hc1]
        wp_walk
        rw [vals_get hps]
        wp_walk using (wpAny_updateSeq hl rfl (hz := hz2) (_hz' := hz3))
        refine ⟨plainId_quiet plain_sift _, codeAny_builtin entry_sift ?_⟩
        rw [Around.under_plainId plain_sift _]
        have key2 := fun n2 => ih (ps.size - dnC ps pos) (by have := dnC_lt hpos; omega) (sw ps (dnC ps pos) pos) (dnC ps pos) n2 (by rw [sw_size]) (by rw [sw_size]; exact (dnC_lt hpos).1) (by rw [sw_size]; exact hz) prog w A R
        rw [ec] at key2 h
        exact key2 _ _ ⟨g1, fun h' n' t' a1 a2 a3 => h h' n' t' a1 (fun b u hb hu => a2 b u hb ((Heap.get?_update_other hp _ (Ne.symm hb)).trans hu)) (a3.trans (by simp [Heap.update]))⟩
    · rw [if_neg (show ¬ ((pos : Nat) : Int).toNat < (vals ps).size / 2 by rw [Int.toNat_natCast, vals_size]; exact hpos)]
      rw [dn, dif_neg hpos] at h
      wp_walk
      refine ⟨plainId_quiet plain_sift _, codeAny_builtin entry_sift ?_⟩
      rw [Around.under_plainId plain_sift _]
      exact sift_up l r pos ps n hps hz prog w A R _ ⟨hl, h⟩
end
section
open PySem.AutoSeq1 PySem.MeetsSeq
theorem pop_meets1 (l : Addr) (x : Int) (t : Tok) (n : Nat) : Meets (Builtin.«_heapq.heappop» ⟨[.ref l], []⟩) (upS l (.int x t) #[(x, t)] #[] n) := by
  intro prog w A R s h
  obtain ⟨hp, g, d, tk, os⟩ := s
  obtain ⟨hl, h⟩ := h
  have f2 := sub_tt
  have f3 := PySem.AutoSeq1.sub_list_list
  have f4 := PySem.AutoSeq1.sub_tuple_list
  have f5 := PySem.AutoSeq1.sub_list_tuple
  have eb : (vals #[(x, t)]).back? = some (.int x t) := by
    unfold vals
    simp
  have g1 := PySem.IsL.update hl (fun xs => xs.pop)
  have hz2 : (vals #[(x, t)]).size ≤ sizeLine := by rw [vals_size, sizeLine_eq]; simp
  have hz3 : ((vals #[(x, t)]).pop).size ≤ sizeLine + 1 := by rw [Array.size_pop, vals_size, sizeLine_eq]; simp
  have ep : (vals #[(x, t)]).pop = vals #[] := by
    unfold vals
    simp
  rw [ep] at g1
  wp_walk using wpAny_loadPart' hl
  rw [eb]
  wp_walk using (wpAny_updateSeq hl rfl (hz := hz2) (_hz' := hz3)), wpAny_loadPart' hl
  rw [if_pos (show ((vals #[(x, t)]).size == 1) = true by rw [vals_size]; rfl)]
  wp_walk
  exact h _ _ _ g1 (fun b u hb hu => (Heap.get?_update_other hp _ (Ne.symm hb)).trans hu) (by simp [Heap.update])
theorem pop_meets (l : Addr) (x y : Int) (t u : Tok) (ps : Array (Int × Tok)) (n : Nat) (hz : ps.size ≤ 100000) :
    Meets (Builtin.«_heapq.heappop» ⟨[.ref l], []⟩) (upS l (.int x t) (#[(x, t)] ++ ps ++ #[(y, u)]) (dn (#[(y, u)] ++ ps) 0) n) := by
  intro prog w A R s h
  obtain ⟨hp, g, d, tk, os⟩ := s
  obtain ⟨hl, h⟩ := h
  have f2 := sub_tt
  have f3 := PySem.AutoSeq1.sub_list_list
  have f4 := PySem.AutoSeq1.sub_tuple_list
  have f5 := PySem.AutoSeq1.sub_list_tuple
  have eb : (vals (#[(x, t)] ++ ps ++ #[(y, u)])).back? = some (.int y u) := by
    unfold vals
    simp
  have e0 : (vals (#[(x, t)] ++ ps ++ #[(y, u)]))[0]? = some (.int x t) := by
    unfold vals
    rw [Array.map_append, Array.map_append, Array.append_assoc, Array.getElem?_append_left (by simp)]
    simp
  have ep : (vals (#[(x, t)] ++ ps ++ #[(y, u)])).pop = vals (#[(x, t)] ++ ps) := by
    unfold vals
    simp
  have es : (vals (#[(x, t)] ++ ps)).setIfInBounds 0 (.int y u) = vals (#[(y, u)] ++ ps) := by
    unfold vals
    apply Array.ext'
    simp [Array.toList_setIfInBounds]
  have sz : (vals (#[(x, t)] ++ ps ++ #[(y, u)])).size = ps.size + 2 := by
    rw [vals_size]
    simp
    omega
  have sz2 : (vals (#[(x, t)] ++ ps)).size = ps.size + 1 := by
    rw [vals_size]
    simp
    omega
  have sz3 : (vals (#[(y, u)] ++ ps)).size = ps.size + 1 := by
    rw [vals_size]
    simp
    omega
  have g1 := PySem.IsL.update hl (fun xs => xs.pop)
  rw [ep] at g1
  have g2 := PySem.IsL.update g1 (fun xs => xs.setIfInBounds 0 (.int y u))
  rw [es] at g2
  have hz2 : (vals (#[(x, t)] ++ ps ++ #[(y, u)])).size ≤ sizeLine := by rw [sz, sizeLine_eq]; omega
  have hz3 : ((vals (#[(x, t)] ++ ps ++ #[(y, u)])).pop).size ≤ sizeLine + 1 := by rw [ep, sz2, sizeLine_eq]; omega
  have hz4 : (vals (#[(x, t)] ++ ps)).size ≤ sizeLine := by rw [sz2, sizeLine_eq]; omega
  have hz5 : ((vals (#[(x, t)] ++ ps)).setIfInBounds 0 (.int y u)).size ≤ sizeLine + 1 := by rw [es, sz3, sizeLine_eq]; omega
  have ne1 : ((vals (#[(x, t)] ++ ps ++ #[(y, u)])).size == 1) = false := by
    rw [sz]
    simp
  wp_walk using wpAny_loadPart' hl
  rw [eb]
  wp_walk using (wpAny_updateSeq hl rfl (hz := hz2) (_hz' := hz3)), wpAny_loadPart' hl
  rw [ne1]
  rw [if_neg (by decide)]
  wp_walk
  rw [e0]
  wp_walk using (wpAny_updateSeq g1 rfl (hz := hz4) (_hz' := hz5)), wpAny_loadPart' hl
  refine ⟨plainId_quiet plain_sift _, codeAny_builtin entry_sift ?_⟩
  rw [Around.under_plainId plain_sift _]
  exact sift_dn l (.int x t) ((#[(y, u)] ++ ps).size - 0) (#[(y, u)] ++ ps) 0 _ rfl (by simp; omega) (by simp; omega) prog w A R _
    ⟨g2, fun h' n' t' a1 a2 a3 => h h' n' t' a1 (fun b v hb hv => a2 b v hb ((Heap.get?_update_other _ _ (Ne.symm hb)).trans ((Heap.get?_update_other hp _ (Ne.symm hb)).trans hv))) (a3.trans (by simp [Heap.update]))⟩
end
/-- a heap, as a list of ints -/
def HpL (xs : List Int) : Prop := ∀ i, 0 < i → i < xs.length → xs.getD ((i - 1) / 2) 0 ≤ xs.getD i 0
theorem HpL.nil : HpL [] := fun i _ h => absurd h (by simp)
theorem key_getD {ps : Array (Int × Tok)} {xs : List Int} (h : ps.toList.map (·.1) = xs) (i : Nat) : key ps i = xs.getD i 0 := by
  subst h
  unfold key
  by_cases e : i < ps.size
  · rw [getD_get e]
    simp [List.getD_eq_getElem?_getD, e]
  · simp [Array.getD_eq_getD_getElem?, List.getD_eq_getElem?_getD, e]
theorem hpL_iff {ps : Array (Int × Tok)} {xs : List Int} (h : ps.toList.map (·.1) = xs) : IsHp ps ↔ HpL xs := by
  have sz : xs.length = ps.size := by
    rw [← h]
    simp
  unfold IsHp HpL
  rw [sz]
  constructor
  · intro q i i0 i1
    have := q i i0 i1
    rwa [key_getD h, key_getD h] at this
  · intro q i i0 i1
    have := q i i0 i1
    rwa [key_getD h, key_getD h]
theorem HpL.least : ∀ {xs : List Int}, HpL xs → ∀ (i : Nat), i < xs.length → xs.getD 0 0 ≤ xs.getD i 0 := by
  intro xs h i
  induction i using Nat.strongRecOn with
  | ind i ih =>
    intro hi
    by_cases e : i = 0
    · rw [e]
      exact Int.le_refl _
    · have a := ih ((i - 1) / 2) (by omega) (by omega)
      have b := h i (by omega) hi
      omega
theorem HpL.head {x : Int} {xs : List Int} (h : HpL (x :: xs)) : ∀ y ∈ xs, x ≤ y := by
  intro y hy
  obtain ⟨i, hi⟩ := List.mem_iff_getElem?.mp hy
  have := h.least (i + 1) (by have := (List.getElem?_eq_some_iff.mp hi).1; simp; omega)
  simpa [List.getD_eq_getElem?_getD, hi] using this
/-- a list of ints as it stands on the heap -/
theorem ints_arr : ∀ {its : List Value} {ns : List Int}, Vals (ns.map V.int) its → ∃ ps : List (Int × Tok), its = (ps.map fun p => Value.int p.1 p.2) ∧ ps.map (·.1) = ns
  | [], [], _ => ⟨[], rfl, rfl⟩
  | u :: us, n :: ns, h => by
    cases h with
    | cons a b =>
      obtain ⟨t, rfl⟩ := a
      obtain ⟨ps, e1, e2⟩ := ints_arr b
      exact ⟨(n, t) :: ps, by rw [e1]; rfl, by simp [e2]⟩
  | [], n :: ns, h => by cases h
  | u :: us, [], h => by cases h
theorem arr_ints {ps : List (Int × Tok)} : Vals ((ps.map (·.1)).map V.int) (ps.map fun p => Value.int p.1 p.2) := by
  induction ps with
  | nil => exact .nil
  | cons p ps ih => exact .cons ⟨p.2, rfl⟩ ih
def rPush : List V → Hp → VK → Prop := fun vs H Q => ∃ (l : Addr) (x : Int) (xs : List Int), vs = [.ref l, .int x] ∧ H l = some (.lst (xs.map V.int)) ∧ xs.length ≤ 100000 ∧
  ∀ ys : List Int, ys.Perm (x :: xs) → (HpL xs → HpL ys) → Q .non (upd H l (.lst (ys.map V.int)))
def rPopH : List V → Hp → VK → Prop := fun vs H Q => ∃ (l : Addr) (x : Int) (xs : List Int), vs = [.ref l] ∧ H l = some (.lst ((x :: xs).map V.int)) ∧ xs.length ≤ 100000 ∧
  ∀ ys : List Int, ys.Perm xs → (HpL (x :: xs) → HpL ys) → Q (.int x) (upd H l (.lst (ys.map V.int)))
theorem kind_push : builtinKind "_heapq.heappush" = none := by decide +kernel
theorem plain_push : plainId "_heapq.heappush" = true := by decide +kernel
theorem entry_push : entryFor table "_heapq.heappush" = some Builtin.«_heapq.heappush» := entryFor_of_fast (by kernel_rfl)
theorem kind_popH : builtinKind "_heapq.heappop" = none := by decide +kernel
theorem plain_popH : plainId "_heapq.heappop" = true := by decide +kernel
theorem entry_popH : entryFor table "_heapq.heappop" = some Builtin.«_heapq.heappop» := entryFor_of_fast (by kernel_rfl)
theorem args_push (a b : Value) : argsOk "_heapq.heappush" ⟨[a, b], []⟩ := by
  unfold argsOk
  first | rfl | kernel_rfl
theorem args_popH (a : Value) : argsOk "_heapq.heappop" ⟨[a], []⟩ := by
  unfold argsOk
  first | rfl | kernel_rfl
section
variable {X : Cx}
theorem inv_frame {pins : List (Addr × Obj)} {σ : L2.St} {H : Hp} {s : Shared} {l : Addr} {xs : List V} {ys : List Int} {qs : Array (Int × Tok)} {h' : Heap} {n' t' : Nat} (I : Inv X pins σ H s) (hH : H l = some (.lst xs))
    (a1 : h'.get? l = some { cls := .type "list", dict := none, data := .seq (vals qs) n', slots := #[] }) (a2 : ∀ b u, b ≠ l → s.heap.get? b = some u → h'.get? b = some u) (e : qs.toList.map (·.1) = ys) (hz : ys.length ≤ sizeLine) :
    Inv X pins σ (upd H l (.lst (ys.map V.int))) { s with heap := h', toks := t' } := by
  refine I.write (x := l) (e := l) (by rw [hH]; exact trivial) (.inl rfl) a2 ⟨_, a1⟩ ?_
  refine ⟨by rw [List.length_map]; exact hz, qs.toList.map fun p => Value.int p.1 p.2, n', ?_, ?_⟩
  · subst e
    exact arr_ints
  · rw [a1]
    have : (qs.toList.map fun p => Value.int p.1 p.2).toArray = vals qs := by
      unfold vals
      apply Array.ext'
      simp
    rw [this]
theorem call_push : CallR X (.builtin "_heapq.heappush") rPush := by
  intro pins s σ H vs us Q I r h
  obtain ⟨l, x, xs, rfl, hH, hz, q⟩ := h
  obtain ⟨u1, u2, rfl, r1, r2⟩ := vals2 r
  cases r1
  obtain ⟨t, rfl⟩ := r2
  obtain ⟨z, its, n, rv, hl, e⟩ := I.lstM hH
  obtain ⟨ps, e1, e2⟩ := ints_arr rv
  subst e1
  have ev : (ps.map fun p => Value.int p.1 p.2).toArray = vals ps.toArray := by
    unfold vals
    simp
  rw [ev] at e
  have sz : ps.toArray.size = xs.length := by
    rw [← e2]
    simp
  refine call_function_meets kind_push plain_push entry_push (args_push _ _) (push_meets l x t ps.toArray n (by omega)) ⟨e, fun h' n' t' a1 a2 a3 => ?_⟩
  have hp := up_perm ps.toArray.size (ps.toArray.push (x, t))
  have hp2 : ((up (ps.toArray.push (x, t)) ps.toArray.size).toList.map (·.1)).Perm (x :: xs) := by
    refine (hp.map (·.1)).trans ?_
    rw [Array.toList_push, List.map_append, e2]
    exact List.perm_append_comm
  refine ⟨.non, _, inv_frame I hH a1 a2 rfl ?_, rfl, q _ hp2 fun h => ?_⟩
  · rw [hp2.length_eq, List.length_cons, sizeLine_eq]
    omega
  · refine (hpL_iff rfl).mp (up_heap _ _ (by rw [Array.size_push]; omega) (fun i i0 i1 i2 => ?_) (fun p0 i i1 i0 i2 => ?_))
    · rw [Array.size_push] at i1
      have ps2 : (ps.toArray.push (x, t)).toList.map (·.1) = xs ++ [x] := by
        rw [Array.toList_push, List.map_append, e2]
        rfl
      rw [key_getD ps2, key_getD ps2]
      have := h i i0 (by omega)
      have a1 : (xs ++ [x]).getD ((i - 1) / 2) 0 = xs.getD ((i - 1) / 2) 0 := by
        rw [List.getD_eq_getElem?_getD, List.getElem?_append_left (by omega), List.getD_eq_getElem?_getD]
      have a2 : (xs ++ [x]).getD i 0 = xs.getD i 0 := by
        rw [List.getD_eq_getElem?_getD, List.getElem?_append_left (by omega), List.getD_eq_getElem?_getD]
      rw [a1, a2]
      exact this
    · rw [Array.size_push] at i1
      omega
theorem call_popH : CallR X (.builtin "_heapq.heappop") rPopH := by
  intro pins s σ H vs us Q I r h
  obtain ⟨l, x, xs, rfl, hH, hz, q⟩ := h
  have er := Vals.ref1 r
  subst er
  obtain ⟨z, its, n, rv, hl, e⟩ := I.lstM hH
  obtain ⟨ps, e1, e2⟩ := ints_arr rv
  subst e1
  have ev : (ps.map fun p => Value.int p.1 p.2).toArray = vals ps.toArray := by
    unfold vals
    simp
  rw [ev] at e
  rcases List.eq_nil_or_concat xs with hx | ⟨zs, y, hx⟩
  · subst hx
    match ps, e2 with
    | [(x', t)], e2 =>
      have : x' = x := by simpa using e2
      subst this
      refine call_function_meets kind_popH plain_popH entry_popH (args_popH _) (pop_meets1 l x' t n) ⟨e, fun h' n' t' a1 a2 a3 => ?_⟩
      exact ⟨.int x', _, inv_frame I hH a1 a2 (ys := []) rfl (Nat.zero_le _), ⟨_, rfl⟩, q [] (List.Perm.refl _) fun _ => HpL.nil⟩
  · rw [List.concat_eq_append] at hx
    subst hx
    have : ∃ t qs u, ps = (x, t) :: qs ++ [(y, u)] ∧ qs.map (·.1) = zs := by
      match ps, e2 with
      | (x', t) :: ps', e2 =>
        rw [List.map_cons, List.cons.injEq] at e2
        obtain ⟨e3, e4⟩ := e2
        rcases List.eq_nil_or_concat ps' with h | ⟨qs, w, h⟩
        · subst h
          simp at e4
        · rw [List.concat_eq_append] at h
          subst h
          rw [List.map_append] at e4
          have h1 := List.append_inj' e4 (by simp)
          have h2 : w.1 = y := by simpa using h1.2
          subst e3
          subst h2
          exact ⟨t, qs, w.2, rfl, h1.1⟩
    obtain ⟨t, qs, u, rfl, eq⟩ := this
    have ea : ((x, t) :: qs ++ [(y, u)]).toArray = #[(x, t)] ++ qs.toArray ++ #[(y, u)] := by
      apply Array.ext'
      simp
    rw [ea] at e
    have sq : qs.toArray.size = zs.length := by
      rw [← eq]
      simp
    rw [List.length_append] at hz
    have hz1 : zs.length + 1 ≤ 100000 := hz
    refine call_function_meets kind_popH plain_popH entry_popH (args_popH _) (pop_meets l x y t u qs.toArray n (by omega)) ⟨e, fun h' n' t' a1 a2 a3 => ?_⟩
    have hp := dn_perm _ (#[(y, u)] ++ qs.toArray) 0 rfl
    have hp2 : ((dn (#[(y, u)] ++ qs.toArray) 0).toList.map (·.1)).Perm (zs ++ [y]) := by
      refine (hp.map (·.1)).trans ?_
      rw [Array.toList_append, List.map_append, List.toList_toArray, eq]
      exact List.perm_append_comm
    refine ⟨.int x, _, inv_frame I hH a1 a2 rfl ?_, ⟨_, rfl⟩, q _ hp2 fun h => ?_⟩
    · rw [hp2.length_eq, List.length_append, sizeLine_eq]
      show zs.length + 1 ≤ _
      omega
    · have ps2 : (#[(y, u)] ++ qs.toArray).toList.map (·.1) = y :: zs := by
        simp [eq]
      have sz2 : (#[(y, u)] ++ qs.toArray).size = zs.length + 1 := by
        simp
        rw [← eq]
        simp
      refine (hpL_iff rfl).mp (dn_heap _ _ 0 rfl (by omega) (fun i i0 i1 i2 i3 => ?_) (fun p0 => absurd p0 (by omega)))
      rw [key_getD ps2, key_getD ps2]
      rw [sz2] at i1
      have g : ∀ j, 0 < j → j < zs.length + 1 → (y :: zs).getD j 0 = (x :: (zs ++ [y])).getD j 0 := fun j j0 j1 => by
        obtain ⟨k, rfl⟩ : ∃ k, j = k + 1 := ⟨j - 1, by omega⟩
        rw [List.getD_cons_succ, List.getD_cons_succ, List.getD_eq_getElem?_getD, List.getD_eq_getElem?_getD, List.getElem?_append_left (by omega)]
      rw [g _ (by omega) (by omega), g _ i0 i1]
      exact h i i0 (by simp; omega)
end

/-! ### xs[:] = ys, sorted of a dict, d.get(k) -/
theorem PE.by {X : Cx} {e : Expr} {t t' : TE} (h : PE X e t) (w : ∀ σ H Q, t' σ H Q → t σ H Q) : PE X e t' := ⟨fun pins s σ H Q I q => h.run pins s σ H Q I (w σ H Q q)⟩
section
variable {pg : Program} {wd : World} {Ar : Around} {Er : Value → Shared → Prop} {sh : Shared}
/-- where a whole list is replaced: from its beginning to its end, by ones -/
theorem whole_bounds {k : Nat} : sliceBounds none none none k = ((0 : Int), (k : Int), 1) := by simp [sliceBounds]
theorem set_whole {p q c : Addr} {old fresh : Array Value} {e1 e2 : Nat} {u v : Value} {R : Unit → Shared → Prop}
    (hp : sh.heap.get? p = some { cls := .type "list", data := .seq old e1 }) (hq : sh.heap.get? q = some { cls := .type "list", data := .seq fresh e2 }) (pq : p ≠ q)
    (hc : sh.heap.IsSliceOf c u v .none) (hu : IsPart u none) (hv : IsPart v none) (fits : old.size + fresh.size ≤ sizeLine)
    (k : R () { sh with heap := sh.heap.update p (Obj.mapSeq fun xs => xs.extract 0 0 ++ fresh ++ xs.extract old.size xs.size) }) : wpAny (model pg wd) Ar (setItem (.ref p) (.ref c) (.ref q)) R Er sh := by
  have lp := PySem.IsL.isList hp
  have lq := PySem.IsL.isList hq
  obtain ⟨oc, gc, cc, dc⟩ := id hc
  have tc : sh.TypeIs (.ref c) "slice" := ⟨oc, gc, cc⟩
  have other : Builtin.List.listSameRef (.ref p) (.ref q) = false := by unfold Builtin.List.listSameRef; exact beq_eq_false_iff_ne.mpr pq
  have upTo : (max ((0 : Nat) : Int) (old.size : Int)).toNat = old.size := by omega
  have grows : ((fun xs : Array Value => xs.extract 0 0 ++ fresh ++ xs.extract old.size xs.size) old).size ≤ sizeLine + 1 := by simp only [Array.size_append, Array.size_extract]; omega
  unfold setItem
  with_reducible refine wpAny_holding (wpAny_bind (wpAny_sequenceKey lp.typeIs (by decide) (wpAny_bind (wpAny_callSpecial?_slot (name := Str.ofString "__setitem__") lp.typeIs slot_list_setitem (wpAny_call_entry slot_list_setitem lp.typeIs entry_list_setitem ?_ (args_list_setitem _ _ _))))))
  show wpAny _ _ (Builtin.List.listSubscript? (.ref c) >>= _) _ _ sh; refine wpAny_bind ?_
  unfold Builtin.List.listSubscript?; refine wpAny_bind (wpAny_specialOf tc slice_no_index ?_)
  simp only [Option.isNone_none, if_true]; refine wpAny_pure ?_
  show wpAny _ _ (typeOf (.ref c) >>= _) _ _ sh; refine wpAny_bind (wpAny_typeOf tc (PySem.W.KFB.if_not (by decide) ?_))
  rw [listSliceParts_eq]; refine wpAny_bind (wpAny_bind (wpAny_field gc dc (x := .none) rfl (wpAny_bind (wpAny_listPart .none ?_)))); rw [if_neg (show ¬ (rawPart none == rawInt 0) = true from Bool.false_ne_true)]
  refine wpAny_bind (wpAny_field gc dc (x := u) rfl (wpAny_bind (wpAny_listPart hu (wpAny_bind (wpAny_field gc dc (x := v) rfl (wpAny_bind (wpAny_listPart hv (wpAny_pure ?_))))))))
  refine PySem.W.KFB.if_not other (wpAny_bind (m := Builtin.List.listAllItems (.ref q) _) ?_)
  unfold Builtin.List.listAllItems; refine wpAny_bind (wpAny_typeOf lq.typeIs (PySem.W.KFB.if_so (by decide) ?_))
  unfold Builtin.List.listItems; refine wpAny_bind (wpAny_seqItems hq rfl (wpAny_pure (wpAny_bind (wpAny_bind (wpAny_seqItems hp rfl (wpAny_pure ?_))))))
  refine wpAny_bind (wpAny_of_eq ((sliceIndices_raw none none none old.size (by simp)).trans (congrArg (pure : Int × Int × Int → Sem (Int × Int × Int)) whole_bounds)) ?_)
  show wpAny _ _ (if ((1 : Int) == 1) = true then _ else _) _ _ sh; rw [if_pos (by decide)]
  refine wpAny_bind (wpAny_rule (PySem.W.KFB.if_not (notLongL fits) ?_))
  first | refine wpAny_bind (wpAny_pure ?_) | (skip; skip)
  show wpAny _ _ (updateSeq p (fun xs => xs.extract 0 (((0 : Nat) : Int)).toNat ++ fresh ++ xs.extract (max ((0 : Nat) : Int) (old.size : Int)).toNat xs.size) >>= _) _ _ sh; rw [upTo, Int.toNat_natCast]
  refine wpAny_bind (wpAny_updateSeq (hz := Nat.le_trans (Nat.le_add_right _ _) fits) (_hz' := grows) hp rfl (wpAny_bind (wpAny_letGo ?_)))
  first | exact wpAny_bind (wpAny_pure (wpAny_pure ⟨.none, rfl, wpAny_pure k⟩)) | exact wpAny_pure ⟨.none, rfl, wpAny_pure k⟩
end
def gAll (to : TE) : TG := fun v σ H Q => to σ H fun x H1 => ∃ l b, x = .ref l ∧ v = .ref b ∧ l ≠ b ∧ lstAt H1 l fun xs => lstAt H1 b fun ys => xs.length + ys.length ≤ sizeLine ∧ Q σ (upd H1 l (.lst ys))
section
variable {X : Cx}
theorem pg_all {o : Expr} {to : TE} {p2 pos : Pos} (ho : PE X o to)
    (shape : ∀ v, assign (.Subscript o (.Slice none none none p2) pos) X.env v = (do let ov ← holding [v] (eval o X.env); let iv ← holding [v, ov] (eval (.Slice none none none p2) X.env); standAt pos; holding [v, ov, iv] (setItem ov iv v); release [iv, v, ov] []) := by intro _; rfl) : PG X (.Subscript o (.Slice none none none p2) pos) (gAll to) := by
  refine ⟨fun pins sh σ H v u Q inv rel ask => ?_⟩
  rw [shape]; refine wpAny_bind (wpAny_holding (thn (ho.run pins sh σ H _ inv ask) fun ov s1 hh => ?_))
  obtain ⟨x, H1, I1, r1, l, b, rfl, rfl, hne, q1⟩ := hh
  obtain ⟨xs, hx, q1⟩ := lstAt_get q1
  obtain ⟨ys, hy, hz, q1⟩ := lstAt_get q1
  cases r1
  cases rel
  refine wpAny_bind (wpAny_holding (wpAny_Slice ?_)); rw [evalPart_none]
  refine wpAny_pure (wpAny_pure (wpAny_pure ?_))
  have I4 : Inv X pins σ H1 { s1 with heap := s1.heap.push { cls := .type "slice", data := .fields #[.none, .none, .none] } } := I1.kept (t' := s1.toks) fun b ob q => Heap.get?_push_of_some _ q
  obtain ⟨_, its, n, rv, hl, e⟩ := I4.lstM hx
  obtain ⟨z2, its2, n2, r2, hl2, e2⟩ := I4.lstM hy
  refine wpAny_bind (wpAny_standAt (wpAny_bind (wpAny_holding (set_whole e e2 hne (Heap.IsSliceOf.new ..) .none .none (by rw [List.size_toArray, List.size_toArray]; omega) ?_))))
  refine wpAny_release ⟨σ, _, I4.lset (its' := its2) (t' := s1.toks) hx e ?_ r2 z2, q1⟩
  apply Array.ext'; simp
/-- sorted(d), d a dict of int keys, of any length -/
def rSortD : List V → Hp → VK → Prop := fun xs H Q => ∃ (a : Addr), xs = [.ref a] ∧ dcAt H a fun kvs => ∃ (ks : List Int), kvs.map (·.1) = ks.map Sum.inl ∧
    ∀ (ys : List Int) (p : Addr), ys.Perm ks → ys.Pairwise (· ≤ ·) → H p = none → Q (.ref p) (upd H p (.lst (ys.map V.int)))
theorem keys_ints {acc : Array Value} {vs : List (Key × Value)} {ks : List Int} (hk : vs.map (·.1) = ks.map Sum.inl) (sz : acc.size = vs.length) (each : ∀ (j : Nat) (u : Value), acc[j]? = some u → ∃ (k : Key) (x : _), vs[j]? = some (k, x) ∧ keyIs k u = true) : IntsAre acc.toList ks := by
  have lens : vs.length = ks.length := by simpa using congrArg List.length hk
  refine ints_each (by rw [Array.length_toList, sz, lens]) fun j u hu => ?_
  obtain ⟨k, x, here, is⟩ := each j u (by rw [← Array.getElem?_toList]; exact hu)
  have at_j : (ks.map Sum.inl)[j]? = some k := by rw [← hk, List.getElem?_map, here]; rfl
  rw [List.getElem?_map] at at_j
  obtain ⟨y, hy, same⟩ := Option.map_eq_some_iff.mp at_j
  subst same
  rcases keyIs_shape is with ⟨i, t, c, d⟩ | ⟨z, t, c, d⟩ <;> cases c
  exact ⟨_, t, hy, d⟩
theorem call_sortD (calm : X.calm = true) : CallR X (.builtin "sorted") rSortD := by
  intro pins sh σ H xs us Q inv rel ask
  obtain ⟨a, rfl, ask⟩ := ask
  obtain ⟨kvs, here, ks, hks, ask⟩ := dcAt_get ask
  obtain ⟨u, rfl, ra⟩ := vals1 rel
  cases ra
  obtain ⟨small, lo, vs, kv, dd⟩ := dk_rd inv.hok (.inl here)
  obtain ⟨ep, hat⟩ := dd.dictAt
  have vk : vs.map (·.1) = ks.map Sum.inl := kv.keys.symm.trans hks
  have l1 : vs.length = ks.length := by simpa using congrArg List.length vk
  have l2 : kvs.length = ks.length := by simpa using congrArg List.length hks
  refine Calls.call_function_entry kind_sorted plain_sorted entry_sorted (args_sorted1 (.ref a)) ?_
  unfold Builtin.«sorted»; refine wpAny_bind (m := checkCount "sorted" 1 1 _) (wpAny_pure (wpAny_bind ?_))
  refine PySem.W.kdu_collect (A := X.A.in1) (PySem.W.kdl_dict (knd := mixKind X.prog X.w) (kvs := vs) (ep := ep) lo) (inv.ok.hd calm) hat (by omega) fun h' tk acc kept got => ?_
  have nums := keys_ints vk got.1 got.2
  have fits : acc.toList.length ≤ sizeLine := by rw [Array.length_toList, got.1]; omega
  have I1 : Inv X pins σ H { sh with heap := h', toks := tk } := inv.kept kept
  refine wpAny_bind (wpAny_newList (wpAny_bind (wpAny_holding ?_)) fits)
  have new : (h'.push (seqObj "list" acc.toList.toArray 0)).get? h'.objs.size = some (seqObj "list" acc.toList.toArray 0) := Heap.get?_push_size _ rfl
  refine wpAny_call_entry (s := { sh with heap := h'.push (seqObj "list" acc.toList.toArray 0), toks := tk }) slot_list_sort ⟨_, new, rfl⟩ entry_list_sort (SrtO.list_sort_ord SrtO.swo_int new fits (fun two => SrtO.ints_sortable nums two) fun out o1 o2 => ⟨_, rfl, ?_⟩) (args_list_sort _)
  obtain ⟨k1, k2, k3⟩ := SrtO.ints_out nums o1 o2
  obtain ⟨e', he'⟩ := sortedHeap_at (vs := acc.toList) (out := out.toArray) new
  refine wpAny_pure ⟨_, rfl, .ref h'.objs.size, upd H h'.objs.size (.lst ((out.map SrtO.iv).map V.int)), I1.laid (t' := tk) (fun b u e => ?_) (Nat.le_refl _) ⟨by rw [List.length_map, k2.length_eq, ← l2]; exact small, out, e', vals_of_ints k1, he'⟩, rfl, ask _ _ k2 k3 (I1.hok.fresh (Nat.le_refl _))⟩
  have lt : b < h'.objs.size := Heap.lt_size e
  rw [sortedHeap_old (Nat.ne_of_lt lt) (by rw [size_push']; exact Nat.lt_succ_of_lt lt)]; exact Heap.get?_push_of_some _ e
/-- d.get(k) -/
def tDGetM (td ty : TE) : TE := fun σ H Q => td σ H fun x H1 => ∃ a, x = .ref a ∧ (dcAt H1 a fun _ => True) ∧ ty σ H1 fun y H2 => ∃ k, keyOf y = some k ∧ dcAt H2 a fun kvs => Q ((valV kvs k).getD .non) H2
theorem pe_dgetM {o e : Expr} {apos cpos : Pos} {td ty : TE} (hu : X.A.units + 1 < cLine) (ho : PE X o td) (he : PE X e ty) (m : M1 X o "get" apos e cpos) : PE X (.Call (.Attribute o "get" apos) [e] [] cpos) (tDGetM td ty) := by
  refine ⟨fun pins sh σ H Q inv ask => wpAny_Call_method m.base m.few m.line PySem.F.plainAttrs_dict PySem.F.slot_dict_get PySem.F.type_dict_get (thn (ho.run pins sh σ H _ inv ask) fun u s1 hh => ?_)⟩
  obtain ⟨x, H1, I1, rx, a, rfl, d, q1⟩ := hh
  cases rx
  obtain ⟨kvs0, hd0, _⟩ := dcAt_get d
  obtain ⟨t1, t2, _⟩ := isD_at I1 (.inl ⟨kvs0, .inl hd0⟩)
  refine ⟨t1, t2, ?_⟩; rw [m.trees]
  refine Calls.callWith_builtin rfl (Calls.evalArgs_plain (Calls.spliced_cons (thn (he.run pins s1 σ H1 _ I1 q1) fun iv s2 hh => Calls.spliced_nil ?_)))
  obtain ⟨y, H2, I2, ry, k, hk, q2⟩ := hh
  obtain ⟨kvs, hd, q3⟩ := dcAt_get q2
  obtain rfl := keyOf_kV hk
  exact d_get1 hu I2 (.k hd) ry fun w' s3 I3 rw' => ⟨_, H2, I3, rw', q3⟩
end
/-- o.m() that may raise -/
def tMethE0 (C : Addr) (m : Str) (sp : Sp) (E : L2.St → XK) (ta : TE) : TE := fun σ H Q => ta σ H fun x H1 => ∃ a dx fs, x = .ref a ∧ H1 a = some (.ins C dx fs) ∧ fs.lookup m = none ∧ sp [x] H1 Q (E σ)
theorem pe_methE0 {X : Cx} {CX : CXT} {k : Nat} {C f : Addr} {fd : FuncData} {ps : List Str} {m : Str} {sp : Sp} {E : L2.St → XK} {o : Expr} {ta : TE} {apos pos : Pos} {pl : Sem Bool} (he : PE X o ta) (c : Cls X.K C) (hm : Meth X.K C m f)
    (F : FnOk X.prog X.w X.K X.mg X.base CX k f fd ps sp) (hr : Room k X.A) (hb : Binds X.K fd ps []) (hx : ∀ σ, PassesAt CX X σ (E σ))
    (ht : eval (.Call (.Attribute o m apos) [] [] pos) X.env = (do let ov ← eval o X.env; standAt apos.atName; let (f, first) ← holding [ov] (getMethod ov m pl); callWith pos f first (backTo pos (starEach [] X.env)) (backToKw pos (keywordEach [] X.env))) := by rfl) :
    PE X (.Call (.Attribute o m apos) [] [] pos) (tMethE0 C m sp E ta) := by
  refine ⟨fun pins sh σ H Q inv ask => PySem.W.methodCall_KW (pl := pl) (thn (he.run pins sh σ H _ inv ask) fun u1 s1 hh => ?_) ht⟩
  obtain ⟨x, H1, I1, rx, a, dx, fs, rfl, ea, l, q⟩ := hh
  cases rx
  exact getmeth_ok I1 ea c hm l (PySem.W.callWith_K0 (first := [.ref a]) I1.kIn hm.kp (run_fnS (us := [.ref a]) (vs := [.ref a]) F hr hb (hx σ) I1 (.cons rfl .nil) q))

/-! ### comprehensions and loops, whose parts leave the heap as it is -/
inductive LcR (b : Nat → Bool) (Y : Nat → V → Prop) : Nat → List V → Prop
  | nil : LcR b Y 0 []
  | yes {i ys y} : LcR b Y i ys → b i = true → Y i y → LcR b Y (i + 1) (ys ++ [y])
  | no {i ys} : LcR b Y i ys → b i = false → LcR b Y (i + 1) ys
theorem LcR.len {b Y n ys} (h : LcR b Y n ys) : ys.length ≤ n := by
  induction h with
  | nil => exact Nat.le_refl _
  | yes h _ _ ih =>
    rw [List.length_append]
    show _ + 1 ≤ _
    omega
  | no h _ ih => omega
theorem LcR.map {b : Nat → Bool} {f : Nat → V} {n ys} (h : LcR b (fun i y => y = f i) n ys) : ys = ((List.range n).filter b).map f := by
  induction h with
  | nil => rfl
  | yes h hb hy ih =>
    rw [List.range_succ, List.filter_append, List.map_append, ← ih, List.filter_cons, if_pos hb, hy]
    rfl
  | no h hb ih =>
    rw [List.range_succ, List.filter_append, List.map_append, ← ih, List.filter_cons, if_neg (by rw [hb]; decide)]
    simp
theorem LcR.all {Y : Nat → V → Prop} {n ys} (h : LcR (fun _ => true) Y n ys) : ys.length = n ∧ ∀ i y, ys[i]? = some y → Y i y := by
  generalize hb : (fun _ : Nat => true) = b at h
  induction h with
  | nil => exact ⟨rfl, fun i y h => by simp at h⟩
  | @yes i ys y h _ hy ih =>
    obtain ⟨e, g⟩ := ih
    refine ⟨by rw [List.length_append, e]; rfl, fun j z hz => ?_⟩
    by_cases c : j < ys.length
    · rw [List.getElem?_append_left c] at hz
      exact g j z hz
    · rw [List.getElem?_append_right (by omega)] at hz
      have : j - ys.length = 0 := by
        have := (List.getElem?_eq_some_iff.mp hz).1
        simp at this
        omega
      rw [this] at hz
      have e2 : y = z := by simpa using hz
      have e3 : j = i := by omega
      rw [e3, ← e2]
      exact hy
  | no h hb2 ih =>
    subst hb
    cases hb2
/-- all values are ints -/
theorem LcR.ints {P : Nat → Int → Prop} {b n ys} (h : LcR b (fun i y => ∃ z, y = .int z ∧ P i z) n ys) : ∃ zs : List Int, ys = zs.map V.int := by
  induction h with
  | nil => exact ⟨[], rfl⟩
  | yes h _ hy ih =>
    obtain ⟨zs, e⟩ := ih
    obtain ⟨z, e2, _⟩ := hy
    exact ⟨zs ++ [z], by rw [e, e2, List.map_append]; rfl⟩
  | no h _ ih => exact ih
theorem lc_rngI {ta : TA} {tt : TT} {te : TE} {c : Nat} {σ : L2.St} {H : Hp} {Q : VK} (n : Nat) (b : Nat → Bool) (Y : Nat → V → Prop) (hta : ∀ R : List V → Hp → Prop, R [.int (n : Int)] H → ta σ H R) (hn : n ≤ 100000)
    (hb : ∀ i H' (R : Bool → Hp → Prop), i < n → Same H H' → R (b i) H' → tt ((σ.set c none).set c (some (.int (i : Int)))) H' R) (he : ∀ i H' (R : VK), i < n → b i = true → Same H H' → (∀ y, Y i y → R y H') → te ((σ.set c none).set c (some (.int (i : Int)))) H' R)
    (k : ∀ D ys, H D = none → LcR b Y n ys → Q (.ref D) (upd H D (.lst ys))) : tLc (iRng1 ta) (gName c) tt te [c] σ H Q := by
  refine hta _ ⟨n, rfl, by omega, by omega, fun D hD => ?_⟩
  rw [Int.toNat_natCast]
  refine lc_range (fun i H' => ∃ ys, LcR b Y i ys ∧ H' = upd H D (.lst ys)) ⟨[], .nil, rfl⟩ ?_ ?_
  · rintro i H' hi ⟨ys, hr, rfl⟩
    rw [Int.zero_add]
    have sm : Same H (upd H D (.lst ys)) := same_new hD
    have szl : (100000 : Nat) < sizeLine := by decide
    have hl := hr.len
    refine ⟨?_, hb i _ _ hi sm ?_⟩
    · show List.set (List.set (List.set σ c none) c _) c none = List.set σ c none
      rw [List.set_set, List.set_set]
    · by_cases hc : b i = true
      · rw [if_pos hc]
        refine he i _ _ hi hc sm fun y hy => ⟨ys, upd_same, by omega, ys ++ [y], hr.yes hc hy, by rw [upd_upd]⟩
      · rw [if_neg hc]
        exact ⟨ys, hr.no (by simpa using hc), rfl⟩
  · rintro H' ⟨ys, hr, rfl⟩
    exact k D ys hD hr
theorem lc_lstI {K : PySem.W.Frag} {tl : TE} {tt : TT} {te : TE} {c : Nat} {σ : L2.St} {H : Hp} {Q : VK} {a : Addr} (xs : List V) (b : Nat → Bool) (Y : Nat → V → Prop) (htl : ∀ R : V → Hp → Prop, R (.ref a) H → tl σ H R) (ha : SqL K H a xs) (hn : xs.length ≤ 100000)
    (hb : ∀ i x H' (R : Bool → Hp → Prop), xs[i]? = some x → Same H H' → R (b i) H' → tt ((σ.set c none).set c (some x)) H' R) (he : ∀ i x H' (R : VK), xs[i]? = some x → b i = true → Same H H' → (∀ y, Y i y → R y H') → te ((σ.set c none).set c (some x)) H' R)
    (k : ∀ D ys, H D = none → LcR b Y xs.length ys → Q (.ref D) (upd H D (.lst ys))) : tLc (iList K tl) (gName c) tt te [c] σ H Q := by
  refine htl _ ⟨a, rfl, ⟨_, ha⟩, fun D hD => lc_list (K := K) (a := a) (xs := xs) (fun i H' => ∃ ys, LcR b Y i ys ∧ H' = upd H D (.lst ys)) ⟨[], .nil, rfl⟩ ?_ ?_ ?_⟩
  · rintro i H' _ ⟨ys, hr, rfl⟩
    exact (same_new hD).seq ha
  · rintro i x H' hx ⟨ys, hr, rfl⟩
    have sm : Same H (upd H D (.lst ys)) := same_new hD
    have szl : (100000 : Nat) < sizeLine := by decide
    have hl := hr.len
    have hi := (List.getElem?_eq_some_iff.mp hx).1
    refine ⟨?_, hb i x _ _ hx sm ?_⟩
    · show List.set (List.set (List.set σ c none) c _) c none = List.set σ c none
      rw [List.set_set, List.set_set]
    · by_cases hc : b i = true
      · rw [if_pos hc]
        refine he i x _ _ hx hc sm fun y hy => ⟨ys, upd_same, by omega, ys ++ [y], hr.yes hc hy, by rw [upd_upd]⟩
      · rw [if_neg hc]
        exact ⟨ys, hr.no (by simpa using hc), rfl⟩
  · rintro H' ⟨ys, hr, rfl⟩
    exact k D ys hD hr
/-- for x in reversed(xs) -/
theorem for_revL {K : PySem.W.Frag} {ta : TA} {g : TG} {tb : TS} {D : Ends} {σ : L2.St} {H H0 : Hp} {a : Addr} (xs : List V) (hta : ∀ R : List V → Hp → Prop, R [.ref a] H0 → ta σ H R) (Pv : Nat → L2.St → Hp → Prop) (hp : Pv 0 σ H0) (hl : ∀ i σ H, i ≤ xs.length → Pv i σ H → SqL K H a xs)
    (hs : ∀ i x σ H, i < xs.length → xs[xs.length - 1 - i]? = some x → Pv i σ H → g x σ H fun σ2 H2 => tb { D with nx := Pv (i + 1), ct := Pv (i + 1), bk := D.nx } σ2 H2) (hd : ∀ σ H, Pv xs.length σ H → D.nx σ H) : tFor (iRev K ta) g tb D σ H := by
  refine hta _ ⟨a, xs, rfl, hl 0 σ H0 (Nat.zero_le _) hp, fun i m σ H => m = xs.length - i ∧ i ≤ xs.length ∧ Pv i σ H, ⟨xs.length, by simp, Nat.zero_le _, hp⟩, ?_⟩
  rintro i m σ H ⟨rfl, hi, p⟩
  have q := hl i σ H hi p
  by_cases hlt : i < xs.length
  · have hx : xs[xs.length - 1 - i]? = some (xs[xs.length - 1 - i]'(by omega)) := List.getElem?_eq_getElem (by omega)
    refine .inr ⟨⟨hlt, xs, _, q, hx⟩, Pv (i + 1), fun σ' H' p' => ⟨xs.length - (i + 1), by omega, rfl, hlt, p'⟩, fun x H' y => ?_⟩
    obtain ⟨e, y⟩ := y
    subst e
    exact hs i x σ _ hlt (y xs q) p
  · have e : i = xs.length := by omega
    subst e
    exact .inl ⟨Nat.le_refl _, hd σ H p⟩
/-- list(xs), sorted(xs), sum(xs) of a tracked list -/
def rListM : List V → Hp → VK → Prop := fun vs H Q => ∃ p, vs = [.ref p] ∧ lstAt H p fun xs => ∀ l, H l = none → Q (.ref l) (upd H l (.lst xs))
def rSortM : List V → Hp → VK → Prop := fun vs H Q => ∃ p, vs = [.ref p] ∧ lstAt H p fun xs => ∃ ns : List Int, xs = ns.map V.int ∧ ∀ (ys : List Int) (q : Addr), ys.Perm ns → ys.Pairwise (· ≤ ·) → H q = none → Q (.ref q) (upd H q (.lst (ys.map V.int)))
section
variable {X : Cx}
theorem call_listM : CallR X (.type "list") rListM := by
  intro pins s σ H xs us Q I r h
  obtain ⟨p, e, h⟩ := h
  obtain ⟨ys, hp, q⟩ := lstAt_get h
  exact call_list_of pins s σ H xs us Q I r ⟨p, ys, e, .inl (.inl (.inl hp)), q⟩
theorem cr_sortM : CallR X (.builtin "sorted") rSortM := by
  intro pins s σ H xs us Q I r h
  obtain ⟨p, e, h⟩ := h
  obtain ⟨ys, hp, ns, e2, q⟩ := lstAt_get h
  subst e2
  exact cr_sortedI pins s σ H xs us Q I r ⟨p, ns, e, .inl (.inl hp), q⟩
end
/-- two ascending lists of the same ints are one -/
theorem sorted_eq : ∀ {xs ys : List Int}, xs.Perm ys → xs.Pairwise (· ≤ ·) → ys.Pairwise (· ≤ ·) → xs = ys
  | [], ys, h, _, _ => h.nil_eq
  | x :: xs, [], h, _, _ => by simpa using h.length_eq
  | x :: xs, y :: ys, h, hx, hy => by
    have e : x = y := by
      have h1 : x ∈ y :: ys := h.mem_iff.mp (List.mem_cons_self ..)
      have h2 : y ∈ x :: xs := h.mem_iff.mpr (List.mem_cons_self ..)
      have p1 := List.pairwise_cons.mp hx
      have p2 := List.pairwise_cons.mp hy
      rcases List.mem_cons.mp h1 with e | h1
      · exact e
      · rcases List.mem_cons.mp h2 with e | h2
        · exact e.symm
        · have a := p1.1 y h2
          have b := p2.1 x h1
          omega
    subst e
    rw [sorted_eq (List.Perm.cons_inv h) (List.pairwise_cons.mp hx).2 (List.pairwise_cons.mp hy).2]
theorem flat_ints (xs : List Int) : (xs.map V.int).all flatV = true := by
  rw [List.all_eq_true]
  intro x hx
  obtain ⟨n, _, rfl⟩ := List.mem_map.mp hx
  rfl
theorem inV_int {x : Int} {xs : List Int} : inV (.int x) (xs.map V.int) = decide (x ∈ xs) := by
  unfold inV
  induction xs with
  | nil => simp
  | cons y ys ih =>
    rw [List.map_cons, List.any_cons, ih]
    show (decide (y = x) || decide (x ∈ ys)) = _
    by_cases h : x = y
    · subst h
      simp
    · have h2 : ¬ y = x := fun e => h e.symm
      simp [h, h2]
def rSumM : List V → Hp → VK → Prop := fun vs H Q => ∃ p, vs = [.ref p] ∧ lstAt H p fun xs => ∃ ns : List Int, xs = ns.map V.int ∧ Q (.int ns.sum) H
theorem call_sumM {X : Cx} (hc : X.calm = true) : CallR X (.builtin "sum") rSumM := by
  intro pins sh σ H xs us Q inv rel ask
  obtain ⟨p, e, ask⟩ := ask
  obtain ⟨ys, hp, ns, e2, q⟩ := lstAt_get ask
  subst e2
  exact cr_sum hc pins sh σ H xs us Q inv rel ⟨p, ns, e, .inl (.inl hp), q⟩
/-- isinstance(x, dict), x a tracked dict -/
def rIsD : List V → Hp → VK → Prop := fun xs H Q => ∃ p, xs = [.ref p, .ty "dict"] ∧ dcAt H p fun _ => Q (.bl true) H
theorem call_isD {X : Cx} : CallR X (.builtin "isinstance") rIsD := by
  intro pins sh σ H xs us Q inv rel ask
  obtain ⟨p, rfl, ask⟩ := ask
  obtain ⟨kvs, hp, q⟩ := dcAt_get ask
  exact call_isi pins sh σ H _ us Q inv rel ⟨.ref p, .ty "dict", .type "dict", .type "dict", true, rfl, .ty "dict", .base (.dK hp), kit_ty rfl, q⟩
theorem lc_keysI {td : TE} {tt : TT} {te : TE} {c : Nat} {σ : L2.St} {H : Hp} {Q : VK} {d : Addr} {od : Obj} (kvs : List (Key × V)) (b : Nat → Bool) (Y : Nat → V → Prop) (htd : ∀ R : V → Hp → Prop, R (.ref d) H → td σ H R) (hd : H d = some (.frz od (.dK kvs))) (hn : kvs.length ≤ 100000)
    (hb : ∀ i k v H' (R : Bool → Hp → Prop), kvs[i]? = some (k, v) → Same H H' → R (b i) H' → tt ((σ.set c none).set c (some (kV k))) H' R) (he : ∀ i k v H' (R : VK), kvs[i]? = some (k, v) → b i = true → Same H H' → (∀ y, Y i y → R y H') → te ((σ.set c none).set c (some (kV k))) H' R)
    (k : ∀ D ys, H D = none → LcR b Y kvs.length ys → Q (.ref D) (upd H D (.lst ys))) : tLc (iKeys td) (gName c) tt te [c] σ H Q := by
  refine htd _ ⟨d, od, rfl, .inl ⟨kvs, hd, fun D hD => ?_⟩⟩
  have sm : ∀ ys, Same H (upd H D (.lst ys)) := fun ys => same_new hD
  refine ⟨fun i m H' => m = kvs.length - i ∧ i ≤ kvs.length ∧ ∃ ys, LcR b Y i ys ∧ H' = upd H D (.lst ys), ⟨_, rfl, Nat.zero_le _, [], .nil, rfl⟩, ?_⟩
  rintro i m H' ⟨rfl, hi, ys, hr, rfl⟩
  have hd' := sm ys _ _ hd
  by_cases hlt : i < kvs.length
  · refine .inr ⟨⟨hd', hlt⟩, fun H2 => ∃ ys, LcR b Y (i + 1) ys ∧ H2 = upd H D (.lst ys), fun H2 h2 => ⟨kvs.length - (i + 1), by omega, rfl, hlt, h2⟩, fun x H2 hy => ?_⟩
    obtain ⟨rfl, key, v, hkv, rfl⟩ := hy
    have szl : (100000 : Nat) < sizeLine := by decide
    have hl := hr.len
    refine ⟨?_, hb i key v _ _ hkv (sm ys) ?_⟩
    · show List.set (List.set (List.set σ c none) c _) c none = List.set σ c none
      rw [List.set_set, List.set_set]
    · by_cases hc : b i = true
      · rw [if_pos hc]
        refine he i key v _ _ hkv hc (sm ys) fun y hy => ⟨ys, upd_same, by omega, ys ++ [y], hr.yes hc hy, by rw [upd_upd]⟩
      · rw [if_neg hc]
        exact ⟨ys, hr.no (by simpa using hc), rfl⟩
  · have e : i = kvs.length := by omega
    subst e
    exact .inl ⟨⟨hd', Nat.le_refl _⟩, k D ys hD hr⟩
theorem lc_rng2I {ta : TA} {tt : TT} {te : TE} {c : Nat} {σ : L2.St} {H : Hp} {Q : VK} (lo hi : Int) (b : Nat → Bool) (Y : Nat → V → Prop) (hta : ∀ R : List V → Hp → Prop, R [.int lo, .int hi] H → ta σ H R) (h1 : -1000000 ≤ lo ∧ lo ≤ 1000000) (h2 : -1000000 ≤ hi ∧ hi ≤ 1000000) (hn : hi - lo ≤ 100000)
    (hb : ∀ (i : Nat) H' (R : Bool → Hp → Prop), lo + (i : Int) < hi → Same H H' → R (b i) H' → tt ((σ.set c none).set c (some (.int (lo + (i : Int))))) H' R) (he : ∀ (i : Nat) H' (R : VK), lo + (i : Int) < hi → b i = true → Same H H' → (∀ y, Y i y → R y H') → te ((σ.set c none).set c (some (.int (lo + (i : Int))))) H' R)
    (k : ∀ D ys, H D = none → LcR b Y (hi - lo).toNat ys → Q (.ref D) (upd H D (.lst ys))) : tLc (iRng2 ta) (gName c) tt te [c] σ H Q := by
  refine hta _ ⟨lo, hi, rfl, ⟨by omega, by omega, by omega, by omega⟩, fun D hD => ?_⟩
  refine lc_range (fun i H' => ∃ ys, LcR b Y i ys ∧ H' = upd H D (.lst ys)) ⟨[], .nil, rfl⟩ ?_ ?_
  · rintro i H' hi2 ⟨ys, hr, rfl⟩
    have sm : Same H (upd H D (.lst ys)) := same_new hD
    have szl : (100000 : Nat) < sizeLine := by decide
    have hl := hr.len
    refine ⟨?_, hb i _ _ (by omega) sm ?_⟩
    · show List.set (List.set (List.set σ c none) c _) c none = List.set σ c none
      rw [List.set_set, List.set_set]
    · by_cases hc : b i = true
      · rw [if_pos hc]
        refine he i _ _ (by omega) hc sm fun y hy => ⟨ys, upd_same, by omega, ys ++ [y], hr.yes hc hy, by rw [upd_upd]⟩
      · rw [if_neg hc]
        exact ⟨ys, hr.no (by simpa using hc), rfl⟩
  · rintro H' ⟨ys, hr, rfl⟩
    exact k D ys hD hr
theorem lc_lstN {K : PySem.W.Frag} {tl : TE} {tt : TT} {te : TE} {c : Nat} {σ : L2.St} {H : Hp} {Q : VK} (xs : List V) (b : Nat → Bool) (Y : Nat → V → Prop) (htl : ∀ R : V → Hp → Prop, (∀ p H0, Same H H0 → SqL K H0 p xs → R (.ref p) H0) → tl σ H R) (hn : xs.length ≤ 100000)
    (hb : ∀ i x H' (R : Bool → Hp → Prop), xs[i]? = some x → Same H H' → R (b i) H' → tt ((σ.set c none).set c (some x)) H' R) (he : ∀ i x H' (R : VK), xs[i]? = some x → b i = true → Same H H' → (∀ y, Y i y → R y H') → te ((σ.set c none).set c (some x)) H' R)
    (k : ∀ H0 D ys, Same H H0 → H0 D = none → LcR b Y xs.length ys → Q (.ref D) (upd H0 D (.lst ys))) : tLc (iList K tl) (gName c) tt te [c] σ H Q :=
  htl _ fun p H0 sm0 hq => lc_lstI (K := K) (tl := fun _ H Q => Q (.ref p) H) (a := p) xs b Y (fun R h => h) hq hn (fun i x H' R hx sm h => hb i x H' R hx (fun b u e => sm _ _ (sm0 _ _ e)) h) (fun i x H' R hx ht sm h => he i x H' R hx ht (fun b u e => sm _ _ (sm0 _ _ e)) h) (fun D ys hD hy => k H0 D ys sm0 hD hy)
theorem range_all {α : Type} (g : α → V) (bs : List α) : (List.range bs.length).map (fun i => (bs[i]?.map g).getD .non) = bs.map g := by
  apply List.ext_getElem
  · simp
  · intro i h1 h2
    simp at h1
    simp [h1]

/-! ### a dict copied by a comprehension over its items -/
theorem valV_take {kvs : List (Key × V)} (nd : (kvs.map (·.1)).Nodup) {i : Nat} {k : Key} {v : V} (h : kvs[i]? = some (k, v)) : valV (kvs.take i) k = none := by
  unfold valV
  rw [Option.map_eq_none_iff, List.find?_eq_none]
  intro p hp
  rw [decide_eq_true_eq]
  intro e
  obtain ⟨j, hj⟩ := List.mem_iff_getElem?.mp hp
  have jl := (List.getElem?_eq_some_iff.mp hj).1
  rw [List.length_take] at jl
  rw [List.getElem?_take, if_pos (by omega)] at hj
  have a1 : (kvs.map (·.1))[j]? = some k := by rw [List.getElem?_map, hj, ← e]; rfl
  have a2 : (kvs.map (·.1))[i]? = some k := by rw [List.getElem?_map, h]; rfl
  obtain ⟨l1, g1⟩ := List.getElem?_eq_some_iff.mp a1
  obtain ⟨l2, g2⟩ := List.getElem?_eq_some_iff.mp a2
  have := (List.getElem_inj nd).mp (g1.trans g2.symm)
  omega
theorem dc_items {K : PySem.W.Frag} {td : TE} {c1 c2 : Nat} {σ : L2.St} {H : Hp} {Q : VK} {d : Addr} (kvs : List (Key × V)) (htd : ∀ od (R : V → Hp → Prop), R (.ref d) (upd H d (.frz od (.dK kvs))) → td σ (upd H d (.frz od (.dK kvs))) R)
    (hd : H d = some (.dK kvs)) (nd : (kvs.map (·.1)).Nodup) (hn : kvs.length ≤ 100000) (h1 : c1 < σ.length) (h2 : c2 < σ.length) (ne : c1 ≠ c2)
    (k : ∀ D H', Same H H' → H D = none → H' D = some (.dK kvs) → Q (.ref D) H') :
    tLockE (tDc (iItems td) (gTup K 2 (gCons (gName c1) (gCons (gName c2) gNil))) tYes (tVar c1) (tVar c2) [c1, c2]) σ H Q := by
  refine ⟨d, .dK kvs, hd, trivial, fun od => ?_⟩
  refine htd od _ ⟨d, od, kvs, rfl, upd_same, fun D hD => ?_⟩
  have dD : D ≠ d := fun e => by
    rw [e, upd_same] at hD
    cases hD
  have hD0 : H D = none := by
    rw [upd_ne dD] at hD
    exact hD
  have szl : (100000 : Nat) < sizeLine := by decide
  refine ⟨fun i m H' => m = kvs.length - i ∧ i ≤ kvs.length ∧ H' d = some (.frz od (.dK kvs)) ∧ H' D = some (.dK (kvs.take i)) ∧ ∀ b u, H b = some u → b ≠ d → H' b = some u, ⟨_, rfl, Nat.zero_le _, by rw [upd_ne (Ne.symm dD), upd_same], by rw [upd_same]; rfl, fun b u hb hbd => ?_⟩, ?_⟩
  · have : b ≠ D := fun e => by
      rw [e, hD0] at hb
      cases hb
    rw [upd_ne this, upd_ne hbd]
    exact hb
  rintro i m H' ⟨rfl, hi, e1, e2, sm⟩
  by_cases hlt : i < kvs.length
  · refine .inr ⟨⟨e1, hlt⟩, fun H2 => H2 d = some (.frz od (.dK kvs)) ∧ H2 D = some (.dK (kvs.take (i + 1))) ∧ ∀ b u, H b = some u → b ≠ d → H2 b = some u, fun H2 h => ⟨kvs.length - (i + 1), by omega, rfl, hlt, h⟩, fun x H2 hy => ?_⟩
    obtain ⟨T, key, v, hkv, rfl, hT, rfl⟩ := hy
    have nT : ∀ b u, H' b = some u → b ≠ T := fun b u hb e => by
      rw [e, hT] at hb
      cases hb
    have w1 : c1 < (wipe σ [c1, c2]).length := by rw [wipe_length]; exact h1
    have w2 : c2 < (wipe σ [c1, c2]).length := by rw [wipe_length]; exact h2
    refine ⟨T, [kV key, v], rfl, .inl (.inl upd_same), rfl, _, _, rfl, ?_⟩
    refine ⟨_, _, rfl, rfl, ?_, ?_⟩
    · show (((((σ.set c2 none).set c1 none).set c1 (some (kV key))).set c2 (some v)).set c2 none).set c1 none = (σ.set c2 none).set c1 none
      apply List.ext_getElem?
      intro j
      simp only [List.getElem?_set, List.length_set]
      repeat' split
      all_goals first | rfl | simp_all
    · simp only [tYes, if_true]
      refine ⟨kV key, ?_, v, ?_, kvs.take i, key, rfl, ?_, ?_, ?_, ?_, ?_⟩
      · rw [List.getElem?_set_ne (Ne.symm ne), List.getElem?_set_self w1]
      · rw [List.getElem?_set_self (by rw [List.length_set]; exact w2)]
      · rw [upd_ne (nT _ _ e2)]
        exact e2
      · have := List.length_take_le i kvs
        rw [List.length_take]
        omega
      · rw [upd_ne (Ne.symm dD), upd_ne (nT _ _ e1)]
        exact e1
      · rw [upd_same, putK_new _ (valV_take nd hkv), List.take_add_one, hkv]
        rfl
      · intro b u hb hbd
        have : b ≠ D := fun e => by
          rw [e, hD0] at hb
          cases hb
        rw [upd_ne this, upd_ne (nT _ _ (sm b u hb hbd))]
        exact sm b u hb hbd
  · have e : i = kvs.length := by omega
    subst e
    refine .inl ⟨⟨e1, Nat.le_refl _⟩, e1, k D _ (fun b u hb => ?_) hD0 ?_⟩
    · by_cases c : b = d
      · subst c
        rw [upd_same, ← hd, hb]
      · rw [upd_ne c]
        exact sm b u hb c
    · rw [upd_ne dD, e2, List.take_length]

/-! ### name = {..} by a dict comprehension -/
section
variable {X : Cx}
theorem sw_trueD {kx vx : Expr} {gs : List Comprehension} {scope : Scope} {pos py : Pos} {y : Str} {l : Nat} {env : Env} (hk : env.scope.kind = .function) (hy : env.scope.names.lookup y = some .local) (hl : (py.line == pos.line) = true)
    (ha : (scope.names.any fun (n, k) => n == y && (k == .local || k == .cell)) = false) : swapsWith (.DictComp kx vx gs scope pos) (some (.Name y py)) l env = pure true := by
  have ky : env.kindOf y = some .local := hy
  have hb : env.blockKind = .function := by unfold Env.blockKind; rw [hk]; rfl
  unfold swapsWith
  simp only [hb, ky, ha, Expr.pos, hl]
  rfl
theorem ps_setDc {i : Nat} {y : Str} {py : Pos} {kx vx tg iter : Expr} {ifs : List Expr} {scope : Scope} {own : List (Str × Nat)} {pos spos : Pos} {wi : TI} {g : TG} {tt : TT} {tk tv : TE} (hc : X.calm = true) (hN : X.N.Nodup) (hy : X.N[i]? = some y) (hyl : X.env.scope.names.lookup y = some .local)
    (hsw : swapsWith (.DictComp kx vx [⟨tg, iter, ifs, 0⟩] scope pos) (some (.Name y py)) spos.line X.env = pure true) (hi : PI X tg iter wi) (ok : BlkOk X.N X.env.scope scope own)
    (hg : ∀ (s : Shared) (H : Hp) (C : Addr) (cl : List (Str × Addr)) (fp : List Addr), PG (X.blk s H scope (compEnvC scope cl C X.env) fp) tg g) (ht : ∀ (s : Shared) (H : Hp) (C : Addr) (cl : List (Str × Addr)) (fp : List Addr), PTs (X.blk s H scope (compEnvC scope cl C X.env) fp) ifs tt)
    (hk : ∀ (s : Shared) (H : Hp) (C : Addr) (cl : List (Str × Addr)) (fp : List Addr), PE (X.blk s H scope (compEnvC scope cl C X.env) fp) kx tk)
    (he : ∀ (s : Shared) (H : Hp) (C : Addr) (cl : List (Str × Addr)) (fp : List Addr), PE (X.blk s H scope (compEnvC scope cl C X.env) fp) vx tv) (hs : ∀ x, foldedSetIterable iter X.env x = pure x := by intro _; rfl) :
    PS X (.Assign [.Name y py] (.DictComp kx vx [⟨tg, iter, ifs, 0⟩] scope pos) spos) (tAsg (tDc wi g tt tk tv (own.map (·.2))) (gName i)) := by
  refine ⟨fun pins s σ H D I h => ?_⟩
  rw [exec_Assign_Name_used _ _ _ _ hsw]
  refine wpAny_bind (wpAny_standAt (wpAny_bind ?_))
  show wpAny _ X.A (do let _ ← comprehension (.DictComp kx vx [⟨tg, iter, ifs, 0⟩] scope pos) scope X.env (firstIterPos [⟨tg, iter, ifs, 0⟩] pos) newDict false (eval iter X.env) (some (assign (.Name y py) X.env))) _ _ s
  have h : tDc wi g tt tk tv (own.map (·.2)) σ H (fun x H1 => gName i x σ H1 D.nx) := h
  refine wpAny_bind (thn (dc_core (Qf := fun _ s' => SP X pins D .next s') hc hN I hi ok hg ht hk he hs h fun L C s' m H' I' q hn f => ?_) fun _ s' hq => wpAny_pure (wpAny_pure hq))
  show wpAny _ _ (assign (.Name y py) X.env (.ref L)) _ _ _
  refine wpAny_assign_Name (store_ok2 (v := V.ref L) I' hN hy (.inl hyl) rfl (fun s2 I2 ⟨a, sb, ha⟩ => ?_) (.inr hyl))
  obtain ⟨f0, f1, f2, f3, f4, f5⟩ := f
  have haC : C ≠ a := by
    rcases ha with z | z
    · rw [z]; exact f1
    · exact fun e => f4 y a z e.symm
  refine ⟨m, hn.sameBut sb haC, fun h3 sb3 => ?_⟩
  exact ⟨_, H', I2.turned (t' := s2.toks) (fun b o hb e => (sb3.2 b hb).trans e) f0 f1 f3 f4 f5, q⟩
end
/-- the whole statement, the dict that is walked being locked -/
theorem t_lock_set {te : TE} {i : Nat} {D : Ends} {σ : L2.St} {H : Hp} (h : tLockE te σ H fun x H1 => D.nx (σ.set i (some x)) H1) : tLock (tAsg te (gName i)) D σ H := h
/-- a loop over a list that is made for it, of which something is known -/
theorem for_lstP {K : PySem.W.Frag} {tl : TE} {g : TG} {tb : TS} {D : Ends} {σ : L2.St} {H : Hp} (P : List V → Prop) (htl : ∀ R : V → Hp → Prop, (∀ p xs, P xs → H p = none → R (.ref p) (upd H p (.lst xs))) → tl σ H R) (Pv : Addr → List V → Nat → L2.St → Hp → Prop)
    (hp : ∀ p xs, P xs → H p = none → Pv p xs 0 σ (upd H p (.lst xs))) (hl : ∀ p xs i σ' H', H p = none → Pv p xs i σ' H' → H' p = some (.lst xs))
    (hs : ∀ p xs i x σ' H', P xs → H p = none → xs[i]? = some x → Pv p xs i σ' H' → g x σ' H' fun σ2 H2 => tb { D with nx := Pv p xs (i + 1), ct := Pv p xs (i + 1), bk := D.nx } σ2 H2) (hd : ∀ p xs σ' H', P xs → H p = none → Pv p xs xs.length σ' H' → D.nx σ' H') : tFor (iList K tl) g tb D σ H :=
  htl _ fun p xs hx h0 => ⟨p, rfl, ⟨xs, .inl (.inl upd_same)⟩, L2.for_list (K := K) (a := p) (xs := xs) (Pv p xs) (hp p xs hx h0) (fun i σ' H' _ h => .inl (.inl (hl p xs i σ' H' h0 h))) (fun i x σ' H' hx2 h => hs p xs i x σ' H' hx h0 hx2 h) (fun σ' H' h => hd p xs σ' H' hx h0 h)⟩
/-- a dict that is walked, or handed on, is locked from then on, if it is not yet -/
def tFrz (td : TE) : TE := fun σ H Q => td σ H fun x H1 => ∃ d, x = .ref d ∧ ((∃ u, H1 d = some u ∧ Mut (some u) ∧ ∀ od, Q x (upd H1 d (.frz od u))) ∨ Q x H1)
theorem pe_frz {X : Cx} {e : Expr} {td : TE} (h : PE X e td) : PE X e (tFrz td) := by
  refine ⟨fun pins s σ H Q I hw => ?_⟩
  refine thn (h.run pins s σ H _ I hw) fun v s1 ⟨x, H1, I1, r, d, ex, hh⟩ => ?_
  rcases hh with ⟨u, hd, mu, q⟩ | q
  · obtain ⟨od, I2⟩ := I1.lock hd mu
    exact ⟨x, _, I2, r, q od⟩
  · exact ⟨x, _, I1, r, q⟩
/-- for k in d: d a dict with int keys, which stays locked -/
theorem for_keysF {td : TE} {c : Nat} {tb : TS} {D : Ends} {σ : L2.St} {H : Hp} {d : Addr} {od : Obj} (kvs : List (Key × V)) (hd : H d = some (.frz od (.dK kvs))) (htd : ∀ (R : V → Hp → Prop), R (.ref d) H → td σ H R) (Pv : Nat → L2.St → Hp → Prop)
    (hp : Pv 0 σ H) (hl : ∀ i σ' H', Pv i σ' H' → H' d = some (.frz od (.dK kvs)))
    (hs : ∀ i k v σ' H', kvs[i]? = some (k, v) → Pv i σ' H' → tb { D with nx := Pv (i + 1), ct := Pv (i + 1), bk := D.nx } (σ'.set c (some (kV k))) H')
    (hx : ∀ σ' H', Pv kvs.length σ' H' → D.nx σ' H') : tFor (iKeys td) (gName c) tb D σ H := by
  refine htd _ ⟨d, od, rfl, .inl ⟨kvs, hd, ?_⟩⟩
  refine ⟨fun i m σ' H' => m = kvs.length - i ∧ i ≤ kvs.length ∧ Pv i σ' H', ⟨_, rfl, Nat.zero_le _, hp⟩, ?_⟩
  rintro i m σ' H' ⟨rfl, hi, p⟩
  have hd' := hl i σ' H' p
  by_cases hlt : i < kvs.length
  · refine .inr ⟨⟨hd', hlt⟩, Pv (i + 1), fun σ2 H2 q => ⟨kvs.length - (i + 1), by omega, rfl, hlt, q⟩, fun x H2 hy => ?_⟩
    obtain ⟨rfl, key, v, hkv, rfl⟩ := hy
    exact hs i key v σ' _ hkv p
  · have e : i = kvs.length := by omega
    subst e
    exact .inl ⟨⟨hd', Nat.le_refl _⟩, hx σ' H' p⟩

/-! ### walking a list while an exception is handled -/
section
variable {prog : Program} {w : World} {A : Around} {E : Value → Shared → Prop} {s : Shared}
theorem list_end_hot {it l x1 : Addr} {i : Nat} {items : Array Value} {Q : Option Value → Shared → Prop} (hot : HotX.HotAt A x1 s.heap) (hit : s.heap.IsListIter it l i) (hl : s.heap.IsList l items) (hx : items[i]? = none)
    (hQ : ∀ h', Heap.ExtBut it s.heap h' → Q none { s with heap := h' }) : wpAny (model prog w) A (pyNext (.ref it)) Q E s := by
  obtain ⟨o, ho, hc, hd⟩ := id hit
  obtain ⟨ol, hol, _, nl, hdl⟩ := hl
  obtain ⟨hh, o1, vs1, h1, d1, c1⟩ := hot
  have ne : x1 ≠ it := fun e => by
    rw [e, ho] at h1
    rw [← Option.some.inj h1, hd] at d1
    rw [← Data.fields.inj d1] at c1
    simp at c1
  unfold pyNext
  refine wpAny_bind (wpAny_attempt (wpAny_callSpecial?_slot (name := Str.ofString "__next__") hit.typeIs slot_listiter_next
    (wpAny_call_entry slot_listiter_next hit.typeIs entry_listiter_next ?_ (args_listiter_next _))))
  show wpAny _ _ (field (.ref it) 0 >>= _) _ _ s
  refine wpAny_bind (wpAny_field ho hd (x := .ref l) rfl ?_)
  show wpAny _ _ (if (Value.ref l == Value.none) = true then _ else _) _ _ s
  rw [if_neg (show ¬ ((Value.ref l == Value.none) = true) from Bool.false_ne_true)]
  show wpAny _ _ (field (.ref it) 1 >>= _) _ _ s
  refine wpAny_bind (wpAny_field ho hd (x := .int i 0) rfl ?_)
  show wpAny _ _ (seqItems? (.ref l) >>= _) _ _ s
  refine wpAny_bind (wpAny_seqItems hol hdl ?_)
  simp only [Int.toNat_natCast, hx]
  refine wpAny_bind (wpAny_rule (wpAny_bind (wpAny_setField ho hd (by simp) ?_)))
  show wpAny _ _ (newExc (.type "StopIteration") [] >>= _) _ _ _
  refine wpAny_bind ?_
  simp only [newExc, newTuple]
  refine wpAny_bind (wpAny_newObj_type ?_ (by size_fits))
  refine wpAny_bind (m := firstArgMember _ _) (wpAny_of_eq (a := Value.none) (by first | rfl | (simp only [firstArgMember]; rfl)) ?_)
  refine wpAny_newObj_type ?_ (by size_fits)
  have k1 := (Heap.get?_update_other s.heap (Obj.mapFields (·.setIfInBounds 0 .none)) (Ne.symm ne)).trans h1
  refine HotX.raiseNew_hot ⟨hh, o1, vs1, Heap.get?_push_of_some _ (Heap.get?_push_of_some _ k1), d1, c1⟩ (Nat.ne_of_lt (Heap.lt_size (Heap.get?_push_of_some _ k1))) (Heap.get?_push_size _ rfl) rfl (by first | (simp; done) | (simp; omega) | (simp only [Array.size_append]; simp; omega)) ?_
  refine wpAny_bind (wpAny_isInstance (T := "StopIteration") (b := true) ⟨_, Heap.get?_update_self _ (Heap.get?_push_size _ rfl) rfl, rfl⟩ isSubtype_stop ?_)
  refine wpAny_pure (hQ _ fun b o nb e => ?_)
  have e2 := (Heap.get?_update_other s.heap (Obj.mapFields (·.setIfInBounds 0 .none)) (Ne.symm nb)).trans e
  rw [Heap.get?_update_other _ _ (Nat.ne_of_gt (Heap.lt_size (Heap.get?_push_of_some _ e2)))]
  exact Heap.get?_push_of_some _ (Heap.get?_push_of_some _ e2)
end
theorem turn_listH {P : Program} {w : World} {K : PySem.W.Frag} {tg : Expr} (a it : Addr) : L2H.TurnH P w K tg (Itl K a) [it] it (fun i h => h.IsListIter it a i) where
  mem := by simp
  obj := fun i h st b hb => by
    rw [List.mem_singleton.mp hb]
    obtain ⟨o, e, _, d⟩ := st
    exact ⟨o, e, fun v z => by rw [d] at z; cases z⟩
  keep := fun i h h' st k => st.at fun o e => k it (by simp) o e
  item := by
    rintro X rfl rfl rfl hc i pins s σ H E I hf st ⟨xs, x, hq, hx⟩
    obtain ⟨its, rv, p, _⟩ := I.list hq
    obtain ⟨u, hu, ru⟩ := rv.get hx
    obtain ⟨f0, f1, f2, f3, f4, f5⟩ := hf it (by simp)
    refine wpAny_pyNext_list_item st p.isList (x := u) (by simpa using hu) fun h' st' sb => ?_
    have I1 : Inv X pins σ H { s with heap := h' } := I.turned (t' := s.toks) (fun b o hb e => (sb.2 b hb).trans e) f0 f1 f3 f4 f5
    obtain ⟨o, e, c, d⟩ := id st'
    exact ⟨u, rfl, go_of (s := { s with heap := h' }) e c d (by decide) ⟨x, H, I1, ru, ⟨rfl, fun ys hy => by rw [I.list_inj hy hq]; exact hx⟩, st', fun b hb => (hf b hb).1⟩⟩
  done := by
    rintro X rfl rfl rfl hc i pins s σ H E I hf st ⟨xs, hq, hx⟩
    obtain ⟨its, rv, p, _⟩ := I.list hq
    obtain ⟨f0, f1, f2, f3, f4, f5⟩ := hf it (by simp)
    obtain ⟨x1, hot⟩ := hc.at I
    have hl := rv.length
    exact list_end_hot hot st p.isList (by simp; omega) fun h' eb => ⟨rfl, I.turned (t' := s.toks) (fun b o hb e => eb b o hb e) f0 f1 f3 f4 f5⟩
  self := fun _ _ _ _ _ st h => wpAny_pyIter_listiter st h
section
variable {X : Cx} {tg : Expr}
theorem pi_listH {l : Expr} {tl : TE} (hl : PE X l tl) : L2H.PIH X tg l (iList X.K tl) := by
  refine ⟨fun pins s σ H R I h => ?_⟩
  refine thn (hl.run pins s σ H _ I h) fun v s1 ⟨x, H1, I1, r1, a, e, ⟨xs, hq⟩, q⟩ => ?_
  subst e
  cases r1
  obtain ⟨its, rv, p, _⟩ := I1.list hq
  refine wpAny_pyIter_list p.isList ⟨s1.heap.objs.size, [s1.heap.objs.size], _, _, H1, rfl, I1.kept (t' := s1.toks) fun b o e => Heap.get?_push_of_some _ e, turn_listH a _, ⟨_, Heap.get?_push_size _ rfl, rfl, rfl⟩, fun b hb => ?_, q⟩
  rw [List.mem_singleton.mp hb]
  exact I1.fpOk (Nat.le_refl _) (I1.hok.fresh (Nat.le_refl _))
end
/-! ### a comprehension's block while an exception is handled: what is handled is pinned there, too -/
section
variable {X : Cx}
theorem not_stack {p : Addr × Obj} {pins : List (Addr × Obj)} {σ : L2.St} {H : Hp} {s : Shared} (I : Inv X pins σ H s) (hp : p ∈ X.pn) : p.1 ∉ frs X.stack := by
  obtain ⟨_, _, nl, nf, _⟩ := I.pin p (List.mem_append_left _ hp)
  rcases I.ok.stk with e | ⟨e, ef⟩
  · rw [e]
    exact nf
  · rw [e]
    unfold frs
    rw [List.filterMap_cons, ef]
    intro z
    rcases List.mem_cons.mp z with z | z
    · exact nl z
    · exact nf z
/-- the block's context with what the def has pinned -/
abbrev blkH (X : Cx) (s : Shared) (H : Hp) (scope : Scope) (ce : Env) (fp : List Addr) : Cx := { X.blk s H scope ce fp with pn := X.pn }
theorem blk_up {s3 : Shared} {H3 : Hp} {scope : Scope} {ce : Env} {fp : List Addr} {pins pinsX : List (Addr × Obj)} {σ σX : L2.St} {H : Hp} {s : Shared} (I3 : Inv X pinsX σX H3 s3) (hl : s3.heap.objs.size ≤ ce.locals) (hf : ∀ p ∈ X.pn, p.1 ∉ fp)
    (I : Inv (X.blk s3 H3 scope ce fp) pins σ H s) : Inv (blkH X s3 H3 scope ce fp) pins σ H s := by
  obtain ⟨ok, os, bare, base, loc, cell, free, freeC, pin, hok, len⟩ := I
  refine ⟨⟨ok.mod, ok.kind, ok.glob, ok.blt, ok.above, ok.inj, ok.has, ok.cab, ok.hd, ok.frames, ok.stk, ok.exf, ok.bs, ok.bsz, ok.noex, ok.exfs, ok.funs, ok.frf⟩, os, bare, base, loc, cell, free, freeC, fun p hp => ?_, hok, len⟩
  rcases List.mem_append.mp hp with hp | hp
  · obtain ⟨g, n, _, _, nc⟩ := I3.pin p (List.mem_append_left _ hp)
    have ns := not_stack I3 hp
    exact ⟨base.keep _ _ g n ns (hf p hp), base.free _ _ g n (hf p hp), fun e => absurd (Nat.lt_of_lt_of_le (Heap.lt_size g) hl) (by rw [e]; exact Nat.lt_irrefl _), ns, nc⟩
  · exact pin p (List.mem_append_right _ hp)
theorem blk_dn {s3 : Shared} {H3 : Hp} {scope : Scope} {ce : Env} {fp : List Addr} {pins : List (Addr × Obj)} {σ : L2.St} {H : Hp} {s : Shared} (I : Inv (blkH X s3 H3 scope ce fp) pins σ H s) : Inv (X.blk s3 H3 scope ce fp) pins σ H s := by
  obtain ⟨ok, os, bare, base, loc, cell, free, freeC, pin, hok, len⟩ := I
  exact ⟨⟨ok.mod, ok.kind, ok.glob, ok.blt, ok.above, ok.inj, ok.has, ok.cab, ok.hd, ok.frames, ok.stk, ok.exf, ok.bs, ok.bsz, ok.noex, ok.exfs, ok.funs, ok.frf⟩, os, bare, base, loc, cell, free, freeC, fun p hp => pin p (List.mem_append_right _ (by simpa using hp)), hok, len⟩
theorem hotC_blk (hc : L2H.HotC X) (s : Shared) (H : Hp) (scope : Scope) (ce : Env) (fp : List Addr) : L2H.HotC (blkH X s H scope ce fp) := hc
end
section
variable {X : Cx}
theorem lc_coreH {pins : List (Addr × Obj)} {s : Shared} {σ : L2.St} {H : Hp} {Q : VK} {elt tg iter : Expr} {ifs : List Expr} {scope : Scope} {own : List (Str × Nat)} {pos pos' : Pos} {wi : TI} {g : TG} {tt : TT} {te : TE} {use : Option (Value → Sem Unit)} {Qf : Value → Shared → Prop}
    (hc : L2H.HotC X) (hN : X.N.Nodup) (I : Inv X pins σ H s) (hi : L2H.PIH X tg iter wi) (ok : BlkOk X.N X.env.scope scope own)
    (hg : ∀ (s : Shared) (H : Hp) (C : Addr) (cl : List (Str × Addr)) (fp : List Addr), PG (X.blk s H scope (compEnvC scope cl C X.env) fp) tg g) (ht : ∀ (s : Shared) (H : Hp) (C : Addr) (cl : List (Str × Addr)) (fp : List Addr), PTs (X.blk s H scope (compEnvC scope cl C X.env) fp) ifs tt)
    (he : ∀ (s : Shared) (H : Hp) (C : Addr) (cl : List (Str × Addr)) (fp : List Addr), PE (X.blk s H scope (compEnvC scope cl C X.env) fp) elt te) (hs : ∀ x, foldedSetIterable iter X.env x = pure x)
    (h : tLc wi g tt te (own.map (·.2)) σ H Q)
    (hRR : ∀ D C s' m H', Inv X pins σ H' s' → Q (.ref D) H' → s'.heap.Ns C m → FpOk X pins H' C → compPost (model X.prog X.w) X.A X.xe use Qf (.ref D) C (.ok .next) s') :
    wpAny (model X.prog X.w) X.A (comprehension (.ListComp elt [⟨tg, iter, ifs, 0⟩] scope pos) scope X.env pos' (newList []) false (eval iter X.env) use) Qf X.xe s := by
  have closes : ∀ y ∈ scope.names, y.2 = .free → ∃ c, X.env.cells.lookup y.1 = some c := fun y hy e => (ok.free y hy e).elim (fun k => I.ok.has _ (.inl k)) fun k => I.ok.has _ (.inr k)
  refine wpAny_comprehension_free (use := use) rfl hs (closure_ok closes) ok.kind (fun y hy e => by rw [ok.uniq y hy, e]) (thn (hi.run pins s σ H _ I h) fun _ s1 hx => thn hx fun itv s2 ⟨it, fp, tn, J, H2, e, I2, T, t2, f2, rest⟩ => ?_)
  subst e
  refine wpAny_newObj_type (newEnv_comp ?_) (by show 0 ≤ sizeLine; decide)
  obtain ⟨W, ⟨m0, w0⟩, turn⟩ := rest _ (I2.hok.fresh (Nat.le_refl _))
  have small : ∀ b ∈ fp, b < s2.heap.objs.size := fun b hb => Heap.lt_size (T.obj _ _ t2 b hb).choose_spec.1
  obtain ⟨s3, H3, hs3, hH3⟩ : ∃ (s3 : Shared) (H3 : Hp), s3 = { s2 with heap := s2.heap.push { cls := .type "list", data := .seq ([] : List Value).toArray } } ∧ H3 = upd H2 s2.heap.objs.size (.lst []) := ⟨_, _, rfl, rfl⟩
  have old3 : ∀ b o, s2.heap.get? b = some o → s3.heap.get? b = some o := fun b o e => by rw [hs3]; exact Heap.get?_push_of_some _ e
  have I3 : Inv X pins σ H3 s3 := by
    rw [hs3, hH3]
    exact I2.laid (t' := s2.toks) (fun b o e => Heap.get?_push_of_some _ e) (Nat.le_refl _) ⟨Nat.zero_le _, [], 0, .nil, Heap.get?_push_size _ rfl⟩
  have f3 : ∀ b ∈ fp, FpOk X pins H3 b ∧ b < s3.heap.objs.size := fun b hb => by
    refine ⟨⟨by rw [hH3, upd_ne (Nat.ne_of_lt (small b hb))]; exact (f2 b hb).1, (f2 b hb).2⟩, ?_⟩
    rw [hs3, Heap.size_push]
    exact Nat.lt_succ_of_lt (small b hb)
  have t3 : tn 0 s3.heap := T.keep _ _ _ t2 fun b _ o e => old3 b o e
  have w3 : W 0 m0 H3 := by rw [hH3]; exact w0
  generalize s2.heap.objs.size = D at turn
  rw [← hs3]
  clear w0 hH3 hs3
  have start := block_start I3 ok hN f3
  have pg := hg s3 H3 s3.heap.objs.size (cellsFrom (s3.heap.objs.size + 1) scope.names (cloFrom X.env.cells scope.names [])) fp
  have pt := ht s3 H3 s3.heap.objs.size (cellsFrom (s3.heap.objs.size + 1) scope.names (cloFrom X.env.cells scope.names [])) fp
  have pe := he s3 H3 s3.heap.objs.size (cellsFrom (s3.heap.objs.size + 1) scope.names (cloFrom X.env.cells scope.names [])) fp
  show codeAny _ _ (.compStart (.ListComp elt [⟨tg, iter, ifs, 0⟩] scope pos) 0 (.ref it) (.ref D) (compEnvC scope (cellsFrom (s3.heap.objs.size + 1) scope.names (cloFrom X.env.cells scope.names [])) s3.heap.objs.size X.env)) (compPost (model X.prog X.w) X.A X.xe use Qf (.ref D) s3.heap.objs.size) { s3 with heap := pushCells (s3.heap.push { cls := .type "dict", data := .dict #[] }) scope.names }
  have cL : (compEnvC scope (cellsFrom (s3.heap.objs.size + 1) scope.names (cloFrom X.env.cells scope.names [])) s3.heap.objs.size X.env).locals = s3.heap.objs.size := rfl
  generalize compEnvC scope (cellsFrom (s3.heap.objs.size + 1) scope.names (cloFrom X.env.cells scope.names [])) s3.heap.objs.size X.env = ce at start pg pt pe cL ⊢
  obtain ⟨s4, hs4⟩ : ∃ s4 : Shared, s4 = { s3 with heap := pushCells (s3.heap.push { cls := .type "dict", data := .dict #[] }) scope.names } := ⟨_, rfl⟩
  rw [← hs4] at start ⊢
  have t4 : tn 0 s4.heap := T.keep _ _ _ t3 fun b _ o e => by rw [hs4]; exact pushCells_keeps _ _ _ _ (Heap.get?_push_of_some _ e)
  have apart : ∀ p ∈ X.pn, p.1 ∉ fp := fun p hp z => (f2 _ z).2.2.2.2.2 p (List.mem_append_left _ hp) rfl
  have up : ∀ {σ' : L2.St} {H' : Hp} {s' : Shared}, Inv (X.blk s3 H3 scope ce fp) [] σ' H' s' → Inv (blkH X s3 H3 scope ce fp) [] σ' H' s' := fun J => blk_up I3 (by rw [cL]; exact Nat.le_refl _) apart J
  have okB : ∀ {σ' : L2.St} {H' : Hp} {s' : Shared}, Inv (X.blk s3 H3 scope ce fp) [] σ' H' s' → (∀ b ∈ fp, H' b = none) → ∀ b ∈ fp, FpOk (X.blk s3 H3 scope ce fp) [] H' b := fun J n b hb => ⟨n b hb, (J.ok.exf b hb).1, J.ok.exfs b hb, .inl hb, fun x c e => (J.ok.exf b hb).2 x c e, fun p hp => absurd (show p ∈ ([] : List (Addr × Obj)) ++ [] from hp) (by simp)⟩
  have okH : ∀ {σ' : L2.St} {H' : Hp} {s' : Shared}, Inv (X.blk s3 H3 scope ce fp) [] σ' H' s' → (∀ b ∈ fp, H' b = none) → ∀ b ∈ fp, FpOk (blkH X s3 H3 scope ce fp) [] H' b := fun J n b hb => ⟨n b hb, (J.ok.exf b hb).1, J.ok.exfs b hb, .inl hb, fun x c e => (J.ok.exf b hb).2 x c e, fun p hp z => apart p (by simpa using hp) (by rw [z]; exact hb)⟩
  have walk : codeAny (model X.prog X.w) X.A (.compLoop (.ListComp elt [⟨tg, iter, ifs, 0⟩] scope pos) 0 (.ref it) (.ref D) ce) (compPost (model X.prog X.w) X.A X.xe use Qf (.ref D) s3.heap.objs.size) s4 := by
    refine compLoop_any (fun n s' => ∃ i H', Inv (X.blk s3 H3 scope ce fp) [] (wipe σ (own.map (·.2))) H' s' ∧ tn i s'.heap ∧ (∀ b ∈ fp, H' b = none) ∧ W i n H') (fun n s5 ⟨i, H5, I5, t5, n5, w5⟩ => ?_) m0 ⟨0, H3, start, t4, fun b hb => (f3 b hb).1.1, w3⟩
    rcases turn i n H5 w5 with ⟨stop, qq⟩ | ⟨go, Nx, less, step⟩
    · refine thnF (T.done (blkH X s3 H3 scope ce fp) rfl rfl rfl (hotC_blk hc ..) i [] s5 _ H5 (fun _ _ => False) (up I5) (okH I5 n5) t5 stop) fun r s6 ⟨hr, J6⟩ => ?_
      subst hr
      have I6 := blk_dn J6
      have back : Inv X pins σ H5 s6 := I3.call' (ch := fp) I6.os I6.base I6.hok I6.bare fun b hb => ⟨(f3 b hb).1.2.2.2.1, (f3 b hb).1.2.1, (f3 b hb).1.2.2.2.2.1, (f3 b hb).1.2.2.2.2.2⟩
      have nC : H5 ce.locals = none := I6.free
      obtain ⟨m, hn, _⟩ := I6.loc
      have hn : s6.heap.Ns ce.locals m := hn
      rw [cL] at hn nC
      exact hRR D s3.heap.objs.size s6 m H5 back qq hn (I3.fpOk (Nat.le_refl _) nC)
    · refine thnF (T.item (blkH X s3 H3 scope ce fp) rfl rfl rfl (hotC_blk hc ..) i [] s5 _ H5 (fun _ _ => False) (up I5) (okH I5 n5) t5 go) fun r s6 ⟨u, hr, h6⟩ => ?_
      subst hr
      refine thnF h6 fun _ s7 ⟨x, H7, J7, r7, y7, t7, n7⟩ => ?_
      have I7 := blk_dn J7
      refine thnF (pg.run _ s7 _ H7 x u _ (I7.pinned (okB I7 n7) (T.obj _ _ t7)) r7 (step x H7 y7)) fun _ s8 ⟨σ8, H8, I8, same8, q8⟩ => ?_
      refine thnF (pt.run _ s8 σ8 H8 _ I8 q8) fun b s9 ⟨H9, I9, q9⟩ => ?_
      have done : ∀ {s' : Shared} {H' : Hp}, Inv (X.blk s3 H3 scope ce fp) ([] ++ pinsAt fp s7.heap) σ8 H' s' → Nx H' → ∃ m, m < n ∧ ∃ i H', Inv (X.blk s3 H3 scope ce fp) [] (wipe σ (own.map (·.2))) H' s' ∧ tn i s'.heap ∧ (∀ b ∈ fp, H' b = none) ∧ W i m H' := fun {s' H'} J nx => by
        obtain ⟨m', lt, w'⟩ := less H' nx
        have held : ∀ b ∈ fp, ∀ o, s7.heap.get? b = some o → s'.heap.get? b = some o ∧ H' b = none := fun b hb o e => by
          have z := J.pin (b, o) (List.mem_append_right _ (List.mem_append_right _ (mem_pinsAt hb e)))
          exact ⟨z.1, z.2.1⟩
        refine ⟨m', lt, i + 1, H', (J.unpinned (pins := [])).weak (by rw [← same8, wipe_length]) (fun j v e => ?_), T.keep _ _ _ t7 fun b hb o e => (held b hb o e).1, fun b hb => ?_, w'⟩
        · rw [← same8] at e
          exact (wipe_some e).1
        · obtain ⟨o, e, _⟩ := T.obj _ _ t7 b hb
          exact (held b hb o e).2
      cases b with
      | false => exact done I9 q9
      | true =>
        refine thnF (pe.run _ s9 σ8 H9 _ I9 q9) fun z s10 ⟨yv, H10, I10, r10, acc, hD, hz, nx⟩ => ?_
        exact app_ok (X := X.blk s3 H3 scope ce fp) I10 hD hz r10 fun s11 I11 => done I11 nx
  exact codeAny_compStart_list walk (T.self X.A 0 _ _ _ t4 walk)
end
section
variable {X : Cx}
/-- [..] as a value, there -/
theorem pe_lcH {elt tg iter : Expr} {ifs : List Expr} {scope : Scope} {own : List (Str × Nat)} {pos : Pos} {wi : TI} {g : TG} {tt : TT} {te : TE} (hc : L2H.HotC X) (hN : X.N.Nodup) (hi : L2H.PIH X tg iter wi) (ok : BlkOk X.N X.env.scope scope own)
    (hg : ∀ (s : Shared) (H : Hp) (C : Addr) (cl : List (Str × Addr)) (fp : List Addr), PG (X.blk s H scope (compEnvC scope cl C X.env) fp) tg g) (ht : ∀ (s : Shared) (H : Hp) (C : Addr) (cl : List (Str × Addr)) (fp : List Addr), PTs (X.blk s H scope (compEnvC scope cl C X.env) fp) ifs tt)
    (he : ∀ (s : Shared) (H : Hp) (C : Addr) (cl : List (Str × Addr)) (fp : List Addr), PE (X.blk s H scope (compEnvC scope cl C X.env) fp) elt te) (hs : ∀ x, foldedSetIterable iter X.env x = pure x := by intro _; rfl) :
    PE X (.ListComp elt [⟨tg, iter, ifs, 0⟩] scope pos) (tLc wi g tt te (own.map (·.2))) := by
  refine ⟨fun pins s σ H Q I h => ?_⟩
  rw [eval_ListComp]
  exact lc_coreH hc hN I hi ok hg ht he hs h fun D C s' m H' J q hn ⟨f0, f1, f2, f3, f4, f5⟩ => ⟨m, hn, fun _ sb => ⟨.ref D, H', J.turned (t' := s'.toks) (fun b o hb e => (sb.2 b hb).trans e) f0 f1 f3 f4 f5, rfl, q⟩⟩
/-- name = [..] on one line, there -/
theorem ps_setLcH {i : Nat} {y : Str} {py : Pos} {elt tg iter : Expr} {ifs : List Expr} {scope : Scope} {own : List (Str × Nat)} {pos spos : Pos} {wi : TI} {g : TG} {tt : TT} {te : TE} (hc : L2H.HotC X) (hN : X.N.Nodup) (hy : X.N[i]? = some y) (hyl : X.env.scope.names.lookup y = some .local)
    (hsw : swapsWith (.ListComp elt [⟨tg, iter, ifs, 0⟩] scope pos) (some (.Name y py)) spos.line X.env = pure true) (hi : L2H.PIH X tg iter wi) (ok : BlkOk X.N X.env.scope scope own)
    (hg : ∀ (s : Shared) (H : Hp) (C : Addr) (cl : List (Str × Addr)) (fp : List Addr), PG (X.blk s H scope (compEnvC scope cl C X.env) fp) tg g) (ht : ∀ (s : Shared) (H : Hp) (C : Addr) (cl : List (Str × Addr)) (fp : List Addr), PTs (X.blk s H scope (compEnvC scope cl C X.env) fp) ifs tt)
    (he : ∀ (s : Shared) (H : Hp) (C : Addr) (cl : List (Str × Addr)) (fp : List Addr), PE (X.blk s H scope (compEnvC scope cl C X.env) fp) elt te) (hs : ∀ x, foldedSetIterable iter X.env x = pure x := by intro _; rfl) :
    PS X (.Assign [.Name y py] (.ListComp elt [⟨tg, iter, ifs, 0⟩] scope pos) spos) (tAsg (tLc wi g tt te (own.map (·.2))) (gName i)) := by
  refine ⟨fun pins s σ H D I h => ?_⟩
  rw [exec_Assign_Name_used _ _ _ _ hsw]
  refine wpAny_bind (wpAny_standAt (wpAny_bind ?_))
  show wpAny _ X.A (do let _ ← comprehension (.ListComp elt [⟨tg, iter, ifs, 0⟩] scope pos) scope X.env (firstIterPos [⟨tg, iter, ifs, 0⟩] pos) (newList []) false (eval iter X.env) (some (assign (.Name y py) X.env))) _ _ s
  have h : tLc wi g tt te (own.map (·.2)) σ H (fun x H1 => gName i x σ H1 D.nx) := h
  refine wpAny_bind (thn (lc_coreH (Qf := fun _ s' => SP X pins D .next s') hc hN I hi ok hg ht he hs h fun L C s' m H' J q hn ⟨f0, f1, f2, f3, f4, f5⟩ => ?_) fun _ s' hq => wpAny_pure (wpAny_pure hq))
  show wpAny _ _ (assign (.Name y py) X.env (.ref L)) _ _ _
  refine wpAny_assign_Name (store_ok2 (v := V.ref L) J hN hy (.inl hyl) rfl (fun s2 I2 ⟨a, sb, ha⟩ => ?_) (.inr hyl))
  have apart : C ≠ a := ha.elim (fun z => by rw [z]; exact f1) fun z e => f4 y a z e.symm
  refine ⟨m, hn.sameBut sb apart, fun h3 sb3 => ⟨_, H', I2.turned (t' := s2.toks) (fun b o hb e => (sb3.2 b hb).trans e) f0 f1 f3 f4 f5, q⟩⟩
end
/-! ### the end of a walk over a dict's keys, there -/
section
variable {prog : Program} {w : World} {A : Around} {E : Value → Shared → Prop} {s : Shared}
theorem keys_end_hot {it d x1 : Addr} {i ep : Nat} {es : Array DictEntry} {Q : Option Value → Shared → Prop} (hot : HotX.HotAt A x1 s.heap) (hit : s.heap.IsKeyIter it d i es.size ep) (hm : s.heap.DictRaw d es ep) (hge : es.size ≤ i)
    (hQ : ∀ h', Heap.ExtBut it s.heap h' → Q none { s with heap := h' }) : wpAny (model prog w) A (pyNext (.ref it)) Q E s := by
  obtain ⟨o, ho, hc, hd⟩ := id hit
  obtain ⟨od, hod, hcd, hdd⟩ := id hm
  obtain ⟨hh, o1, vs1, h1, d1, c1⟩ := hot
  have ne : x1 ≠ it := fun e => by
    rw [e, ho] at h1
    rw [← Option.some.inj h1, hd] at d1
    rw [← Data.fields.inj d1] at c1
    simp [rawInt] at c1
  unfold pyNext
  refine wpAny_bind (wpAny_attempt (wpAny_callSpecial?_slot (name := Str.ofString "__next__") hit.typeIs F.slot_dict_keyiterator_next
    (wpAny_call_entry F.slot_dict_keyiterator_next hit.typeIs F.entry_dict_keyiterator_next ?_ (F.args_dict_keyiterator_next_1 _))))
  refine wpAny_bind (wpAny_pure (wpAny_bind (wpAny_bind ?_)))
  first | refine wpAny_bind (wpAny_typeNameOfWhole_keyiter hit.typeIs (wpAny_pure ?_)) | refine wpAny_bind (wpAny_typeNameOf_keyiter hit.typeIs (wpAny_pure ?_))
  refine wpAny_bind (wpAny_fieldsOf ho hd ?_)
  simp only [show Builtin.Dict_items.ownsTuple "dict_keyiterator" = false by decide, Bool.false_eq_true, if_false]
  show wpAny _ _ (if (Value.ref d == Value.none) = true then _ else _) _ _ s
  rw [if_neg (show ¬ ((Value.ref d == Value.none) = true) from Bool.false_ne_true)]
  refine wpAny_bind (wpAny_pure (wpAny_bind (wpAny_dictEntries hod hdd ?_)))
  rw [if_neg (by simp)]
  refine wpAny_bind (wpAny_pure (wpAny_bind (wpAny_dictEpoch hod hdd ?_)))
  rw [if_neg (by simp)]
  refine wpAny_pure ?_
  simp only [show ¬ ((i : Int) < 0) by omega, if_false, Int.toNat_natCast, Array.getElem?_eq_none hge]
  refine wpAny_bind ?_
  first | refine wpAny_bind (wpAny_typeNameOfWhole_keyiter hit.typeIs (wpAny_pure ?_)) | refine wpAny_bind (wpAny_typeNameOf_keyiter hit.typeIs (wpAny_pure ?_))
  show wpAny _ _ (setField (.ref it) 0 .none >>= _) _ _ s
  refine wpAny_bind (wpAny_setField ho hd (by simp) ?_)
  show wpAny _ _ (newExc (.type "StopIteration") [] >>= _) _ _ _
  refine wpAny_bind ?_
  simp only [newExc, newTuple]
  refine wpAny_bind (wpAny_newObj_type ?_ (by size_fits))
  refine wpAny_bind (m := firstArgMember _ _) (wpAny_of_eq (a := Value.none) (by first | rfl | (simp only [firstArgMember]; rfl)) ?_)
  refine wpAny_newObj_type ?_ (by size_fits)
  have k1 := (Heap.get?_update_other s.heap (Obj.mapFields (·.setIfInBounds 0 .none)) (Ne.symm ne)).trans h1
  refine HotX.raiseNew_hot ⟨hh, o1, vs1, Heap.get?_push_of_some _ (Heap.get?_push_of_some _ k1), d1, c1⟩ (Nat.ne_of_lt (Heap.lt_size (Heap.get?_push_of_some _ k1))) (Heap.get?_push_size _ rfl) rfl (by first | (simp; done) | (simp; omega) | (simp only [Array.size_append]; simp; omega)) ?_
  refine wpAny_bind (wpAny_isInstance (T := "StopIteration") (b := true) ⟨_, Heap.get?_update_self _ (Heap.get?_push_size _ rfl) rfl, rfl⟩ isSubtype_stop ?_)
  refine wpAny_pure (hQ _ fun b o nb e => ?_)
  have e2 := (Heap.get?_update_other s.heap (Obj.mapFields (·.setIfInBounds 0 .none)) (Ne.symm nb)).trans e
  rw [Heap.get?_update_other _ _ (Nat.ne_of_gt (Heap.lt_size (Heap.get?_push_of_some _ e2)))]
  exact Heap.get?_push_of_some _ (Heap.get?_push_of_some _ e2)
end
/-- the walk over a dict's keys, there: how what is handled stands is part of its state -/
theorem keys_walk_hot {prog : Program} {w : World} {A : Around} {KT : Type} [DecidableEq KT] {knd : KeyKind prog w KT} {x1 : Addr} {v1 : Array Value} (hh : A.handled = some (.ref x1)) (c1 : v1[2]? = some .none) (I d : Addr) (hne : d ≠ I) (h1 : x1 ≠ I) (kvs : List (KT × Value)) (ep : Nat) :
    Walks prog w A I [I, d, x1] [I] kvs.length (fun i v => ∃ k x, kvs[i]? = some (k, x) ∧ knd.is k v = true) (fun i h => h.IsKeyIter I d i kvs.length ep ∧ h.DictAt knd d kvs ep ∧ ∃ o, h.get? x1 = some o ∧ o.data = .fields v1) where
  sub := fun b hb => by rw [List.mem_singleton.mp hb]; simp
  frame := fun _ _ _ ⟨a, b, o, e, f⟩ hk => ⟨a.at fun o e => hk I (by simp) o e, b.at' fun o e => hk d (by simp) o e, o, hk x1 (by simp) o e, f⟩
  item := fun i s Q E hi ⟨a, b, o, e, f⟩ hQ => by
    refine wpAny_pyNext_dict_item a b (List.getElem?_eq_getElem hi) fun key h' hkey hit' hs' => ?_
    exact hQ key h' s.toks ⟨_, _, List.getElem?_eq_getElem hi, hkey⟩ ⟨hit', b.extBut hs'.extBut hne, o, hs'.extBut x1 o h1 e, f⟩ fun b o hb e => hs'.extBut b o (fun h => hb (by simp [h])) e
  done := fun s Q E ⟨a, b, o, e, f⟩ hQ => by
    obtain ⟨es, hr, hs, _⟩ := b.raw
    rw [← hs] at a
    exact keys_end_hot ⟨hh, o, v1, e, f, c1⟩ a hr (Nat.le_refl _) fun h' he' => hQ h' s.toks fun b o hb e => he' b o (fun h => hb (by simp [h])) e
  self := fun _ _ _ _ ⟨a, _, _⟩ hQ => wpAny_pyIter_keyiter a hQ
/-- l.extend(d) for a new list, there -/
theorem extend_hot {prog : Program} {w : World} {A : Around} {KT : Type} [DecidableEq KT] {knd : KeyKind prog w KT} {s : Shared} {R : Result → Shared → Prop} {d x1 S : Addr} {v1 : Array Value} {o1 : Obj} {kvs : List (KT × Value)} {ep c0 : Nat} (lo : (d == sysModules) = false) (hh : A.handled = some (.ref x1)) (h1 : s.heap.get? x1 = some o1) (d1 : o1.data = .fields v1) (c1 : v1[2]? = some .none)
    (hm : s.heap.DictAt knd d kvs ep) (Sd : S ≠ d) (Sx : S ≠ x1) (res : Value) (hS : s.heap.get? S = some { cls := .type "list", data := .seq #[] c0 }) (hn : kvs.length ≤ sizeLine)
    (hR : ∀ h' tk acc' c', (∀ b o, b ≠ S → s.heap.get? b = some o → h'.get? b = some o) → h'.get? S = some { cls := .type "list", dict := none, data := .seq acc' c', slots := #[] } → ItemsOf (fun i v => ∃ k x, kvs[i]? = some (k, x) ∧ knd.is k v = true) acc' kvs.length → R (.ok (.ret res)) { s with heap := h', toks := tk }) :
    wpAny (model prog w) A.in1 (Builtin.List.listExtendWith (.ref S) (.ref d) res)
      (fun fin s' => match fin with | .done f => R (.ok f) s' | .again c' => c'.quiet = true ∧ codeAny (model prog w) A c' R s') (fun e s' => R (.error e) s') s := by
  have K := PySem.W.kdl_dict (knd := knd) (kvs := kvs) (ep := ep) lo
  have n1 : S ≠ s.heap.objs.size := Nat.ne_of_lt (Heap.lt_size hS)
  have Wk := keys_walk_hot (prog := prog) (w := w) (A := A.in1) (knd := knd) (x1 := x1) (v1 := v1) hh c1 s.heap.objs.size d (Nat.ne_of_lt hm.lt_size) (Nat.ne_of_lt (Heap.lt_size h1)) kvs ep
  have out : S ∉ [s.heap.objs.size, d, x1] := by simp only [List.mem_cons, List.not_mem_nil, or_false, not_or]; exact ⟨n1, Sd, Sx⟩
  have key : ∀ (h : Heap) (c₁ tk : Nat), (h.IsKeyIter s.heap.objs.size d 0 kvs.length ep ∧ h.DictAt knd d kvs ep ∧ ∃ o, h.get? x1 = some o ∧ o.data = .fields v1) → (∀ b o, b ≠ S → s.heap.get? b = some o → h.get? b = some o) →
      h.get? S = some { cls := .type "list", data := .seq #[] c₁ } → codeAny (model prog w) A (.builtin "list.extend.loop" ⟨[.ref S, .ref s.heap.objs.size, res], []⟩) R { s with heap := h, toks := tk } := fun h c₁ tk st hk hS1 => by
    refine codeAny_extend_loopS Wk.toS hn S out res kvs.length 0 _ #[] c₁ rfl (Nat.zero_le _) st hS1 (ItemsOf.nil _) fun s' acc' c' hm' hS' hacc => ?_
    rw [Moved.eq_with hm']
    refine hR s'.heap s'.toks acc' c' (fun b o hb e => hm'.heap b o (fun z => ?_) (hk b o hb e)) hS' hacc
    rcases List.mem_cons.mp z with z | z
    · exact hb z
    · exact absurd (Heap.lt_size e) (by rw [List.mem_singleton.mp z]; exact Nat.lt_irrefl _)
  unfold Builtin.List.listExtendWith
  refine wpAny_bind (wpAny_typeOf (T := "dict") (K.type s hm) ?_)
  simp only [show Builtin.List.listSameRef (.ref S) (.ref d) = false by simp [Builtin.List.listSameRef, Sd], K.notList, K.notTuple, Bool.or_false, Bool.false_eq_true, if_false]
  refine wpAny_bind (wpAny_pyIter_dict lo hm ?_)
  have hS1 := Heap.get?_push_of_some ({ cls := .type "dict_keyiterator", data := .fields #[.ref d, .int 0 0, .int kvs.length 0, .int ep 0] } : Obj) hS
  refine wpAny_bind (wpAny_holding (K.hint _ _ _ _ (hm.push _) ?_))
  have st : (s.heap.push ({ cls := .type "dict_keyiterator", data := .fields #[.ref d, .int 0 0, .int kvs.length 0, .int ep 0] } : Obj)).IsKeyIter s.heap.objs.size d 0 kvs.length ep ∧ (s.heap.push ({ cls := .type "dict_keyiterator", data := .fields #[.ref d, .int 0 0, .int kvs.length 0, .int ep 0] } : Obj)).DictAt knd d kvs ep ∧ ∃ o, (s.heap.push ({ cls := .type "dict_keyiterator", data := .fields #[.ref d, .int 0 0, .int kvs.length 0, .int ep 0] } : Obj)).get? x1 = some o ∧ o.data = .fields v1 := ⟨⟨_, Heap.get?_push_size _ rfl, rfl, rfl⟩, hm.push _, o1, Heap.get?_push_of_some _ h1, d1⟩
  refine wpAny_ite_split (fun _ => ?_) (fun _ => wpAny_pure ⟨plainId_quiet PySem.F.plain_extend_loop _, key _ c0 _ st (fun b o _ e => Heap.get?_push_of_some _ e) hS1⟩)
  refine wpAny_bind (wpAny_rule (wpAny_bind ?_))
  show wpAny _ _ (updateSeq S (·.push .none) >>= fun _ => updateSeq S (·.pop)) _ _ _
  refine wpAny_bind (wpAny_updateSeq hS1 rfl ?_)
  have hS2 := Heap.get?_update_self (Obj.mapSeq (·.push Value.none)) hS1 rfl
  refine wpAny_updateSeq (hz := by seq_fits) hS2 rfl ?_
  have two : ∀ b o, b ≠ S → (s.heap.push ({ cls := .type "dict_keyiterator", data := .fields #[.ref d, .int 0 0, .int kvs.length 0, .int ep 0] } : Obj)).get? b = some o → _ := fun b o hb e => (Heap.get?_update_other _ (Obj.mapSeq (·.pop)) (Ne.symm hb)).trans ((Heap.get?_update_other _ (Obj.mapSeq (·.push Value.none)) (Ne.symm hb)).trans e)
  exact wpAny_pure ⟨plainId_quiet PySem.F.plain_extend_loop _, key _ _ _ (Wk.frame 0 _ _ st fun b hb o e => two b o (fun z => out (z ▸ hb)) e) (fun b o hb e => two b o hb (Heap.get?_push_of_some _ e)) (Heap.get?_update_self (Obj.mapSeq (·.pop)) hS2 rfl)⟩
/-- the list of a dict's keys, there -/
theorem collect_hot {prog : Program} {w : World} {A : Around} {E : Value → Shared → Prop} {KT : Type} [DecidableEq KT] {knd : KeyKind prog w KT} {s : Shared} {R : List Value → Shared → Prop} {d x1 : Addr} {v1 : Array Value} {o1 : Obj} {kvs : List (KT × Value)} {ep : Nat} (lo : (d == sysModules) = false) (hh : A.handled = some (.ref x1)) (h1 : s.heap.get? x1 = some o1) (d1 : o1.data = .fields v1) (c1 : v1[2]? = some .none)
    (hm : s.heap.DictAt knd d kvs ep) (hn : kvs.length ≤ sizeLine)
    (h : ∀ (h' : Heap) (tk : Nat) (acc : Array Value), (∀ b o, s.heap.get? b = some o → h'.get? b = some o) → ItemsOf (fun i v => ∃ k x, kvs[i]? = some (k, x) ∧ knd.is k v = true) acc kvs.length → R acc.toList { s with heap := h', toks := tk }) :
    wpAny (model prog w) A (collect (.ref d)) R E s := by
  unfold collect
  refine wpAny_bind (wpAny_runValue (codeAny_builtin entry_proto_collect' ?_))
  rw [Around.under_plainId PySem.F.plain_proto_collect _]
  show wpAny _ A.in1 (newList [] >>= fun l => again (.builtin "list.__iadd__" ⟨[l, .ref d], []⟩)) _ _ s
  refine wpAny_bind (wpAny_newObj_type (wpAny_pure ⟨plainId_quiet PySem.F.plain_list_iadd _, codeAny_builtin entry_list_iadd' ?_⟩))
  rw [Around.under_plainId PySem.F.plain_list_iadd _]
  show wpAny _ A.in1 (Builtin.List.listExtendWith (.ref s.heap.objs.size) (.ref d) (.ref s.heap.objs.size)) _ _ _
  have old : ∀ b o, s.heap.get? b = some o → (s.heap.push { cls := .type "list", data := .seq ([] : List Value).toArray }).get? b = some o := fun b o e => Heap.get?_push_of_some _ e
  have run := extend_hot (A := A) (s := { s with heap := s.heap.push { cls := .type "list", data := .seq ([] : List Value).toArray } }) (S := s.heap.objs.size) (c0 := 0)
    (R := fun (q : Result) (s' : Shared) => ∃ (h' : Heap) (tk : Nat) (acc' : Array Value) (c' : Nat), q = .ok (.ret (.ref s.heap.objs.size)) ∧ s' = { s with heap := h', toks := tk } ∧ (∀ b o, s.heap.get? b = some o → h'.get? b = some o) ∧
      h'.get? s.heap.objs.size = some { cls := .type "list", dict := none, data := .seq acc' c', slots := #[] } ∧ ItemsOf (fun i v => ∃ k x, kvs[i]? = some (k, x) ∧ knd.is k v = true) acc' kvs.length)
    lo hh (old _ _ h1) d1 c1 (hm.push _) (Nat.ne_of_gt hm.lt_size) (Nat.ne_of_gt (Heap.lt_size h1)) (.ref s.heap.objs.size) (Heap.get?_push_size _ rfl) hn
    (fun h' tk acc' c' hk hS' hacc => ⟨h', tk, acc', c', rfl, rfl, fun b o e => hk b o (Nat.ne_of_lt (Heap.lt_size e)) (old b o e), hS', hacc⟩)
  refine wpAny_mono run (fun fin s' x => ?_) fun e s' ⟨_, _, _, _, e', _⟩ => by cases e'
  cases fin with
  | done f =>
    obtain ⟨h', tk, acc', c', e, rfl, hk, hS', hacc⟩ := x
    cases e
    show wpAny _ A (load s.heap.objs.size >>= _) _ _ _
    exact wpAny_bind (wpAny_load hS' (wpAny_pure (h h' tk acc' hk hacc)))
  | again c₁ =>
    refine ⟨x.1, codeAny_mono x.2 fun q s₂ y => ?_⟩
    obtain ⟨h', tk, acc', c', rfl, rfl, hk, hS', hacc⟩ := y
    show wpAny _ A (load s.heap.objs.size >>= _) _ _ _
    exact wpAny_bind (wpAny_load hS' (wpAny_pure (h h' tk acc' hk hacc)))
/-- sorted(d), d a dict with int keys, there -/
theorem call_sortDH {X : Cx} (hc : L2H.HotC X) : CallR X (.builtin "sorted") rSortD := by
  intro pins sh σ H xs us Q inv rel ask
  obtain ⟨a, rfl, ask⟩ := ask
  obtain ⟨kvs, here, ks, hks, ask⟩ := dcAt_get ask
  obtain ⟨u, rfl, ra⟩ := vals1 rel
  cases ra
  obtain ⟨p, ⟨hh, v1, d1, c1⟩, hp⟩ := hc
  have h1 := (inv.pin p (List.mem_append_left _ hp)).1
  obtain ⟨small, lo, vs, kv, dd⟩ := dk_rd inv.hok (.inl here)
  obtain ⟨ep, hat⟩ := dd.dictAt
  have vk : vs.map (·.1) = ks.map Sum.inl := kv.keys.symm.trans hks
  have l1 : vs.length = ks.length := by simpa using congrArg List.length vk
  have l2 : kvs.length = ks.length := by simpa using congrArg List.length hks
  refine Calls.call_function_entry kind_sorted plain_sorted entry_sorted (args_sorted1 (.ref a)) ?_
  unfold Builtin.«sorted»
  refine wpAny_bind (m := checkCount "sorted" 1 1 _) (wpAny_pure (wpAny_bind ?_))
  refine collect_hot (A := X.A.in1) (knd := mixKind X.prog X.w) (kvs := vs) (ep := ep) lo hh h1 d1 c1 hat (by omega) fun h' tk acc kept got => ?_
  have all := keys_ints vk got.1 got.2
  have fits : acc.toList.length ≤ sizeLine := by rw [Array.length_toList, got.1]; omega
  have I1 : Inv X pins σ H { sh with heap := h', toks := tk } := inv.kept kept
  refine wpAny_bind (wpAny_newList (wpAny_bind (wpAny_holding ?_)) fits)
  have new : (h'.push (seqObj "list" acc.toList.toArray 0)).get? h'.objs.size = some (seqObj "list" acc.toList.toArray 0) := Heap.get?_push_size _ rfl
  refine wpAny_call_entry (s := { sh with heap := h'.push (seqObj "list" acc.toList.toArray 0), toks := tk }) slot_list_sort ⟨_, new, rfl⟩ entry_list_sort (SrtO.list_sort_ord SrtO.swo_int new fits (fun two => SrtO.ints_sortable all two) fun out o1 o2 => ⟨_, rfl, ?_⟩) (args_list_sort _)
  obtain ⟨k1, k2, k3⟩ := SrtO.ints_out all o1 o2
  obtain ⟨e', he'⟩ := sortedHeap_at (vs := acc.toList) (out := out.toArray) new
  refine wpAny_pure ⟨_, rfl, .ref h'.objs.size, upd H h'.objs.size (.lst ((out.map SrtO.iv).map V.int)), I1.laid (t' := tk) (fun b u e => ?_) (Nat.le_refl _) ⟨by rw [List.length_map, k2.length_eq, ← l2]; exact small, out, e', vals_of_ints k1, he'⟩, rfl, ask _ _ k2 k3 (I1.hok.fresh (Nat.le_refl _))⟩
  have lt : b < h'.objs.size := Heap.lt_size e
  rw [sortedHeap_old (Nat.ne_of_lt lt) (by rw [size_push']; exact Nat.lt_succ_of_lt lt)]
  exact Heap.get?_push_of_some _ e

/-! ### calls where an error is handled, told as the calm ones are -/
section
variable {X : Cx} {k : Nat} {f C : Addr} {fd : FuncData} {ps : List Str} {sp : Sp} {x m : Str} {q pos apos : Pos} {e o : Expr} {es : List Expr} {ta : TE} {t : TA}
theorem hu_ofH {A : Around} (hr : L2H.RoomH k A) : A.units + 1 < cLine := by
  have := hr.un
  omega
theorem pe_callHc (F : L2H.FnH X.prog X.w X.K X.mg X.base CX0 k f fd ps sp) (hr : L2H.RoomH k X.A) (hc : L2H.HotC X) (hg : Gl X x) (hm : X.mg x = some (.ref f)) (hk : PySem.W.keepIn X.K (.ref f) = true) (hb : Binds X.K fd ps [])
    (ha : PA X (e :: es) t) (hdb : (x == ("__debug__" : Str)) = false := by decide) (he : starEach (e :: es) X.env = (false, eval e X.env) :: starEach es X.env := by rfl) (hpl : (backTo pos (starEach es X.env)).any (·.1) = false := by rfl) :
    PE X (.Call (.Name x q) (e :: es) [] pos) (tCall sp [] E0 t) :=
  PE.by (L2H.pe_callH F hr hc hg hm hk hb (E := fun _ => E0) (fun σ => passAt0) ha hdb he hpl) fun σ H Q h => by
    have e1 : (fun (vs : List V) H1 => sp (vs ++ []) H1 Q E0) = fun vs H1 => sp vs H1 Q E0 := by
      funext vs H1
      rw [List.append_nil]
    have h2 : t σ H fun vs H1 => sp (vs ++ []) H1 Q E0 := h
    rw [e1] at h2
    exact h2
theorem pe_methHc {pl : Sem Bool} (he : PE X o ta) (c : Cls X.K C) (hm : Meth X.K C m f) (F : L2H.FnH X.prog X.w X.K X.mg X.base CX0 k f fd ps sp) (hr : L2H.RoomH k X.A) (hc : L2H.HotC X) (hb : Binds X.K fd ps []) (ha : PA X (e :: es) t)
    (hst : starEach (e :: es) X.env = (false, eval e X.env) :: starEach es X.env := by rfl) (hpl : (backTo pos (starEach es X.env)).any (·.1) = false := by rfl)
    (ht : eval (.Call (.Attribute o m apos) (e :: es) [] pos) X.env = (do
      let ov ← eval o X.env
      standAt apos.atName
      let (f, first) ← holding [ov] (getMethod ov m pl)
      callWith pos f first (backTo pos (starEach (e :: es) X.env)) (backToKw pos (keywordEach [] X.env))) := by rfl) :
    PE X (.Call (.Attribute o m apos) (e :: es) [] pos) (tMeth C m sp [] E0 ta t) :=
  PE.by (L2H.pe_methH he c hm F hr hc hb (E := fun _ => E0) (fun σ => passAt0) ha hst hpl ht) fun σ H Q h => by
    have e1 : ∀ x : V, (fun (vs : List V) H1 => sp (x :: (vs ++ [])) H1 Q E0) = fun vs H1 => sp (x :: vs) H1 Q E0 := fun x => by
      funext vs H1
      rw [List.append_nil]
    have h2 : ta σ H fun x H1 => ∃ a dx fs, x = .ref a ∧ H1 a = some (.ins C dx fs) ∧ fs.lookup m = none ∧ t σ H1 fun vs H2 => sp (x :: (vs ++ [])) H2 Q E0 := h
    simp only [e1] at h2
    exact h2
theorem pe_methHc0 {pl : Sem Bool} (he : PE X o ta) (c : Cls X.K C) (hm : Meth X.K C m f) (F : L2H.FnH X.prog X.w X.K X.mg X.base CX0 k f fd ps sp) (hr : L2H.RoomH k X.A) (hc : L2H.HotC X) (hb : Binds X.K fd ps [])
    (ht : eval (.Call (.Attribute o m apos) [] [] pos) X.env = (do let ov ← eval o X.env; standAt apos.atName; let (f, first) ← holding [ov] (getMethod ov m pl); callWith pos f first (backTo pos (starEach [] X.env)) (backToKw pos (keywordEach [] X.env))) := by rfl) :
    PE X (.Call (.Attribute o m apos) [] [] pos) (tMeth C m sp [] E0 ta tNil) := by
  refine ⟨fun pins sh σ H Q inv ask => PySem.W.methodCall_KW (pl := pl) (thn (he.run pins sh σ H _ inv ask) fun u1 s1 hh => ?_) ht⟩
  obtain ⟨x, H1, I1, rx, a, dx, fs, rfl, ea, l, q⟩ := hh
  cases rx
  exact getmeth_ok I1 ea c hm l (PySem.W.callWith_K0 (first := [.ref a]) I1.kIn hm.kp (L2H.run_fnH (us := [.ref a]) (vs := [.ref a]) (E := fun _ => E0) F hr hc hb passAt0 I1 (.cons rfl .nil) q))
end
/-- a def as it is called where an error is handled, which lets none out -/
theorem okH0 {P : Program} {w : World} {K : PySem.W.Frag} {mg : Str → Option Value} {base : Heap} {x qual : Str} {st : Stmt} {f : Addr} {fd : FuncData} {N ps : List Str} {k : Nat} {sp : Sp} (F : Fun K x qual st f fd) (S : FnScope N ps (defScope st)) (len : ∀ vs H Q E, sp vs H Q E → vs.length = ps.length)
    (body : ∀ (cdv : Value) (A : Around) (outer : List Env) (s : Shared) (H : Hp) (vs : List V) (Q : VK) (E : XK) (p : Addr × Obj), L2H.Hot1 A p → L2H.RoomH k (A.deeper (envOfC qual (defScope st) s.heap.objs.size f cdv)) → sp vs H Q E →
      ∃ t, PSs (L2H.cxH CX0 P w K mg base N qual (defScope st) f cdv A outer s H E p).nox (defBody st) t ∧ t { nx := fun _ H' => Q .non H', rt := Q } (L2.start N vs) H) : L2H.FnH P w K mg base CX0 (k + 1) f fd ps sp :=
  okH F S len fun cdv A outer s H vs Q E p hot hr h => by
    obtain ⟨t, ht, q⟩ := body cdv A outer s H vs Q E p hot hr h
    exact ⟨t, ht.nox, q⟩
/-- o.n where the context is not to be seen in what is read -/
theorem pe_fldK {X : Cx} {K' : PySem.W.Frag} {e : Expr} {te : TE} {f : Str} {pos : Pos} (hK : X.K = K') (he : PE X e te) (hb : attributeBase e f X.env (eval e X.env) = eval e X.env) : PE X (.Attribute e f pos) (tFld K' te f) := by
  subst hK
  exact pe_fld he hb
/-! ### except (A, B): without a name -/
theorem flyZ_keeps {B : Heap} {l : List Env} {a : Addr} {Z : Obj → Prop} {h h' : Heap} (R : HandSPX.FlyingZ B l a Z h) (k : ∀ b o, h.get? b = some o → h'.get? b = some o) : HandSPX.FlyingZ B l a Z h' := by
  obtain ⟨f1, f2, f3, oe, ws, T, oT, ts, he, hz, hd, h1, hn, hne, hT, hdT, h3⟩ := R
  exact ⟨fun b o q => k b o (f1 b o q), f2, f3.of_keeps fun b o q _ => ⟨o, k b o q, rfl⟩, oe, ws, T, oT, ts, k _ _ he, hz, hd, h1, hn, hne, k _ _ hT, hdT, h3⟩
theorem exm_pair {K : PySem.W.Frag} {cls c1 c2 : Value} {b1 b2 : Bool} (h1 : PySem.W.exmOne K cls c1 = some b1) (h2 : PySem.W.exmOne K cls c2 = some b2) : PySem.W.exmAny K cls [c1, c2] = some (b1 || b2) := by
  unfold PySem.W.exmAny PySem.W.exmAny PySem.W.exmAny
  rw [h1, h2]
  simp
/-- what the clause 'except (x, y)' wishes of an exception of the body -/
def wPair (K : PySem.W.Frag) (c1 c2 : Value) (ts : Addr → Value → Option Addr → TS) (Wout : WX) (D : Ends) : WX := fun cls d σ H =>
  ∃ b1 b2, PySem.W.exmOne K cls c1 = some b1 ∧ PySem.W.exmOne K cls c2 = some b2 ∧ ((b1 || b2) = true → ∀ a, H a = none → ts a cls d D σ H) ∧ ((b1 || b2) = false → Wout cls d σ H)
section
variable {X : Cx} {x1 x2 : Str} {c1 c2 : Value} {body suite : List Stmt} {b₀ : Stmt} {p1 p2 tpos pos pos' : Pos} {kk : Nat} {tb : WX → TS} {ts : Addr → Value → Option Addr → TS} {Wout : WX}
theorem ps_try_pair (hs : X.stack = X.env :: X.outer) (hf : X.env.frame = some X.env.locals) (hc1 : Names X x1 c1) (hc2 : Names X x2 c2) (tk : L2N.Takes X Wout)
    (hb : ∀ (W : WX) (pn : List (Addr × Obj)) (xe : Value → Shared → Prop), L2N.Takes (X.tr pn xe) W → PassesOwn (model X.prog X.w) X.A X.env xe → PSs (X.tr pn xe) body (tb W))
    (hsu : ∀ (a : Addr) (oe : Obj) (cls : Value) (d : Option Addr) (pn : List (Addr × Obj)), L2N.Zn cls d oe → (∃ vs, oe.data = .fields vs) → PSs (X.suite a ((a, oe) :: pn)) (b₀ :: suite) (ts a cls d)) :
    PS X (.Try body [.ExceptHandler (some (.Tuple [.Name x1 p1, .Name x2 p2] kk tpos)) none (b₀ :: suite) pos'] [] [] pos) (fun D σ H => tb (wPair X.K c1 c2 ts Wout D) D σ H) := by
  refine ⟨fun pins s σ H D I h => ?_⟩
  have ok := I.ok
  have hfr : X.A.frames = some (X.env :: X.outer) := by rw [ok.frames, hs]
  refine wpAny_Try_except ?_
  refine wpAny_mono ((hb (wPair X.K c1 c2 ts Wout D) (X.pn ++ pins) (fun e s₁ => wpAny (model X.prog X.w) X.A (noteFrame e X.env) (fun _ s₂ => wpAny (model X.prog X.w) X.A (setFlight e none) (fun _ s₃ =>
    wpAny (model X.prog X.w) X.A (handleBy e X.env [.ExceptHandler (some (.Tuple [.Name x1 p1, .Name x2 p2] kk tpos)) none (b₀ :: suite) pos']) (SP X pins D) X.xe s₃) X.xe s₂) X.xe s₁) (fun u s' xx => ?_) PassesOwn.looking).run [] s σ H D (I.toTry _) h) (fun f s1 hsp => ?_) (fun e s1 he => he)
  · obtain ⟨a, B, sI, pins', σ', H', cls, d, rfl, J', nb, up, sky, na, os, ag, b1, b2, hb1, hb2, hyes, hno⟩ := xx
    have J : Inv X pins σ' H' sI := J'.ofTry ok
    have sky' : L2.Sky B (X.env :: X.outer) a (L2N.Zn cls d) X.env.locals s'.heap := by rw [← hs]; exact sky
    show wpAny (model X.prog X.w) X.A (noteFrame (.ref a) X.env) _ _ _
    refine L2N.Sky.land L2N.Zn.steady hfr hf sky' fun h3 fl3 up3 => ?_
    have J3 : Inv X pins σ' H' { s' with heap := h3 } := J.landed nb fl3.1 (up.trans up3) os ag
    obtain ⟨oe3, vs3, he3, hz3, hd3⟩ := fl3.there
    have notFr : ∀ {h : Heap} {o : Obj} {vs : Array Value}, h.FunFrames B (X.env :: X.outer) → h.get? a = some o → o.data = .fields vs → a ∉ frs (X.env :: X.outer) := fun {h o vs} ff e dd hm => by
      obtain ⟨_, o', e', hnf⟩ := ff.mem hm
      rw [e] at e'; cases e'
      exact hnf _ dd
    have nfr := notFr fl3.2.2.1 he3 hd3
    have nL : a ≠ X.env.locals := fun z => nfr (List.mem_filterMap.mpr ⟨X.env, List.mem_cons_self, by rw [hf, z]⟩)
    have nF : a ∉ X.fs := fun hm => by
      obtain ⟨e, he, q⟩ := List.mem_filterMap.mp hm
      exact nfr (List.mem_filterMap.mpr ⟨e, List.mem_cons_of_mem _ he, q⟩)
    have S3 := J3.suite he3 hd3 na nL nF
    have test : ∀ {x : Str} {c : Value} {np : Pos} {Q : Value → Shared → Prop} {E : Value → Shared → Prop}, Names X x c → Q c { s' with heap := h3 } → wpAny (model X.prog X.w) (X.A.mark (some (.ref a))) (eval (.Name x np) X.env) Q E { s' with heap := h3 } := fun {x c np Q E} hc q => by
      obtain ⟨hg, hdbg, hm | ⟨hm, hv, hnn⟩⟩ := hc
      · exact ld_glob (X := X.suite a ((a, oe3) :: (X.pn ++ pins))) S3 hg hm q hdbg
      · exact ld_blt (X := X.suite a ((a, oe3) :: (X.pn ++ pins))) S3 hg hm hv q hnn hdbg
    refine wpAny_handleBy_cons (codeAny_handlers_test ?_) (by intro q; cases q)
    refine wpAny_Tuple ?_
    refine wpAny_items_cons (test hc1 ?_)
    refine wpAny_items_cons (test hc2 ?_)
    refine wpAny_items_nil ⟨by show 2 ≤ sizeLine; decide, ?_⟩
    obtain ⟨h5, e5⟩ : ∃ h5 : Heap, h5 = h3.push { cls := .type "tuple", data := .seq [c1, c2].toArray } := ⟨_, rfl⟩
    have kp : ∀ q o, h3.get? q = some o → h5.get? q = some o := fun _ _ z => by rw [e5]; exact Heap.get?_push_of_some _ z
    have tp : h5.get? h3.objs.size = some { cls := .type "tuple", data := .seq [c1, c2].toArray } := by rw [e5]; exact Heap.get?_push_size h3 rfl
    have fl5 := flyZ_keeps fl3 kp
    have up5 := up3.trans (Heap.UpToSlots.of_keeps kp)
    have J5 : Inv X pins σ' H' { s' with heap := h5 } := J.landed nb fl5.1 (up.trans up5) os ag
    have LT : PySem.W.Looks (model X.prog X.w) h5 (typeOf (.ref a)) cls := fun A Q E s k q => wpAny_typeOf_ref (k _ _ (kp _ _ he3)) (by rw [hz3.1]; exact q)
    have LM := PySem.W.exm_tup2 (M := model X.prog X.w) J5.kIn LT tp (exm_pair hb1 hb2)
    show wpAny _ _ (excMatches (.ref a) (.ref h3.objs.size)) _ _ { s' with heap := h3.push { cls := .type "tuple", data := .seq [c1, c2].toArray } }
    rw [← e5]
    refine LM.here ?_
    cases hbb : (b1 || b2) with
    | true =>
      refine codeAny_handlers_suite ?_
      refine HandSPX.lands_againZ fl5 fun h4 fl4 up4 => ?_
      have J4 : Inv X pins σ' H' { s' with heap := h4 } := J.landed nb fl4.1 ((up.trans up5).trans up4) os ag
      obtain ⟨oe4, vs4, he4, hz4, hd4⟩ := fl4.there
      have S4 := J4.suite he4 hd4 na nL nF
      refine wpAny_mono ((hsu a oe4 cls d (X.pn ++ pins) hz4 ⟨_, hd4⟩).run [] _ _ H' _ S4 (hyes hbb a na)) (fun f s6 hsp => ?_) (fun _ _ z => False.elim z)
      cases f with
      | next =>
        obtain ⟨σ6, H6, S6, q6⟩ := hsp
        exact ⟨_, _, S6.unsuite ok, q6⟩
      | brk =>
        obtain ⟨σ6, H6, S6, q6⟩ := hsp
        exact ⟨_, _, S6.unsuite ok, q6⟩
      | cont =>
        obtain ⟨σ6, H6, S6, q6⟩ := hsp
        exact ⟨_, _, S6.unsuite ok, q6⟩
      | ret u =>
        obtain ⟨v6, σ6, H6, S6, r6, q6⟩ := hsp
        exact ⟨_, _, _, S6.unsuite ok, r6, q6⟩
    | false =>
      show wpAny _ X.A (handleBy (.ref a) X.env []) _ _ _
      refine wpAny_handleBy_nil ?_
      obtain ⟨k1, k2, k3, oe, vs, T, oT, ts', he, hz, hd, h1, hr⟩ := id fl5
      unfold PySem.passOn
      refine wpAny_bind (wpAny_field he hd h1 ?_)
      rw [if_neg (show ¬ ((Value.ref T == Value.none) = true) from by simp)]
      have fin : wpAny (model X.prog X.w) X.A (setFlight (.ref a) X.env.frame) (fun _ s4 => wpAny (model X.prog X.w) X.A (throw (.ref a) : Sem Flow) (SP X pins D) X.xe s4) X.xe { s' with heap := h5 } := by
        rw [hf]
        refine HandSPX.setFlight_upZ fl5 fun h4 hh4 up4 => wpAny_throw (tk _ _ ?_)
        exact ⟨a, B, sI, pins, σ', H', cls, d, rfl, J, nb, (up.trans up5).trans up4, .inr (.inr (by rw [hs]; exact hh4)), na, os, ag, hno hbb⟩
      first
        | exact wpAny_bind (wpAny_pure (wpAny_bind fin))
        | exact wpAny_bind fin
  · cases f with
    | next =>
      obtain ⟨σ', H', J', q⟩ := hsp
      exact wpAny_execs_nil ⟨σ', H', J'.ofTry ok, q⟩
    | brk =>
      obtain ⟨σ', H', J', q⟩ := hsp
      exact ⟨σ', H', J'.ofTry ok, q⟩
    | cont =>
      obtain ⟨σ', H', J', q⟩ := hsp
      exact ⟨σ', H', J'.ofTry ok, q⟩
    | ret u =>
      obtain ⟨v, σ', H', J', r, q⟩ := hsp
      exact ⟨v, σ', H', J'.ofTry ok, r, q⟩
end
/-! ### len(d), d locked or not -/
def rDLenR : List V → Hp → VK → Prop := fun vs H Q => ∃ a, vs = [.ref a] ∧ dcRd H a fun kvs => Q (.int kvs.length) H
theorem call_lenDR {X : Cx} : CallR X (.builtin "len") rDLenR := by
  intro pins s σ H xs us Q I r h
  obtain ⟨a, rfl, h⟩ := h
  obtain ⟨kvs, hp, q⟩ := dcRd_get h
  obtain ⟨u, rfl, ru⟩ := vals1 r
  cases ru
  exact d_len I hp fun t s' J => ⟨.int kvs.length, H, J, ⟨t, rfl⟩, q⟩
/-! ### del xs[c:] -/
theorem zip_cut {sel : Nat → Bool} {a : Nat} : ∀ (l : List Value) (k : Nat), (∀ i, k ≤ i → i < k + l.length → sel i = decide (a ≤ i)) → ((l.zipIdx k).filterMap fun x => if sel x.2 then none else some x.1) = l.take (a - k)
  | [], k, _ => by simp
  | x :: l, k, h => by
    rw [List.zipIdx_cons, List.filterMap_cons]
    have h0 := h k (Nat.le_refl _) (by simp)
    have ih := zip_cut l (k + 1) fun i h1 h2 => h i (by omega) (by rw [List.length_cons]; omega)
    by_cases c : a ≤ k
    · simp only [h0, decide_eq_true c, if_true]
      rw [ih, show a - (k + 1) = 0 by omega, show a - k = 0 by omega]
      simp
    · simp only [h0, decide_eq_false c, Bool.false_eq_true, if_false]
      rw [ih, show a - k = (a - (k + 1)) + 1 by omega, List.take_succ_cons]
section
variable {pg : Program} {wd : World} {Ar : Around} {Er : Value → Shared → Prop} {sh : Shared}
theorem tail_bounds {a k : Nat} (h : a ≤ k) : sliceBounds (some (a : Int)) none none k = ((a : Int), (k : Int), 1) := by
  simp only [sliceBounds, Option.getD_none]
  have h1 : ¬ ((a : Int) < 0) := by omega
  simp only [h1, if_false, show (1 : Int) > 0 by decide, if_true]
  congr 1
  omega
theorem del_cut {p c : Addr} {old : Array Value} {e1 a : Nat} {u : Value} {R : Unit → Shared → Prop} (hp : sh.heap.get? p = some { cls := .type "list", data := .seq old e1 }) (hc : sh.heap.IsSliceOf c u .none .none) (hu : IsPart u (some (a : Int))) (ha : a ≤ old.size) (fits : old.size ≤ sizeLine)
    (k : ∀ f : Array Value → Array Value, f old = (old.toList.take a).toArray → R () { sh with heap := sh.heap.update p (Obj.mapSeq f) }) : wpAny (model pg wd) Ar (delItem (.ref p) (.ref c)) R Er sh := by
  have lp := PySem.IsL.isList hp
  obtain ⟨oc, gc, cc, dc⟩ := id hc
  have tc : sh.TypeIs (.ref c) "slice" := ⟨oc, gc, cc⟩
  refine wpAny_delItem_slot lp.typeIs (by decide) F.slot_list_delitem (wpAny_call_entry F.slot_list_delitem lp.typeIs F.entry_list_delitem ?_ (F.args_list_delitem_2 _ _))
  show wpAny _ _ (Builtin.List.listSubscript? (.ref c) >>= _) _ _ sh; refine wpAny_bind ?_
  unfold Builtin.List.listSubscript?; refine wpAny_bind (wpAny_specialOf tc slice_no_index ?_)
  simp only [Option.isNone_none, if_true]; refine wpAny_pure ?_
  show wpAny _ _ (typeOf (.ref c) >>= _) _ _ sh; refine wpAny_bind (wpAny_typeOf tc (PySem.W.KFB.if_not (by decide) ?_))
  rw [listSliceParts_eq]; refine wpAny_bind (wpAny_bind (wpAny_field gc dc (x := .none) rfl (wpAny_bind (wpAny_listPart .none ?_)))); rw [if_neg (show ¬ (rawPart none == rawInt 0) = true from Bool.false_ne_true)]
  refine wpAny_bind (wpAny_field gc dc (x := u) rfl (wpAny_bind (wpAny_listPart hu (wpAny_bind (wpAny_field gc dc (x := .none) rfl (wpAny_bind (wpAny_listPart .none (wpAny_pure ?_))))))))
  unfold Builtin.List.listItems; refine wpAny_bind (wpAny_bind (wpAny_seqItems hp rfl (wpAny_pure ?_)))
  refine wpAny_bind (wpAny_of_eq ((sliceIndices_raw (some (a : Int)) none none old.size (by simp)).trans (congrArg (pure : Int × Int × Int → Sem (Int × Int × Int)) (tail_bounds ha))) ?_)
  have fin : ∀ (f : Array Value → Array Value) (g : List Value), f old = (old.toList.take a).toArray → wpAny (model pg wd) Ar.in1 (do Builtin.List.listUpdate (.ref p) f; letGo g; ret .none) (fun fin s' => ∃ v, fin = Fin.done (Flow.ret v) ∧ R () s') Er sh := fun f g hf => by
    have hz : (f old).size ≤ sizeLine + 1 := by
      rw [hf]
      simp
      omega
    show wpAny _ _ (updateSeq p f >>= _) _ _ sh
    refine wpAny_bind (wpAny_updateSeq (hz := fits) (_hz' := hz) hp rfl (wpAny_bind (wpAny_letGo ?_)))
    exact wpAny_pure ⟨.none, rfl, k _ hf⟩
  refine wpAny_bind (wpAny_rule ?_)
  refine fin _ _ ?_
  refine congrArg List.toArray (zip_cut (a := a) old.toList 0 fun i _ h2 => ?_)
  show (if (1 : Int) > 0 then (decide ((a : Int) ≤ (i : Int)) && decide ((i : Int) < (old.size : Int)) && (((i : Int) - (a : Int)) % 1 == 0)) else _) = _
  rw [if_pos (by decide)]
  have e : (((i : Int) - (a : Int)) % 1 == 0) = true := by simp
  have h3 : (i : Int) < (old.size : Int) := by
    rw [Nat.zero_add, Array.length_toList] at h2
    omega
  rw [e, decide_eq_true h3]
  by_cases c : a ≤ i
  · rw [decide_eq_true c, decide_eq_true (by omega)] <;> rfl
  · rw [decide_eq_false c, decide_eq_false (by omega)] <;> rfl
end
def tDelT (to tc : TE) : TS := fun D σ H => to σ H fun x H1 => tc σ H1 fun y H2 => ∃ (l : Addr) (xs : List V) (c : Nat), x = .ref l ∧ y = .int (c : Int) ∧ H2 l = some (.lst xs) ∧ c ≤ xs.length ∧ D.nx σ (upd H2 l (.lst (xs.take c)))
theorem Vals.take {xs : List V} {us : List Value} (h : Vals xs us) : ∀ n : Nat, Vals (xs.take n) (us.take n) := by
  induction h with
  | nil => intro n; simp; exact .nil
  | cons a b ih =>
    intro n
    cases n with
    | zero => exact .nil
    | succ n => exact .cons a (ih n)
theorem ps_delT {X : Cx} {o i : Expr} {to ti : TE} {p2 tpos pos : Pos} (ho : PE X o to) (hi : PE X i ti) : PS X (.Delete [.Subscript o (.Slice (some i) none none p2) tpos] pos) (tDelT to ti) := by
  refine ⟨fun pins s σ H D I h => ?_⟩
  refine wpAny_Delete (wpAny_deleteEach_cons (wpAny_delete_Subscript (thn (ho.run pins s σ H _ I h) fun u s1 ⟨x, H1, I1, rx, q1⟩ => wpAny_Slice ?_)))
  rw [evalPart_some]
  refine thn (hi.run pins s1 σ H1 _ I1 q1) fun iv s2 ⟨y, H2, I2, ry, l, xs, c, ex, ey, hH, hc, q⟩ => ?_
  subst ex
  subst ey
  cases (show u = Value.ref l from rx)
  obtain ⟨t, rfl⟩ := (show ∃ t, iv = Value.int (c : Int) t from ry)
  rw [evalPart_none]
  refine wpAny_pure (wpAny_pure ?_)
  have I4 : Inv X pins σ H2 { s2 with heap := s2.heap.push { cls := .type "slice", data := .fields #[.int (c : Int) t, .none, .none] } } := I2.kept (t' := s2.toks) fun b ob q => Heap.get?_push_of_some _ q
  obtain ⟨hz, its, n, rv, hl, e⟩ := I4.lstM hH
  refine del_cut e (Heap.IsSliceOf.new ..) (a := c) ?_ (by rw [List.size_toArray]; omega) (by rw [List.size_toArray]; omega) fun f hf => wpAny_deleteEach_nil ⟨σ, _, I4.lset (its' := its.take c) (t' := s2.toks) hH e ?_ (rv.take c) ?_, q⟩
  · exact .int _ _
  · rw [hf]
  · rw [List.length_take]
    omega

structure Ad where
  C_SaggarError : Addr
  C_NoRoom : Addr
  C_NoNumber : Addr
  C_Wrong : Addr
  C_Store : Addr
  C_Space : Addr
  f_NoRoom___init__ : Addr
  d_NoRoom___init__ : FuncData
  f_NoNumber___init__ : Addr
  d_NoNumber___init__ : FuncData
  f_Wrong___init__ : Addr
  d_Wrong___init__ : FuncData
  f_is_ref : Addr
  d_is_ref : FuncData
  f_Store___init__ : Addr
  d_Store___init__ : FuncData
  f_Store_used : Addr
  d_Store_used : FuncData
  f_Store_exists : Addr
  d_Store_exists : FuncData
  f_Store_numbers : Addr
  d_Store_numbers : FuncData
  f_Store_free_number : Addr
  d_Store_free_number : FuncData
  f_Store_allocate : Addr
  d_Store_allocate : FuncData
  f_Store_size : Addr
  d_Store_size : FuncData
  f_Store_kind : Addr
  d_Store_kind : FuncData
  f_Store_set_kind : Addr
  d_Store_set_kind : FuncData
  f_Store_get : Addr
  d_Store_get : FuncData
  f_Store_put : Addr
  d_Store_put : FuncData
  f_Store_slots : Addr
  d_Store_slots : FuncData
  f_Store_drop : Addr
  d_Store_drop : FuncData
  f_Store_close_up : Addr
  d_Store_close_up : FuncData
  f_Store_snapshot : Addr
  d_Store_snapshot : FuncData
  f_Store_restore : Addr
  d_Store_restore : FuncData
  f_Store_exchange : Addr
  d_Store_exchange : FuncData
  f_reached : Addr
  d_reached : FuncData
  f_words_of : Addr
  d_words_of : FuncData
  f_collect : Addr
  d_collect : FuncData
  f_Space___init__ : Addr
  d_Space___init__ : FuncData
  f_Space_press : Addr
  d_Space_press : FuncData
  f_Space_root : Addr
  d_Space_root : FuncData
  f_Space_set_root : Addr
  d_Space_set_root : FuncData
  f_Space_hold : Addr
  d_Space_hold : FuncData
  f_Space_drop : Addr
  d_Space_drop : FuncData
  f_Space_held : Addr
  d_Space_held : FuncData
  f_Space_all_roots : Addr
  d_Space_all_roots : FuncData
  f_Space_collect : Addr
  d_Space_collect : FuncData
  f_Space_live_words : Addr
  d_Space_live_words : FuncData
  f_Space_new : Addr
  d_Space_new : FuncData
  f_Space_begin : Addr
  d_Space_begin : FuncData
  f_Space_commit : Addr
  d_Space_commit : FuncData
  f_Space_abort : Addr
  d_Space_abort : FuncData
  f_Space__collect_beside : Addr
  d_Space__collect_beside : FuncData
  f__law_number : Addr
  d__law_number : FuncData
  f__law_deeds : Addr
  d__law_deeds : FuncData
  f__law_place : Addr
  d__law_place : FuncData
  f__law_word : Addr
  d__law_word : FuncData
  f__law_shown : Addr
  d__law_shown : FuncData
  f__law_new : Addr
  d__law_new : FuncData
  f__law_held : Addr
  d__law_held : FuncData
  f__law_changed : Addr
  d__law_changed : FuncData
  f__law_work : Addr
  d__law_work : FuncData
  f__law_done : Addr
  d__law_done : FuncData
  f__law_equal : Addr
  d__law_equal : FuncData
  f__law_paired : Addr
  d__law_paired : FuncData
  f__law_alike : Addr
  d__law_alike : FuncData
  f__law_row : Addr
  d__law_row : FuncData
  f__law_state : Addr
  d__law_state : FuncData
  f__law_collected : Addr
  d__law_collected : FuncData
  f__law_both : Addr
  d__law_both : FuncData
  f__law_begun : Addr
  d__law_begun : FuncData
  f__law_grown : Addr
  d__law_grown : FuncData
  f__law_first : Addr
  d__law_first : FuncData
  f__law_undone : Addr
  d__law_undone : FuncData
  f__law_pressed : Addr
  d__law_pressed : FuncData
  f__law_limits : Addr
  d__law_limits : FuncData
  f_law : Addr
  d_law : FuncData
  t_NIL : Tok
  t_HEADER : Tok
  t_ROOTS : Tok
structure Txt (K : PySem.W.Frag) (mg : Str → Option Value) (A : Ad) : Prop where
  m_SaggarError : mg "SaggarError" = some (.ref A.C_SaggarError)
  m_NoRoom : mg "NoRoom" = some (.ref A.C_NoRoom)
  x_NoRoom : ExF K A.C_NoRoom A.f_NoRoom___init__
  no_NoRoom_need : PySem.W.findIn K (.ref A.C_NoRoom) "need" = some none
  ex_NoRoom_NoNumber : PySem.W.exmOne K (.ref A.C_NoRoom) (.ref A.C_NoNumber) = some false
  ex_NoRoom_NoRoom : PySem.W.exmOne K (.ref A.C_NoRoom) (.ref A.C_NoRoom) = some true
  ex_NoRoom_SaggarError : PySem.W.exmOne K (.ref A.C_NoRoom) (.ref A.C_SaggarError) = some true
  ex_NoRoom_Wrong : PySem.W.exmOne K (.ref A.C_NoRoom) (.ref A.C_Wrong) = some false
  kit_NoRoom_Wrong : PySem.W.kitOne K (.ref A.C_NoRoom) (.ref A.C_Wrong) = some false
  m_NoNumber : mg "NoNumber" = some (.ref A.C_NoNumber)
  x_NoNumber : ExF K A.C_NoNumber A.f_NoNumber___init__
  no_NoNumber_limit : PySem.W.findIn K (.ref A.C_NoNumber) "limit" = some none
  ex_NoNumber_NoNumber : PySem.W.exmOne K (.ref A.C_NoNumber) (.ref A.C_NoNumber) = some true
  ex_NoNumber_NoRoom : PySem.W.exmOne K (.ref A.C_NoNumber) (.ref A.C_NoRoom) = some false
  ex_NoNumber_SaggarError : PySem.W.exmOne K (.ref A.C_NoNumber) (.ref A.C_SaggarError) = some true
  ex_NoNumber_Wrong : PySem.W.exmOne K (.ref A.C_NoNumber) (.ref A.C_Wrong) = some false
  kit_NoNumber_Wrong : PySem.W.kitOne K (.ref A.C_NoNumber) (.ref A.C_Wrong) = some false
  m_Wrong : mg "Wrong" = some (.ref A.C_Wrong)
  x_Wrong : ExF K A.C_Wrong A.f_Wrong___init__
  no_Wrong_why : PySem.W.findIn K (.ref A.C_Wrong) "why" = some none
  ex_Wrong_NoNumber : PySem.W.exmOne K (.ref A.C_Wrong) (.ref A.C_NoNumber) = some false
  ex_Wrong_NoRoom : PySem.W.exmOne K (.ref A.C_Wrong) (.ref A.C_NoRoom) = some false
  ex_Wrong_SaggarError : PySem.W.exmOne K (.ref A.C_Wrong) (.ref A.C_SaggarError) = some true
  ex_Wrong_Wrong : PySem.W.exmOne K (.ref A.C_Wrong) (.ref A.C_Wrong) = some true
  kit_Wrong_Wrong : PySem.W.kitOne K (.ref A.C_Wrong) (.ref A.C_Wrong) = some true
  m_Store : mg "Store" = some (.ref A.C_Store)
  cl_Store : Cls K A.C_Store
  mk_Store : Mk K A.C_Store A.f_Store___init__
  no_Store_room : NoAttr K A.C_Store "room"
  no_Store_entries : NoAttr K A.C_Store "entries"
  no_Store_words : NoAttr K A.C_Store "words"
  no_Store__places : NoAttr K A.C_Store "_places"
  no_Store__free : NoAttr K A.C_Store "_free"
  no_Store__fresh : NoAttr K A.C_Store "_fresh"
  m_Space : mg "Space" = some (.ref A.C_Space)
  cl_Space : Cls K A.C_Space
  mk_Space : Mk K A.C_Space A.f_Space___init__
  no_Space_store : NoAttr K A.C_Space "store"
  no_Space_always : NoAttr K A.C_Space "always"
  no_Space_pressure : NoAttr K A.C_Space "pressure"
  no_Space_allocations : NoAttr K A.C_Space "allocations"
  no_Space_collections : NoAttr K A.C_Space "collections"
  no_Space__roots : NoAttr K A.C_Space "_roots"
  no_Space__held : NoAttr K A.C_Space "_held"
  no_Space__moments : NoAttr K A.C_Space "_moments"
  no_Space__work : NoAttr K A.C_Space "_work"
  k_NoRoom___init__ : PySem.W.keepIn K (.ref A.f_NoRoom___init__) = true
  F_NoRoom___init__ : Fun K "__init__" "NoRoom.__init__" s_NoRoom___init__ A.f_NoRoom___init__ A.d_NoRoom___init__
  b_NoRoom___init__ : Binds K A.d_NoRoom___init__ ["self", "need"] []
  k_NoNumber___init__ : PySem.W.keepIn K (.ref A.f_NoNumber___init__) = true
  F_NoNumber___init__ : Fun K "__init__" "NoNumber.__init__" s_NoNumber___init__ A.f_NoNumber___init__ A.d_NoNumber___init__
  b_NoNumber___init__ : Binds K A.d_NoNumber___init__ ["self", "limit"] []
  k_Wrong___init__ : PySem.W.keepIn K (.ref A.f_Wrong___init__) = true
  F_Wrong___init__ : Fun K "__init__" "Wrong.__init__" s_Wrong___init__ A.f_Wrong___init__ A.d_Wrong___init__
  b_Wrong___init__ : Binds K A.d_Wrong___init__ ["self", "why"] []
  g_is_ref : mg "is_ref" = some (.ref A.f_is_ref)
  k_is_ref : PySem.W.keepIn K (.ref A.f_is_ref) = true
  F_is_ref : Fun K "is_ref" "is_ref" s_is_ref A.f_is_ref A.d_is_ref
  b_is_ref : Binds K A.d_is_ref ["word"] []
  k_Store___init__ : PySem.W.keepIn K (.ref A.f_Store___init__) = true
  F_Store___init__ : Fun K "__init__" "Store.__init__" s_Store___init__ A.f_Store___init__ A.d_Store___init__
  b_Store___init__ : Binds K A.d_Store___init__ ["self", "room", "entries"] []
  me_Store_used : Meth K A.C_Store "used" A.f_Store_used
  k_Store_used : PySem.W.keepIn K (.ref A.f_Store_used) = true
  F_Store_used : Fun K "used" "Store.used" s_Store_used A.f_Store_used A.d_Store_used
  b_Store_used : Binds K A.d_Store_used ["self"] []
  me_Store_exists : Meth K A.C_Store "exists" A.f_Store_exists
  k_Store_exists : PySem.W.keepIn K (.ref A.f_Store_exists) = true
  F_Store_exists : Fun K "exists" "Store.exists" s_Store_exists A.f_Store_exists A.d_Store_exists
  b_Store_exists : Binds K A.d_Store_exists ["self", "number"] []
  me_Store_numbers : Meth K A.C_Store "numbers" A.f_Store_numbers
  k_Store_numbers : PySem.W.keepIn K (.ref A.f_Store_numbers) = true
  F_Store_numbers : Fun K "numbers" "Store.numbers" s_Store_numbers A.f_Store_numbers A.d_Store_numbers
  b_Store_numbers : Binds K A.d_Store_numbers ["self"] []
  me_Store_free_number : Meth K A.C_Store "free_number" A.f_Store_free_number
  k_Store_free_number : PySem.W.keepIn K (.ref A.f_Store_free_number) = true
  F_Store_free_number : Fun K "free_number" "Store.free_number" s_Store_free_number A.f_Store_free_number A.d_Store_free_number
  b_Store_free_number : Binds K A.d_Store_free_number ["self"] []
  me_Store_allocate : Meth K A.C_Store "allocate" A.f_Store_allocate
  k_Store_allocate : PySem.W.keepIn K (.ref A.f_Store_allocate) = true
  F_Store_allocate : Fun K "allocate" "Store.allocate" s_Store_allocate A.f_Store_allocate A.d_Store_allocate
  b_Store_allocate : Binds K A.d_Store_allocate ["self", "kind", "size"] []
  me_Store_size : Meth K A.C_Store "size" A.f_Store_size
  k_Store_size : PySem.W.keepIn K (.ref A.f_Store_size) = true
  F_Store_size : Fun K "size" "Store.size" s_Store_size A.f_Store_size A.d_Store_size
  b_Store_size : Binds K A.d_Store_size ["self", "number"] []
  me_Store_kind : Meth K A.C_Store "kind" A.f_Store_kind
  k_Store_kind : PySem.W.keepIn K (.ref A.f_Store_kind) = true
  F_Store_kind : Fun K "kind" "Store.kind" s_Store_kind A.f_Store_kind A.d_Store_kind
  b_Store_kind : Binds K A.d_Store_kind ["self", "number"] []
  me_Store_set_kind : Meth K A.C_Store "set_kind" A.f_Store_set_kind
  k_Store_set_kind : PySem.W.keepIn K (.ref A.f_Store_set_kind) = true
  F_Store_set_kind : Fun K "set_kind" "Store.set_kind" s_Store_set_kind A.f_Store_set_kind A.d_Store_set_kind
  b_Store_set_kind : Binds K A.d_Store_set_kind ["self", "number", "word"] []
  me_Store_get : Meth K A.C_Store "get" A.f_Store_get
  k_Store_get : PySem.W.keepIn K (.ref A.f_Store_get) = true
  F_Store_get : Fun K "get" "Store.get" s_Store_get A.f_Store_get A.d_Store_get
  b_Store_get : Binds K A.d_Store_get ["self", "number", "at"] []
  me_Store_put : Meth K A.C_Store "put" A.f_Store_put
  k_Store_put : PySem.W.keepIn K (.ref A.f_Store_put) = true
  F_Store_put : Fun K "put" "Store.put" s_Store_put A.f_Store_put A.d_Store_put
  b_Store_put : Binds K A.d_Store_put ["self", "number", "at", "word"] []
  me_Store_slots : Meth K A.C_Store "slots" A.f_Store_slots
  k_Store_slots : PySem.W.keepIn K (.ref A.f_Store_slots) = true
  F_Store_slots : Fun K "slots" "Store.slots" s_Store_slots A.f_Store_slots A.d_Store_slots
  b_Store_slots : Binds K A.d_Store_slots ["self", "number"] []
  me_Store_drop : Meth K A.C_Store "drop" A.f_Store_drop
  k_Store_drop : PySem.W.keepIn K (.ref A.f_Store_drop) = true
  F_Store_drop : Fun K "drop" "Store.drop" s_Store_drop A.f_Store_drop A.d_Store_drop
  b_Store_drop : Binds K A.d_Store_drop ["self", "number"] []
  me_Store_close_up : Meth K A.C_Store "close_up" A.f_Store_close_up
  k_Store_close_up : PySem.W.keepIn K (.ref A.f_Store_close_up) = true
  F_Store_close_up : Fun K "close_up" "Store.close_up" s_Store_close_up A.f_Store_close_up A.d_Store_close_up
  b_Store_close_up : Binds K A.d_Store_close_up ["self"] []
  me_Store_snapshot : Meth K A.C_Store "snapshot" A.f_Store_snapshot
  k_Store_snapshot : PySem.W.keepIn K (.ref A.f_Store_snapshot) = true
  F_Store_snapshot : Fun K "snapshot" "Store.snapshot" s_Store_snapshot A.f_Store_snapshot A.d_Store_snapshot
  b_Store_snapshot : Binds K A.d_Store_snapshot ["self"] []
  me_Store_restore : Meth K A.C_Store "restore" A.f_Store_restore
  k_Store_restore : PySem.W.keepIn K (.ref A.f_Store_restore) = true
  F_Store_restore : Fun K "restore" "Store.restore" s_Store_restore A.f_Store_restore A.d_Store_restore
  b_Store_restore : Binds K A.d_Store_restore ["self", "snapshot"] []
  me_Store_exchange : Meth K A.C_Store "exchange" A.f_Store_exchange
  k_Store_exchange : PySem.W.keepIn K (.ref A.f_Store_exchange) = true
  F_Store_exchange : Fun K "exchange" "Store.exchange" s_Store_exchange A.f_Store_exchange A.d_Store_exchange
  b_Store_exchange : Binds K A.d_Store_exchange ["self", "first", "second"] []
  g_reached : mg "reached" = some (.ref A.f_reached)
  k_reached : PySem.W.keepIn K (.ref A.f_reached) = true
  F_reached : Fun K "reached" "reached" s_reached A.f_reached A.d_reached
  b_reached : Binds K A.d_reached ["store", "roots"] []
  g_words_of : mg "words_of" = some (.ref A.f_words_of)
  k_words_of : PySem.W.keepIn K (.ref A.f_words_of) = true
  F_words_of : Fun K "words_of" "words_of" s_words_of A.f_words_of A.d_words_of
  b_words_of : Binds K A.d_words_of ["store", "numbers"] []
  g_collect : mg "collect" = some (.ref A.f_collect)
  k_collect : PySem.W.keepIn K (.ref A.f_collect) = true
  F_collect : Fun K "collect" "collect" s_collect A.f_collect A.d_collect
  b_collect : Binds K A.d_collect ["store", "roots"] []
  k_Space___init__ : PySem.W.keepIn K (.ref A.f_Space___init__) = true
  F_Space___init__ : Fun K "__init__" "Space.__init__" s_Space___init__ A.f_Space___init__ A.d_Space___init__
  b_Space___init__ : Binds K A.d_Space___init__ ["self", "room", "entries"] []
  me_Space_press : Meth K A.C_Space "press" A.f_Space_press
  k_Space_press : PySem.W.keepIn K (.ref A.f_Space_press) = true
  F_Space_press : FunD K "press" "Space.press" (defArgs s_Space_press) (defBody s_Space_press) (defScope s_Space_press) [] [("always", .bl false)] A.f_Space_press A.d_Space_press
  kb_Space_press : KBn K A.d_Space_press ["self", "moments", "always"] 2 ["always"] (fun us ws => us ++ ws) (fun vs zs => vs ++ zs)
  bd_Space_press : ∃ ds, Vals [.bl false] ds ∧ Binds K A.d_Space_press ["self", "moments", "always"] ds
  me_Space_root : Meth K A.C_Space "root" A.f_Space_root
  k_Space_root : PySem.W.keepIn K (.ref A.f_Space_root) = true
  F_Space_root : Fun K "root" "Space.root" s_Space_root A.f_Space_root A.d_Space_root
  b_Space_root : Binds K A.d_Space_root ["self", "k"] []
  me_Space_set_root : Meth K A.C_Space "set_root" A.f_Space_set_root
  k_Space_set_root : PySem.W.keepIn K (.ref A.f_Space_set_root) = true
  F_Space_set_root : Fun K "set_root" "Space.set_root" s_Space_set_root A.f_Space_set_root A.d_Space_set_root
  b_Space_set_root : Binds K A.d_Space_set_root ["self", "k", "word"] []
  me_Space_hold : Meth K A.C_Space "hold" A.f_Space_hold
  k_Space_hold : PySem.W.keepIn K (.ref A.f_Space_hold) = true
  F_Space_hold : Fun K "hold" "Space.hold" s_Space_hold A.f_Space_hold A.d_Space_hold
  b_Space_hold : Binds K A.d_Space_hold ["self", "word"] []
  me_Space_drop : Meth K A.C_Space "drop" A.f_Space_drop
  k_Space_drop : PySem.W.keepIn K (.ref A.f_Space_drop) = true
  F_Space_drop : Fun K "drop" "Space.drop" s_Space_drop A.f_Space_drop A.d_Space_drop
  b_Space_drop : Binds K A.d_Space_drop ["self", "count"] []
  me_Space_held : Meth K A.C_Space "held" A.f_Space_held
  k_Space_held : PySem.W.keepIn K (.ref A.f_Space_held) = true
  F_Space_held : Fun K "held" "Space.held" s_Space_held A.f_Space_held A.d_Space_held
  b_Space_held : Binds K A.d_Space_held ["self"] []
  me_Space_all_roots : Meth K A.C_Space "all_roots" A.f_Space_all_roots
  k_Space_all_roots : PySem.W.keepIn K (.ref A.f_Space_all_roots) = true
  F_Space_all_roots : Fun K "all_roots" "Space.all_roots" s_Space_all_roots A.f_Space_all_roots A.d_Space_all_roots
  b_Space_all_roots : Binds K A.d_Space_all_roots ["self"] []
  me_Space_collect : Meth K A.C_Space "collect" A.f_Space_collect
  k_Space_collect : PySem.W.keepIn K (.ref A.f_Space_collect) = true
  F_Space_collect : Fun K "collect" "Space.collect" s_Space_collect A.f_Space_collect A.d_Space_collect
  b_Space_collect : Binds K A.d_Space_collect ["self"] []
  me_Space_live_words : Meth K A.C_Space "live_words" A.f_Space_live_words
  k_Space_live_words : PySem.W.keepIn K (.ref A.f_Space_live_words) = true
  F_Space_live_words : Fun K "live_words" "Space.live_words" s_Space_live_words A.f_Space_live_words A.d_Space_live_words
  b_Space_live_words : Binds K A.d_Space_live_words ["self"] []
  me_Space_new : Meth K A.C_Space "new" A.f_Space_new
  k_Space_new : PySem.W.keepIn K (.ref A.f_Space_new) = true
  F_Space_new : Fun K "new" "Space.new" s_Space_new A.f_Space_new A.d_Space_new
  b_Space_new : Binds K A.d_Space_new ["self", "kind", "size"] []
  me_Space_begin : Meth K A.C_Space "begin" A.f_Space_begin
  k_Space_begin : PySem.W.keepIn K (.ref A.f_Space_begin) = true
  F_Space_begin : Fun K "begin" "Space.begin" s_Space_begin A.f_Space_begin A.d_Space_begin
  b_Space_begin : Binds K A.d_Space_begin ["self"] []
  me_Space_commit : Meth K A.C_Space "commit" A.f_Space_commit
  k_Space_commit : PySem.W.keepIn K (.ref A.f_Space_commit) = true
  F_Space_commit : Fun K "commit" "Space.commit" s_Space_commit A.f_Space_commit A.d_Space_commit
  b_Space_commit : Binds K A.d_Space_commit ["self"] []
  me_Space_abort : Meth K A.C_Space "abort" A.f_Space_abort
  k_Space_abort : PySem.W.keepIn K (.ref A.f_Space_abort) = true
  F_Space_abort : Fun K "abort" "Space.abort" s_Space_abort A.f_Space_abort A.d_Space_abort
  b_Space_abort : Binds K A.d_Space_abort ["self"] []
  me_Space__collect_beside : Meth K A.C_Space "_collect_beside" A.f_Space__collect_beside
  k_Space__collect_beside : PySem.W.keepIn K (.ref A.f_Space__collect_beside) = true
  F_Space__collect_beside : Fun K "_collect_beside" "Space._collect_beside" s_Space__collect_beside A.f_Space__collect_beside A.d_Space__collect_beside
  b_Space__collect_beside : Binds K A.d_Space__collect_beside ["self", "words"] []
  g__law_number : mg "_law_number" = some (.ref A.f__law_number)
  k__law_number : PySem.W.keepIn K (.ref A.f__law_number) = true
  F__law_number : Fun K "_law_number" "_law_number" s__law_number A.f__law_number A.d__law_number
  b__law_number : Binds K A.d__law_number ["cell", "k"] []
  g__law_deeds : mg "_law_deeds" = some (.ref A.f__law_deeds)
  k__law_deeds : PySem.W.keepIn K (.ref A.f__law_deeds) = true
  F__law_deeds : Fun K "_law_deeds" "_law_deeds" s__law_deeds A.f__law_deeds A.d__law_deeds
  b__law_deeds : Binds K A.d__law_deeds ["cell", "k"] []
  g__law_place : mg "_law_place" = some (.ref A.f__law_place)
  k__law_place : PySem.W.keepIn K (.ref A.f__law_place) = true
  F__law_place : Fun K "_law_place" "_law_place" s__law_place A.f__law_place A.d__law_place
  b__law_place : Binds K A.d__law_place ["x"] []
  g__law_word : mg "_law_word" = some (.ref A.f__law_word)
  k__law_word : PySem.W.keepIn K (.ref A.f__law_word) = true
  F__law_word : Fun K "_law_word" "_law_word" s__law_word A.f__law_word A.d__law_word
  b__law_word : Binds K A.d__law_word ["space", "x"] []
  g__law_shown : mg "_law_shown" = some (.ref A.f__law_shown)
  k__law_shown : PySem.W.keepIn K (.ref A.f__law_shown) = true
  F__law_shown : Fun K "_law_shown" "_law_shown" s__law_shown A.f__law_shown A.d__law_shown
  b__law_shown : Binds K A.d__law_shown ["word"] []
  g__law_new : mg "_law_new" = some (.ref A.f__law_new)
  k__law_new : PySem.W.keepIn K (.ref A.f__law_new) = true
  F__law_new : Fun K "_law_new" "_law_new" s__law_new A.f__law_new A.d__law_new
  b__law_new : Binds K A.d__law_new ["space", "kind", "size", "place"] []
  g__law_held : mg "_law_held" = some (.ref A.f__law_held)
  k__law_held : PySem.W.keepIn K (.ref A.f__law_held) = true
  F__law_held : Fun K "_law_held" "_law_held" s__law_held A.f__law_held A.d__law_held
  b__law_held : Binds K A.d__law_held ["space", "deed", "place", "rest"] []
  g__law_changed : mg "_law_changed" = some (.ref A.f__law_changed)
  k__law_changed : PySem.W.keepIn K (.ref A.f__law_changed) = true
  F__law_changed : Fun K "_law_changed" "_law_changed" s__law_changed A.f__law_changed A.d__law_changed
  b__law_changed : Binds K A.d__law_changed ["space", "deed", "place", "rest"] []
  g__law_work : mg "_law_work" = some (.ref A.f__law_work)
  k__law_work : PySem.W.keepIn K (.ref A.f__law_work) = true
  F__law_work : Fun K "_law_work" "_law_work" s__law_work A.f__law_work A.d__law_work
  b__law_work : Binds K A.d__law_work ["space", "deed"] []
  g__law_done : mg "_law_done" = some (.ref A.f__law_done)
  k__law_done : PySem.W.keepIn K (.ref A.f__law_done) = true
  F__law_done : Fun K "_law_done" "_law_done" s__law_done A.f__law_done A.d__law_done
  b__law_done : Binds K A.d__law_done ["space", "x"] []
  g__law_equal : mg "_law_equal" = some (.ref A.f__law_equal)
  k__law_equal : PySem.W.keepIn K (.ref A.f__law_equal) = true
  F__law_equal : Fun K "_law_equal" "_law_equal" s__law_equal A.f__law_equal A.d__law_equal
  b__law_equal : Binds K A.d__law_equal ["told", "due"] []
  g__law_paired : mg "_law_paired" = some (.ref A.f__law_paired)
  k__law_paired : PySem.W.keepIn K (.ref A.f__law_paired) = true
  F__law_paired : Fun K "_law_paired" "_law_paired" s__law_paired A.f__law_paired A.d__law_paired
  b__law_paired : Binds K A.d__law_paired ["one", "other", "first", "second", "there", "back"] []
  g__law_alike : mg "_law_alike" = some (.ref A.f__law_alike)
  k__law_alike : PySem.W.keepIn K (.ref A.f__law_alike) = true
  F__law_alike : Fun K "_law_alike" "_law_alike" s__law_alike A.f__law_alike A.d__law_alike
  b__law_alike : Binds K A.d__law_alike ["one", "other"] []
  g__law_row : mg "_law_row" = some (.ref A.f__law_row)
  k__law_row : PySem.W.keepIn K (.ref A.f__law_row) = true
  F__law_row : Fun K "_law_row" "_law_row" s__law_row A.f__law_row A.d__law_row
  b__law_row : Binds K A.d__law_row ["space", "number"] []
  g__law_state : mg "_law_state" = some (.ref A.f__law_state)
  k__law_state : PySem.W.keepIn K (.ref A.f__law_state) = true
  F__law_state : Fun K "_law_state" "_law_state" s__law_state A.f__law_state A.d__law_state
  b__law_state : Binds K A.d__law_state ["space"] []
  g__law_collected : mg "_law_collected" = some (.ref A.f__law_collected)
  k__law_collected : PySem.W.keepIn K (.ref A.f__law_collected) = true
  F__law_collected : Fun K "_law_collected" "_law_collected" s__law_collected A.f__law_collected A.d__law_collected
  b__law_collected : Binds K A.d__law_collected ["space"] []
  g__law_both : mg "_law_both" = some (.ref A.f__law_both)
  k__law_both : PySem.W.keepIn K (.ref A.f__law_both) = true
  F__law_both : Fun K "_law_both" "_law_both" s__law_both A.f__law_both A.d__law_both
  b__law_both : Binds K A.d__law_both ["space", "x"] []
  g__law_begun : mg "_law_begun" = some (.ref A.f__law_begun)
  k__law_begun : PySem.W.keepIn K (.ref A.f__law_begun) = true
  F__law_begun : Fun K "_law_begun" "_law_begun" s__law_begun A.f__law_begun A.d__law_begun
  b__law_begun : Binds K A.d__law_begun ["space", "before", "told"] []
  g__law_grown : mg "_law_grown" = some (.ref A.f__law_grown)
  k__law_grown : PySem.W.keepIn K (.ref A.f__law_grown) = true
  F__law_grown : Fun K "_law_grown" "_law_grown" s__law_grown A.f__law_grown A.d__law_grown
  b__law_grown : Binds K A.d__law_grown ["space", "limits", "before", "x", "told"] []
  g__law_first : mg "_law_first" = some (.ref A.f__law_first)
  k__law_first : PySem.W.keepIn K (.ref A.f__law_first) = true
  F__law_first : Fun K "_law_first" "_law_first" s__law_first A.f__law_first A.d__law_first
  b__law_first : Binds K A.d__law_first ["space", "limits", "saved", "x"] []
  g__law_undone : mg "_law_undone" = some (.ref A.f__law_undone)
  k__law_undone : PySem.W.keepIn K (.ref A.f__law_undone) = true
  F__law_undone : Fun K "_law_undone" "_law_undone" s__law_undone A.f__law_undone A.d__law_undone
  b__law_undone : Binds K A.d__law_undone ["deeds"] []
  g__law_pressed : mg "_law_pressed" = some (.ref A.f__law_pressed)
  k__law_pressed : PySem.W.keepIn K (.ref A.f__law_pressed) = true
  F__law_pressed : Fun K "_law_pressed" "_law_pressed" s__law_pressed A.f__law_pressed A.d__law_pressed
  b__law_pressed : Binds K A.d__law_pressed ["space", "cell", "k"] []
  g__law_limits : mg "_law_limits" = some (.ref A.f__law_limits)
  k__law_limits : PySem.W.keepIn K (.ref A.f__law_limits) = true
  F__law_limits : Fun K "_law_limits" "_law_limits" s__law_limits A.f__law_limits A.d__law_limits
  b__law_limits : Binds K A.d__law_limits ["cell"] []
  g_law : mg "law" = some (.ref A.f_law)
  k_law : PySem.W.keepIn K (.ref A.f_law) = true
  F_law : Fun K "law" "law" s_law A.f_law A.d_law
  b_law : Binds K A.d_law ["script"] []
  c_NIL : mg "NIL" = some (.int (0) A.t_NIL)
  c_HEADER : mg "HEADER" = some (.int (3) A.t_HEADER)
  c_ROOTS : mg "ROOTS" = some (.int (16) A.t_ROOTS)
  al_collect_collecting : mg "collect_collecting" = some (.ref A.f_collect)
  z_ValueError : mg "ValueError" = none
  z_bool : mg "bool" = none
  z_int : mg "int" = none
  z_isinstance : mg "isinstance" = none
  z_len : mg "len" = none
  z_list : mg "list" = none
  z_range : mg "range" = none
  z_sorted : mg "sorted" = none
  z_sum : mg "sum" = none
  h_heappop : mg "heappop" = some (.builtin "_heapq.heappop")
  h_heappush : mg "heappush" = some (.builtin "_heapq.heappush")

theorem exf_NoRoom {K : PySem.W.Frag} {mg : Str → Option Value} {A : Ad} (T : Txt K mg A) : (∃ x, ExF K A.C_NoRoom x) = True := tt_true ⟨_, T.x_NoRoom⟩
theorem exf_NoNumber {K : PySem.W.Frag} {mg : Str → Option Value} {A : Ad} (T : Txt K mg A) : (∃ x, ExF K A.C_NoNumber x) = True := tt_true ⟨_, T.x_NoNumber⟩
theorem exf_Wrong {K : PySem.W.Frag} {mg : Str → Option Value} {A : Ad} (T : Txt K mg A) : (∃ x, ExF K A.C_Wrong x) = True := tt_true ⟨_, T.x_Wrong⟩
theorem sne_Store_room_entries : ((Str.ofString "room") = Str.ofString "entries") = False := eq_false (by decide)
theorem sne_Store_room_words : ((Str.ofString "room") = Str.ofString "words") = False := eq_false (by decide)
theorem sne_Store_entries_words : ((Str.ofString "entries") = Str.ofString "words") = False := eq_false (by decide)
theorem sne_Store_room__places : ((Str.ofString "room") = Str.ofString "_places") = False := eq_false (by decide)
theorem sne_Store_entries__places : ((Str.ofString "entries") = Str.ofString "_places") = False := eq_false (by decide)
theorem sne_Store_words__places : ((Str.ofString "words") = Str.ofString "_places") = False := eq_false (by decide)
theorem sne_Store_room__free : ((Str.ofString "room") = Str.ofString "_free") = False := eq_false (by decide)
theorem sne_Store_entries__free : ((Str.ofString "entries") = Str.ofString "_free") = False := eq_false (by decide)
theorem sne_Store_words__free : ((Str.ofString "words") = Str.ofString "_free") = False := eq_false (by decide)
theorem sne_Store__places__free : ((Str.ofString "_places") = Str.ofString "_free") = False := eq_false (by decide)
theorem sne_Store_room__fresh : ((Str.ofString "room") = Str.ofString "_fresh") = False := eq_false (by decide)
theorem sne_Store_entries__fresh : ((Str.ofString "entries") = Str.ofString "_fresh") = False := eq_false (by decide)
theorem sne_Store_words__fresh : ((Str.ofString "words") = Str.ofString "_fresh") = False := eq_false (by decide)
theorem sne_Store__places__fresh : ((Str.ofString "_places") = Str.ofString "_fresh") = False := eq_false (by decide)
theorem sne_Store__free__fresh : ((Str.ofString "_free") = Str.ofString "_fresh") = False := eq_false (by decide)
theorem sne_Space_store_always : ((Str.ofString "store") = Str.ofString "always") = False := eq_false (by decide)
theorem sne_Space_store_pressure : ((Str.ofString "store") = Str.ofString "pressure") = False := eq_false (by decide)
theorem sne_Space_always_pressure : ((Str.ofString "always") = Str.ofString "pressure") = False := eq_false (by decide)
theorem sne_Space_store_allocations : ((Str.ofString "store") = Str.ofString "allocations") = False := eq_false (by decide)
theorem sne_Space_always_allocations : ((Str.ofString "always") = Str.ofString "allocations") = False := eq_false (by decide)
theorem sne_Space_pressure_allocations : ((Str.ofString "pressure") = Str.ofString "allocations") = False := eq_false (by decide)
theorem sne_Space_store_collections : ((Str.ofString "store") = Str.ofString "collections") = False := eq_false (by decide)
theorem sne_Space_always_collections : ((Str.ofString "always") = Str.ofString "collections") = False := eq_false (by decide)
theorem sne_Space_pressure_collections : ((Str.ofString "pressure") = Str.ofString "collections") = False := eq_false (by decide)
theorem sne_Space_allocations_collections : ((Str.ofString "allocations") = Str.ofString "collections") = False := eq_false (by decide)
theorem sne_Space_store__roots : ((Str.ofString "store") = Str.ofString "_roots") = False := eq_false (by decide)
theorem sne_Space_always__roots : ((Str.ofString "always") = Str.ofString "_roots") = False := eq_false (by decide)
theorem sne_Space_pressure__roots : ((Str.ofString "pressure") = Str.ofString "_roots") = False := eq_false (by decide)
theorem sne_Space_allocations__roots : ((Str.ofString "allocations") = Str.ofString "_roots") = False := eq_false (by decide)
theorem sne_Space_collections__roots : ((Str.ofString "collections") = Str.ofString "_roots") = False := eq_false (by decide)
theorem sne_Space_store__held : ((Str.ofString "store") = Str.ofString "_held") = False := eq_false (by decide)
theorem sne_Space_always__held : ((Str.ofString "always") = Str.ofString "_held") = False := eq_false (by decide)
theorem sne_Space_pressure__held : ((Str.ofString "pressure") = Str.ofString "_held") = False := eq_false (by decide)
theorem sne_Space_allocations__held : ((Str.ofString "allocations") = Str.ofString "_held") = False := eq_false (by decide)
theorem sne_Space_collections__held : ((Str.ofString "collections") = Str.ofString "_held") = False := eq_false (by decide)
theorem sne_Space__roots__held : ((Str.ofString "_roots") = Str.ofString "_held") = False := eq_false (by decide)
theorem sne_Space_store__moments : ((Str.ofString "store") = Str.ofString "_moments") = False := eq_false (by decide)
theorem sne_Space_always__moments : ((Str.ofString "always") = Str.ofString "_moments") = False := eq_false (by decide)
theorem sne_Space_pressure__moments : ((Str.ofString "pressure") = Str.ofString "_moments") = False := eq_false (by decide)
theorem sne_Space_allocations__moments : ((Str.ofString "allocations") = Str.ofString "_moments") = False := eq_false (by decide)
theorem sne_Space_collections__moments : ((Str.ofString "collections") = Str.ofString "_moments") = False := eq_false (by decide)
theorem sne_Space__roots__moments : ((Str.ofString "_roots") = Str.ofString "_moments") = False := eq_false (by decide)
theorem sne_Space__held__moments : ((Str.ofString "_held") = Str.ofString "_moments") = False := eq_false (by decide)
theorem sne_Space_store__work : ((Str.ofString "store") = Str.ofString "_work") = False := eq_false (by decide)
theorem sne_Space_always__work : ((Str.ofString "always") = Str.ofString "_work") = False := eq_false (by decide)
theorem sne_Space_pressure__work : ((Str.ofString "pressure") = Str.ofString "_work") = False := eq_false (by decide)
theorem sne_Space_allocations__work : ((Str.ofString "allocations") = Str.ofString "_work") = False := eq_false (by decide)
theorem sne_Space_collections__work : ((Str.ofString "collections") = Str.ofString "_work") = False := eq_false (by decide)
theorem sne_Space__roots__work : ((Str.ofString "_roots") = Str.ofString "_work") = False := eq_false (by decide)
theorem sne_Space__held__work : ((Str.ofString "_held") = Str.ofString "_work") = False := eq_false (by decide)
theorem sne_Space__moments__work : ((Str.ofString "_moments") = Str.ofString "_work") = False := eq_false (by decide)
section
variable {P : Program} {w : World} {K : PySem.W.Frag} {mg : Str → Option Value} {base : Heap} {A : Ad}
theorem ok_NoRoom___init__ (T : Txt K mg A) : FnOk P w K mg base CX0 1 A.f_NoRoom___init__ A.d_NoRoom___init__ ["self", "need"] (sp_ex1 A.C_NoRoom "need") := by
  refine Fun.ok T.F_NoRoom___init__ sc_NoRoom___init__ (fun vs H Q E h => ?_) (fun cdv Ar outer s H vs Q E hr h => ?_)
  · obtain ⟨_, _, rfl, _⟩ := h
    rfl
  · obtain ⟨a, v, rfl, ha, k⟩ := h
    refine ⟨_, pss_one (ps_ost (pv 0) (pv 1)), ?_⟩
    exact ⟨v, rfl, .ref a, rfl, a, A.C_NoRoom, rfl, T.x_NoRoom.o, T.no_NoRoom_need, .inl ⟨ha, fun dx hdx ne => k dx hdx ne⟩⟩
theorem ok_NoNumber___init__ (T : Txt K mg A) : FnOk P w K mg base CX0 1 A.f_NoNumber___init__ A.d_NoNumber___init__ ["self", "limit"] (sp_ex1 A.C_NoNumber "limit") := by
  refine Fun.ok T.F_NoNumber___init__ sc_NoNumber___init__ (fun vs H Q E h => ?_) (fun cdv Ar outer s H vs Q E hr h => ?_)
  · obtain ⟨_, _, rfl, _⟩ := h
    rfl
  · obtain ⟨a, v, rfl, ha, k⟩ := h
    refine ⟨_, pss_one (ps_ost (pv 0) (pv 1)), ?_⟩
    exact ⟨v, rfl, .ref a, rfl, a, A.C_NoNumber, rfl, T.x_NoNumber.o, T.no_NoNumber_limit, .inl ⟨ha, fun dx hdx ne => k dx hdx ne⟩⟩
theorem ok_Wrong___init__ (T : Txt K mg A) : FnOk P w K mg base CX0 1 A.f_Wrong___init__ A.d_Wrong___init__ ["self", "why"] (sp_ex1 A.C_Wrong "why") := by
  refine Fun.ok T.F_Wrong___init__ sc_Wrong___init__ (fun vs H Q E h => ?_) (fun cdv Ar outer s H vs Q E hr h => ?_)
  · obtain ⟨_, _, rfl, _⟩ := h
    rfl
  · obtain ⟨a, v, rfl, ha, k⟩ := h
    refine ⟨_, pss_one (ps_ost (pv 0) (pv 1)), ?_⟩
    exact ⟨v, rfl, .ref a, rfl, a, A.C_Wrong, rfl, T.x_Wrong.o, T.no_Wrong_why, .inl ⟨ha, fun dx hdx ne => k dx hdx ne⟩⟩
end

set_option hygiene false in
local macro_rules
  | `(tactic| simp! only [$xs,*]) => `(tactic| simp (config := { maxSteps := 4000000 }) only [tSeq, tNext, tDrop, tRet, tRetN, tIfS, tAsg, tTest, tAnd, tOr, tNot, tAndV, tOrV, tNotV, tIf, tOp, tUn, tVar, tC, tCB, tCons, tNil, tCall, tPart, tNoPart, tM0, tM1, tTup, tLst, tB, tIsN, tNotN, rI0, rI, rU, rEq, rNe, rAdd, gName, gTup, gCons, gNil, gSub, rSetL, rIxL, rIxT, rIxS, L2.start,
      List.map_cons, List.map_nil, List.cons_append, List.nil_append, List.append_nil, List.length_cons, List.length_nil, List.replicate, List.getElem?_cons_zero, List.getElem?_cons_succ, List.set_cons_zero, List.set_cons_succ, Nat.reduceAdd, Nat.reduceSub, Nat.sub_self, Nat.zero_add,
      Option.some.injEq, V.int.injEq, V.str.injEq, V.bl.injEq, V.ref.injEq, V.ty.injEq, List.cons.injEq, and_true, true_and, exists_eq_left, exists_eq_left', exists_eq_right, exists_and_left, exists_and_right, exists_const, decide_eq_true_eq, decide_eq_false_iff_not, if_true, if_false, reduceIte, Bool.false_eq_true, Bool.not_eq_true', sc_ii, sc_ss, sc_bb, str1, cx_K, lstAt, rIxM, rSetM, rLenM, atI_0, atI_1, atI_2, atI_3, setI_0, setI_1, setI_2, setI_3, upd_same, upd_upd, ite_true, ite_false, exists_eq', eq_self, and_assoc, rIsS, isTy_bb, isTy_bi, isTy_ib, isTy_ii, isTy_ss, isTy_nb, isTy_ni, Bool.not_true, Bool.not_false, not_true_eq_false, not_false_eq_true, tChain, tRz1, tRz2, rIsX, tFx, tMethE, tCallS, tCallZ, tMeth, tMake, tFld, sFld, HO.ins.injEq, HO.lst.injEq, HO.dK.injEq, HO.tup.injEq, dcAt, dcRd, rDInM, rDGetM, rDSetM, rDLenM, keyOf_int, keyOf_str, rIsBM, plainV_b, plainV_i, plainV_n, plainV_s, rInM, rListM, rSortM, rSumM, rIsD, tBMM, tBM0M, tSl, rSlM, rAppend, rPop, rClear, wAs, reduceCtorEq, false_implies, true_implies, implies_true, forall_const, cxH_K, clsV_ref, clsV_ty, HO.xd.injEq, Value.ref.injEq, lkc, lkn, pfn, pfc, List.map_nil, rExtend, rCat, rRep, tMethE0, rSortD, rPush, rPopH, tDGetM, gAll, iRev, tCB, sDDel, wPair, tBreak, tDelT, rDLenR, tMethN, exf_NoRoom T, exf_NoNumber T, exf_Wrong T, sne_Store_room_entries, sne_Store_room_words, sne_Store_entries_words, sne_Store_room__places, sne_Store_entries__places, sne_Store_words__places, sne_Store_room__free, sne_Store_entries__free, sne_Store_words__free, sne_Store__places__free, sne_Store_room__fresh, sne_Store_entries__fresh, sne_Store_words__fresh, sne_Store__places__fresh, sne_Store__free__fresh, sne_Space_store_always, sne_Space_store_pressure, sne_Space_always_pressure, sne_Space_store_allocations, sne_Space_always_allocations, sne_Space_pressure_allocations, sne_Space_store_collections, sne_Space_always_collections, sne_Space_pressure_collections, sne_Space_allocations_collections, sne_Space_store__roots, sne_Space_always__roots, sne_Space_pressure__roots, sne_Space_allocations__roots, sne_Space_collections__roots, sne_Space_store__held, sne_Space_always__held, sne_Space_pressure__held, sne_Space_allocations__held, sne_Space_collections__held, sne_Space__roots__held, sne_Space_store__moments, sne_Space_always__moments, sne_Space_pressure__moments, sne_Space_allocations__moments, sne_Space_collections__moments, sne_Space__roots__moments, sne_Space__held__moments, sne_Space_store__work, sne_Space_always__work, sne_Space_pressure__work, sne_Space_allocations__work, sne_Space_collections__work, sne_Space__roots__work, sne_Space__held__work, sne_Space__moments__work, T.no_NoRoom_need, T.ex_NoRoom_NoNumber, T.ex_NoRoom_NoRoom, T.ex_NoRoom_SaggarError, T.ex_NoRoom_Wrong, T.kit_NoRoom_Wrong, T.no_NoNumber_limit, T.ex_NoNumber_NoNumber, T.ex_NoNumber_NoRoom, T.ex_NoNumber_SaggarError, T.ex_NoNumber_Wrong, T.kit_NoNumber_Wrong, T.no_Wrong_why, T.ex_Wrong_NoNumber, T.ex_Wrong_NoRoom, T.ex_Wrong_SaggarError, T.ex_Wrong_Wrong, T.kit_Wrong_Wrong, $xs,*])
set_option hygiene false in
local macro_rules
  | `(tactic| dsimp! only [$xs,*]) => `(tactic| simp (config := { maxSteps := 4000000 }) only [tSeq, tNext, tDrop, tRet, tRetN, tIfS, tAsg, tTest, tAnd, tOr, tNot, tAndV, tOrV, tNotV, tIf, tOp, tUn, tVar, tC, tCB, tCons, tNil, tCall, tPart, tNoPart, tM0, tM1, tTup, tLst, tB, tIsN, tNotN, rI0, rI, rU, rEq, rNe, rAdd, gName, gTup, gCons, gNil, gSub, rSetL, rIxL, rIxT, rIxS, L2.start,
      List.map_cons, List.map_nil, List.cons_append, List.nil_append, List.append_nil, List.length_cons, List.length_nil, List.replicate, List.getElem?_cons_zero, List.getElem?_cons_succ, List.set_cons_zero, List.set_cons_succ, Nat.reduceAdd, Nat.reduceSub, Nat.sub_self, Nat.zero_add,
      Option.some.injEq, V.int.injEq, V.str.injEq, V.bl.injEq, V.ref.injEq, V.ty.injEq, List.cons.injEq, and_true, true_and, exists_eq_left, exists_eq_left', exists_eq_right, exists_and_left, exists_and_right, exists_const, decide_eq_true_eq, decide_eq_false_iff_not, if_true, if_false, reduceIte, Bool.false_eq_true, Bool.not_eq_true', sc_ii, sc_ss, sc_bb, str1, cx_K, lstAt, rIxM, rSetM, rLenM, atI_0, atI_1, atI_2, atI_3, setI_0, setI_1, setI_2, setI_3, upd_same, upd_upd, ite_true, ite_false, exists_eq', eq_self, and_assoc, rIsS, isTy_bb, isTy_bi, isTy_ib, isTy_ii, isTy_ss, isTy_nb, isTy_ni, Bool.not_true, Bool.not_false, not_true_eq_false, not_false_eq_true, tChain, tRz1, tRz2, rIsX, tFx, tMethE, tCallS, tCallZ, tMeth, tMake, tFld, sFld, HO.ins.injEq, HO.lst.injEq, HO.dK.injEq, HO.tup.injEq, dcAt, dcRd, rDInM, rDGetM, rDSetM, rDLenM, keyOf_int, keyOf_str, rIsBM, plainV_b, plainV_i, plainV_n, plainV_s, rInM, rListM, rSortM, rSumM, rIsD, tBMM, tBM0M, tSl, rSlM, rAppend, rPop, rClear, wAs, reduceCtorEq, false_implies, true_implies, implies_true, forall_const, cxH_K, clsV_ref, clsV_ty, HO.xd.injEq, Value.ref.injEq, lkc, lkn, pfn, pfc, List.map_nil, rExtend, rCat, rRep, tMethE0, rSortD, rPush, rPopH, tDGetM, gAll, iRev, tCB, sDDel, wPair, tBreak, tDelT, rDLenR, tMethN, exf_NoRoom T, exf_NoNumber T, exf_Wrong T, sne_Store_room_entries, sne_Store_room_words, sne_Store_entries_words, sne_Store_room__places, sne_Store_entries__places, sne_Store_words__places, sne_Store_room__free, sne_Store_entries__free, sne_Store_words__free, sne_Store__places__free, sne_Store_room__fresh, sne_Store_entries__fresh, sne_Store_words__fresh, sne_Store__places__fresh, sne_Store__free__fresh, sne_Space_store_always, sne_Space_store_pressure, sne_Space_always_pressure, sne_Space_store_allocations, sne_Space_always_allocations, sne_Space_pressure_allocations, sne_Space_store_collections, sne_Space_always_collections, sne_Space_pressure_collections, sne_Space_allocations_collections, sne_Space_store__roots, sne_Space_always__roots, sne_Space_pressure__roots, sne_Space_allocations__roots, sne_Space_collections__roots, sne_Space_store__held, sne_Space_always__held, sne_Space_pressure__held, sne_Space_allocations__held, sne_Space_collections__held, sne_Space__roots__held, sne_Space_store__moments, sne_Space_always__moments, sne_Space_pressure__moments, sne_Space_allocations__moments, sne_Space_collections__moments, sne_Space__roots__moments, sne_Space__held__moments, sne_Space_store__work, sne_Space_always__work, sne_Space_pressure__work, sne_Space_allocations__work, sne_Space_collections__work, sne_Space__roots__work, sne_Space__held__work, sne_Space__moments__work, T.no_NoRoom_need, T.ex_NoRoom_NoNumber, T.ex_NoRoom_NoRoom, T.ex_NoRoom_SaggarError, T.ex_NoRoom_Wrong, T.kit_NoRoom_Wrong, T.no_NoNumber_limit, T.ex_NoNumber_NoNumber, T.ex_NoNumber_NoRoom, T.ex_NoNumber_SaggarError, T.ex_NoNumber_Wrong, T.kit_NoNumber_Wrong, T.no_Wrong_why, T.ex_Wrong_NoNumber, T.ex_Wrong_NoRoom, T.ex_Wrong_SaggarError, T.ex_Wrong_Wrong, T.kit_Wrong_Wrong, T.cl_Space, T.no_Space_store, T.no_Space_always, T.no_Space_pressure, T.no_Space_allocations, T.no_Space_collections, T.no_Space__roots, T.no_Space__held, T.no_Space__moments, T.no_Space__work, spF_store, spF_always, spF_press, spF_alloc, spF_coll, spF_roots, spF_held, spF_mom, spF_work, spF_mset, spF_mhold, spF_mall, spF_mcoll, spF_mbes, spF_mnew, spF_mroot, spF_mdrop, spF_mheld, spF_mlive, spF_mpress, spF_len, spF_pal, spF_pco, $xs,*])
set_option hygiene false in
local macro_rules
  | `(tactic| simp_all! only [$xs,*]) => `(tactic| simp (config := { maxSteps := 4000000 }) only [tSeq, tNext, tDrop, tRet, tRetN, tIfS, tAsg, tTest, tAnd, tOr, tNot, tAndV, tOrV, tNotV, tIf, tOp, tUn, tVar, tC, tCB, tCons, tNil, tCall, tPart, tNoPart, tM0, tM1, tTup, tLst, tB, tIsN, tNotN, rI0, rI, rU, rEq, rNe, rAdd, gName, gTup, gCons, gNil, gSub, rSetL, rIxL, rIxT, rIxS, L2.start,
      List.map_cons, List.map_nil, List.cons_append, List.nil_append, List.append_nil, List.length_cons, List.length_nil, List.replicate, List.getElem?_cons_zero, List.getElem?_cons_succ, List.set_cons_zero, List.set_cons_succ, Nat.reduceAdd, Nat.reduceSub, Nat.sub_self, Nat.zero_add,
      Option.some.injEq, V.int.injEq, V.str.injEq, V.bl.injEq, V.ref.injEq, V.ty.injEq, List.cons.injEq, and_true, true_and, exists_eq_left, exists_eq_left', exists_eq_right, exists_and_left, exists_and_right, exists_const, decide_eq_true_eq, decide_eq_false_iff_not, if_true, if_false, reduceIte, Bool.false_eq_true, Bool.not_eq_true', sc_ii, sc_ss, sc_bb, str1, cx_K, lstAt, rIxM, rSetM, rLenM, atI_0, atI_1, atI_2, atI_3, setI_0, setI_1, setI_2, setI_3, upd_same, upd_upd, ite_true, ite_false, exists_eq', eq_self, and_assoc, rIsS, isTy_bb, isTy_bi, isTy_ib, isTy_ii, isTy_ss, isTy_nb, isTy_ni, Bool.not_true, Bool.not_false, not_true_eq_false, not_false_eq_true, tChain, tRz1, tRz2, rIsX, tFx, tMethE, tCallS, tCallZ, tMeth, tMake, tFld, sFld, HO.ins.injEq, HO.lst.injEq, HO.dK.injEq, HO.tup.injEq, dcAt, dcRd, rDInM, rDGetM, rDSetM, rDLenM, keyOf_int, keyOf_str, rIsBM, plainV_b, plainV_i, plainV_n, plainV_s, rInM, rListM, rSortM, rSumM, rIsD, tBMM, tBM0M, tSl, rSlM, rAppend, rPop, rClear, wAs, reduceCtorEq, false_implies, true_implies, implies_true, forall_const, cxH_K, clsV_ref, clsV_ty, HO.xd.injEq, Value.ref.injEq, lkc, lkn, pfn, pfc, List.map_nil, rExtend, rCat, rRep, tMethE0, rSortD, rPush, rPopH, tDGetM, gAll, iRev, tCB, sDDel, wPair, tBreak, tDelT, rDLenR, tMethN, exf_NoRoom T, exf_NoNumber T, exf_Wrong T, sne_Store_room_entries, sne_Store_room_words, sne_Store_entries_words, sne_Store_room__places, sne_Store_entries__places, sne_Store_words__places, sne_Store_room__free, sne_Store_entries__free, sne_Store_words__free, sne_Store__places__free, sne_Store_room__fresh, sne_Store_entries__fresh, sne_Store_words__fresh, sne_Store__places__fresh, sne_Store__free__fresh, sne_Space_store_always, sne_Space_store_pressure, sne_Space_always_pressure, sne_Space_store_allocations, sne_Space_always_allocations, sne_Space_pressure_allocations, sne_Space_store_collections, sne_Space_always_collections, sne_Space_pressure_collections, sne_Space_allocations_collections, sne_Space_store__roots, sne_Space_always__roots, sne_Space_pressure__roots, sne_Space_allocations__roots, sne_Space_collections__roots, sne_Space_store__held, sne_Space_always__held, sne_Space_pressure__held, sne_Space_allocations__held, sne_Space_collections__held, sne_Space__roots__held, sne_Space_store__moments, sne_Space_always__moments, sne_Space_pressure__moments, sne_Space_allocations__moments, sne_Space_collections__moments, sne_Space__roots__moments, sne_Space__held__moments, sne_Space_store__work, sne_Space_always__work, sne_Space_pressure__work, sne_Space_allocations__work, sne_Space_collections__work, sne_Space__roots__work, sne_Space__held__work, sne_Space__moments__work, T.no_NoRoom_need, T.ex_NoRoom_NoNumber, T.ex_NoRoom_NoRoom, T.ex_NoRoom_SaggarError, T.ex_NoRoom_Wrong, T.kit_NoRoom_Wrong, T.no_NoNumber_limit, T.ex_NoNumber_NoNumber, T.ex_NoNumber_NoRoom, T.ex_NoNumber_SaggarError, T.ex_NoNumber_Wrong, T.kit_NoNumber_Wrong, T.no_Wrong_why, T.ex_Wrong_NoNumber, T.ex_Wrong_NoRoom, T.ex_Wrong_SaggarError, T.ex_Wrong_Wrong, T.kit_Wrong_Wrong, T.cl_Store, T.no_Store_room, T.no_Store_entries, T.no_Store_words, T.no_Store__places, T.no_Store__free, T.no_Store__fresh, stF_room, stF_entries, stF_words, stF_places, stF_free, stF_fresh, stF_mused, stF_mexists, stF_mnumbers, stF_mfree, stF_malloc, stF_msize, stF_mkind, stF_mskind, stF_mget, stF_mput, stF_mslots, stF_mdrop, stF_mclose, stF_msnap, stF_mrest, stF_mexch, stF_len, stF_pf, stF_pd, stF_pl, $xs,*])

/-! ### o.m(e, .., k = v) -/
def tMethN (C : Addr) (m : Str) (n l : Nat) (sp : Sp) (gV : List V → List V → List V) (E : XK) (ta : TE) (t tk : TA) : TE := fun σ H Q => ta σ H fun x H1 => ∃ a dx fs, x = .ref a ∧ H1 a = some (.ins C dx fs) ∧ fs.lookup m = none ∧ t σ H1 fun vs H2 => tk σ H2 fun zs H3 => (x :: vs).length = n ∧ zs.length = l ∧ sp (gV (x :: vs) zs) H3 Q E
theorem pe_methN {X : Cx} {CX : CXT} {k n : Nat} {C f : Addr} {fd : FuncData} {ps ks : List Str} {m : Str} {sp : Sp} {E : XK} {o e : Expr} {es : List Expr} {kws : List Keyword} {ta : TE} {t tk : TA} {apos pos : Pos} {pl : Sem Bool} {g : List Value → List Value → List Value} {gV : List V → List V → List V} (he : PE X o ta) (c : Cls X.K C) (hm : Meth X.K C m f)
    (F : FnOk X.prog X.w X.K X.mg X.base CX k f fd ps sp) (hr : Room k X.A) (hb : KBn X.K fd ps n ks g gV) (hx : Passes CX X E) (ha : PA X (e :: es) t) (hkw : L2.PK X kws tk)
    (hall : (backToKw pos (keywordEach kws X.env)).all (·.1.isSome) = true := by rfl) (hks : (backToKw pos (keywordEach kws X.env)).filterMap (·.1) = ks := by rfl)
    (hst : starEach (e :: es) X.env = (false, eval e X.env) :: starEach es X.env := by rfl)
    (hpl : ((backTo pos (starEach (e :: es) X.env)).any (·.1) || (backToKw pos (keywordEach kws X.env)).any (·.1.isNone)) = false := by rfl)
    (ht : eval (.Call (.Attribute o m apos) (e :: es) kws pos) X.env = (do
      let ov ← eval o X.env
      standAt apos.atName
      let (f, first) ← holding [ov] (getMethod ov m pl)
      callWith pos f first (backTo pos (starEach (e :: es) X.env)) (backToKw pos (keywordEach kws X.env))) := by rfl) :
    PE X (.Call (.Attribute o m apos) (e :: es) kws pos) (tMethN C m n ks.length sp gV E ta t tk) := by
  refine ⟨fun pins s σ H Q I h => ?_⟩
  refine PySem.W.methodCall_KW (pl := pl) (thn (he.run pins s σ H _ I h) fun u1 s1 hh => ?_) ht
  obtain ⟨x, H1, I1, rx, a, dx, fs, rfl, ea, l, q⟩ := hh
  cases rx
  refine getmeth_ok I1 ea c hm l ?_
  refine PySem.W.callWith_KW (first := [.ref a]) (h₀ := X.base) I.ok.mod.kin hm.kp hall (thn (ha.run pos pins s1 σ H1 _ I1 q) fun us s2 ⟨vs, H2, I2, r, q2⟩ => ?_) hpl hst
  refine thn (hkw.run pos pins s2 σ H2 _ I2 q2) fun ws s3 ⟨zs, H3, I3, rz, l1, l2, q3⟩ => ⟨I3.kIn, ?_⟩
  rw [hks]
  exact run_fnN (us := .ref a :: us) (vs := .ref a :: vs) F hr hb hx I3 (.cons rfl r) rz l1 l2 q3
/-- all keyword-only parameters are given -/
theorem Fun.kbinds {K : PySem.W.Frag} {x qual : Str} {st : Stmt} {f : Addr} {fd : FuncData} {ps : List Str} (F : Fun K x qual st f fd) (n : Nat) (ks : List Str)
    (h : ∀ (kV doc pm : Value) (an : Option Addr) (cdv ct : Value) (us ws : List Value), us.length = n → ws.length = ks.length → bindArgs (PySem.W.fnOf x qual (defArgs st) (defBody st) (defScope st) .none kV doc pm an cdv ct) ⟨us, ks.zip ws⟩ = pure (ps.zip (us ++ ws))) :
    KBn K fd ps n ks (fun us ws => us ++ ws) (fun vs zs => vs ++ zs) := by
  obtain ⟨oc, od, kV, doc, pm, an, cdv, ct, osl, rfl, lk, hcd⟩ := F.ex
  exact ⟨fun s us ws X l1 l2 => .of_eq (h kV doc pm an cdv ct us ws l1 l2), fun r1 r2 => r1.append r2⟩
theorem FunD.kbinds0 {K : PySem.W.Frag} {x qual : Str} {params : Arguments} {body : List Stmt} {scope : Scope} {kws : List (Str × V)} {f : Addr} {fd : FuncData} {ps : List Str} (F : FunD K x qual params body scope [] kws f fd) (n : Nat) (ks : List Str)
    (h : ∀ (kV doc pm : Value) (an : Option Addr) (cdv ct : Value) (us ws : List Value), us.length = n → ws.length = ks.length → bindArgs (PySem.W.fnOf x qual params body scope .none kV doc pm an cdv ct) ⟨us, ks.zip ws⟩ = pure (ps.zip (us ++ ws))) :
    KBn K fd ps n ks (fun us ws => us ++ ws) (fun vs zs => vs ++ zs) := by
  obtain ⟨oc, od, dV, kV, doc, pm, an, cdv, ct, osl, rfl, lk, hcd, hD, hK⟩ := F.ex
  rcases hD with ⟨_, rfl⟩ | ⟨e, _⟩
  · exact ⟨fun s us ws X l1 l2 => .of_eq (h kV doc pm an cdv ct us ws l1 l2), fun r1 r2 => r1.append r2⟩
  · exact absurd rfl e
/-- {x: True for x in xs} -/
def mkF (xs : List Int) : List (Key × V) := xs.foldl (fun kvs n => putK kvs (Sum.inl n) (.bl true)) []
theorem mkF_snoc (xs : List Int) (n : Int) : mkF (xs ++ [n]) = putK (mkF xs) (Sum.inl n) (.bl true) := by
  unfold mkF
  rw [List.foldl_append]
  rfl
theorem mkF_some (xs : List Int) (n : Int) : (valV (mkF xs) (Sum.inl n)).isSome = decide (n ∈ xs) := by
  have h : ∀ (xs : List Int) (kvs : List (Key × V)), (valV (xs.foldl (fun kvs n => putK kvs (Sum.inl n) (.bl true)) kvs) (Sum.inl n)).isSome = ((valV kvs (Sum.inl n)).isSome || decide (n ∈ xs)) := by
    intro xs
    induction xs with
    | nil => intro kvs; simp
    | cons m xs ih =>
      intro kvs
      rw [List.foldl_cons, ih, valV_put]
      by_cases c : n = m
      · subst c
        simp
      · rw [if_neg (fun z => c (Sum.inl.inj z))]
        simp [c]
  have := h xs []
  rw [valV_nil] at this
  unfold mkF
  simpa using this
theorem mkF_len (xs : List Int) : (mkF xs).length ≤ xs.length := by
  have h : ∀ (xs : List Int) (kvs : List (Key × V)), (xs.foldl (fun kvs n => putK kvs (Sum.inl n) (.bl true)) kvs).length ≤ kvs.length + xs.length := by
    intro xs
    induction xs with
    | nil => intro kvs; exact Nat.le_refl _
    | cons m xs ih =>
      intro kvs
      have h1 := ih (putK kvs (Sum.inl m) (.bl true))
      have h2 := length_putK kvs (Sum.inl m) (.bl true)
      rw [List.foldl_cons, List.length_cons]
      omega
  have := h xs []
  rw [List.length_nil, Nat.zero_add] at this
  exact this
theorem dc_ints {K : PySem.W.Frag} {tl : TE} {c : Nat} {σ : L2.St} {H : Hp} {Q : VK} {a : Addr} (ns : List Int) (htl : ∀ R : V → Hp → Prop, R (.ref a) H → tl σ H R) (ha : H a = some (.lst (ns.map V.int))) (hc : c < σ.length) (hn : ns.length ≤ 100000)
    (k : ∀ D, H D = none → Q (.ref D) (upd H D (.dK (mkF ns)))) : tDc (iList K tl) (gName c) tYes (tVar c) (tC (.bl true)) [c] σ H Q := by
  refine htl _ ⟨a, rfl, ⟨_, .inl (.inl ha)⟩, fun D hD => ?_⟩
  have sm : ∀ kvs, Same H (upd H D (.dK kvs)) := fun kvs => same_new hD
  have szl : (100000 : Nat) < sizeLine := by decide
  refine ⟨fun i m H' => m = ns.length - i ∧ i ≤ ns.length ∧ H' = upd H D (.dK (mkF (ns.take i))), ⟨_, rfl, Nat.zero_le _, rfl⟩, ?_⟩
  rintro i m H' ⟨rfl, hi, rfl⟩
  have hd' := sm (mkF (ns.take i)) _ _ ha
  have sq : SqL K (upd H D (.dK (mkF (ns.take i)))) a (ns.map V.int) := .inl (.inl hd')
  by_cases hlt : i < ns.length
  · have hx : (ns.map V.int)[i]? = some (.int ns[i]) := by rw [List.getElem?_map, List.getElem?_eq_getElem hlt]; rfl
    refine .inr ⟨⟨_, _, sq, hx⟩, fun H2 => H2 = upd H D (.dK (mkF (ns.take (i + 1)))), fun H2 h2 => ⟨ns.length - (i + 1), by omega, rfl, hlt, h2⟩, fun x H2 hy => ?_⟩
    obtain ⟨rfl, hy⟩ := hy
    have ex := hy _ sq
    rw [hx] at ex
    have ex := Option.some.inj ex
    subst ex
    refine ⟨?_, ?_⟩
    · show List.set (List.set (List.set σ c none) c _) c none = List.set σ c none
      rw [List.set_set, List.set_set]
    · simp only [tYes, if_true]
      refine ⟨.int ns[i], ?_, mkF (ns.take i), Sum.inl ns[i], rfl, upd_same, ?_, ?_⟩
      · show (List.set (List.set σ c none) c _)[c]? = _
        rw [List.getElem?_set_self (by rw [List.length_set]; exact hc)]
      · have := mkF_len (ns.take i)
        rw [List.length_take] at this
        omega
      · rw [upd_upd, List.take_add_one, List.getElem?_eq_getElem hlt]
        show _ = upd H D (.dK (mkF (ns.take i ++ [ns[i]])))
        rw [mkF_snoc]
  · have e : i = ns.length := by omega
    subst e
    refine .inl ⟨⟨_, sq, by rw [List.length_map]; exact Nat.le_refl _⟩, ?_⟩
    rw [List.take_length]
    exact k D hD

/-! ### a store as a row of objects -/
structure OB where
  num : Int
  kind : Int
  sl : List Int
  al : Bool
def flatO (o : OB) : List Int := o.num :: (o.sl.length : Int) :: o.kind :: o.sl
def flat : List OB → List Int
  | [] => []
  | o :: r => flatO o ++ flat r
theorem flatO_len {o : OB} : (flatO o).length = 3 + o.sl.length := by
  simp [flatO]
  omega
theorem flat_app : ∀ (r q : List OB), flat (r ++ q) = flat r ++ flat q
  | [], _ => rfl
  | o :: r, q => by rw [List.cons_append, flat, flat, flat_app r q, List.append_assoc]
theorem flat_one {o : OB} : flat [o] = flatO o := by simp [flat]
theorem flat_rows : ∀ (r : List OB), 3 * r.length ≤ (flat r).length
  | [] => Nat.le_refl _
  | o :: r => by
    have := flat_rows r
    rw [flat, List.length_append, flatO_len, List.length_cons]
    omega
def hasN (n : Int) (o : OB) : Bool := o.al && decide (o.num = n)
theorem hasN_iff {n : Int} {o : OB} : hasN n o = true ↔ o.al = true ∧ o.num = n := by simp [hasN]
def getO (row : List OB) (n : Int) : Option OB := row.find? (hasN n)
def pos : List OB → Int → Option Nat
  | [], _ => none
  | o :: r, n => if hasN n o = true then some 0 else (pos r n).map (· + (3 + o.sl.length))
def nums (row : List OB) : List Int := (row.filter (·.al)).map (·.num)
theorem nums_cons {o : OB} {r : List OB} : nums (o :: r) = if o.al = true then o.num :: nums r else nums r := by
  unfold nums
  rw [List.filter_cons]
  split <;> rfl
theorem nums_app {r q : List OB} : nums (r ++ q) = nums r ++ nums q := by
  unfold nums
  rw [List.filter_append, List.map_append]
theorem mem_nums {row : List OB} {n : Int} : n ∈ nums row ↔ ∃ o ∈ row, hasN n o = true := by
  unfold nums
  rw [List.mem_map]
  constructor
  · rintro ⟨o, ho, e⟩
    rw [List.mem_filter] at ho
    exact ⟨o, ho.1, hasN_iff.mpr ⟨ho.2, e⟩⟩
  · rintro ⟨o, ho, e⟩
    have := hasN_iff.mp e
    exact ⟨o, List.mem_filter.mpr ⟨ho, this.1⟩, this.2⟩
theorem nums_len {row : List OB} : (nums row).length ≤ row.length := by
  unfold nums
  rw [List.length_map]
  exact List.length_filter_le ..
theorem getO_cons {o : OB} {r : List OB} {n : Int} : getO (o :: r) n = if hasN n o = true then some o else getO r n := by
  unfold getO
  rw [List.find?_cons]
  cases hasN n o <;> rfl
theorem pos_none : ∀ {row : List OB} {n : Int}, n ∉ nums row → pos row n = none
  | [], _, _ => rfl
  | o :: r, n, h => by
    have h1 : ¬ hasN n o = true := fun e => h (mem_nums.mpr ⟨o, List.mem_cons_self .., e⟩)
    have h2 : n ∉ nums r := fun e => by
      obtain ⟨q, hq, e⟩ := mem_nums.mp e
      exact h (mem_nums.mpr ⟨q, List.mem_cons_of_mem _ hq, e⟩)
    rw [pos, if_neg h1, pos_none h2]
    rfl
theorem pos_some : ∀ {row : List OB} {n : Int}, (pos row n).isSome = decide (n ∈ nums row)
  | [], _ => by simp [pos, nums]
  | o :: r, n => by
    by_cases h : hasN n o = true
    · rw [pos, if_pos h, decide_eq_true (mem_nums.mpr ⟨o, List.mem_cons_self .., h⟩)] <;> rfl
    · rw [pos, if_neg h, Option.isSome_map, pos_some]
      congr 1
      apply propext
      rw [mem_nums, mem_nums]
      constructor
      · rintro ⟨q, hq, e⟩
        exact ⟨q, List.mem_cons_of_mem _ hq, e⟩
      · rintro ⟨q, hq, e⟩
        rcases List.mem_cons.mp hq with rfl | hq
        · exact absurd e h
        · exact ⟨q, hq, e⟩
theorem getO_split : ∀ {row : List OB} {n : Int} {o : OB}, getO row n = some o → ∃ r1 r2, row = r1 ++ o :: r2 ∧ hasN n o = true ∧ (∀ q ∈ r1, ¬ hasN n q = true) ∧ pos row n = some (flat r1).length
  | [], _, _, h => by cases h
  | q :: r, n, o, h => by
    rw [getO_cons] at h
    by_cases c : hasN n q = true
    · rw [if_pos c] at h
      cases h
      exact ⟨[], r, rfl, c, by simp, by rw [pos, if_pos c]; rfl⟩
    · rw [if_neg c] at h
      obtain ⟨r1, r2, rfl, h1, h2, h3⟩ := getO_split h
      refine ⟨q :: r1, r2, rfl, h1, fun x hx => ?_, ?_⟩
      · rcases List.mem_cons.mp hx with rfl | hx
        · exact c
        · exact h2 x hx
      · rw [pos, if_neg c, h3, flat, List.length_append, flatO_len]
        simp
        omega
theorem getO_mem {row : List OB} {n : Int} {o : OB} (h : getO row n = some o) : o ∈ row ∧ hasN n o = true := by
  obtain ⟨r1, r2, rfl, h1, _⟩ := getO_split h
  exact ⟨by simp, h1⟩
theorem getO_of_mem : ∀ {row : List OB} {n : Int}, n ∈ nums row → ∃ o, getO row n = some o
  | [], n, h => by simp [nums] at h
  | q :: r, n, h => by
    rw [getO_cons]
    by_cases c : hasN n q = true
    · exact ⟨q, by rw [if_pos c]⟩
    · rw [if_neg c]
      refine getO_of_mem ?_
      obtain ⟨x, hx, e⟩ := mem_nums.mp h
      rcases List.mem_cons.mp hx with rfl | hx
      · exact absurd e c
      · exact mem_nums.mpr ⟨x, hx, e⟩
theorem getO_nums {row : List OB} {n : Int} {o : OB} (h : getO row n = some o) : n ∈ nums row := mem_nums.mpr ⟨o, getO_mem h⟩
/-- the words of an object that is there -/
theorem word_at {row : List OB} {n : Int} {o : OB} (h : getO row n = some o) : ∃ i : Nat, pos row n = some i ∧ i + (3 + o.sl.length) ≤ (flat row).length ∧ (flat row)[i]? = some n ∧ (flat row)[i + 1]? = some (o.sl.length : Int) ∧ (flat row)[i + 2]? = some o.kind ∧ ∀ j, j < o.sl.length → (flat row)[i + (3 + j)]? = o.sl[j]? := by
  obtain ⟨r1, r2, rfl, h1, _, h3⟩ := getO_split h
  have e := (hasN_iff.mp h1).2
  refine ⟨_, h3, ?_, ?_, ?_, ?_, fun j hj => ?_⟩
  · rw [flat_app, flat, List.length_append, List.length_append, flatO_len]
    omega
  · rw [flat_app, List.getElem?_append_right (Nat.le_refl _), Nat.sub_self, flat, flatO, ← e]
    rfl
  · rw [flat_app, List.getElem?_append_right (by omega), show (flat r1).length + 1 - (flat r1).length = 1 by omega, flat, flatO]
    rfl
  · rw [flat_app, List.getElem?_append_right (by omega), show (flat r1).length + 2 - (flat r1).length = 2 by omega, flat, flatO]
    rfl
  · rw [flat_app, List.getElem?_append_right (by omega), show (flat r1).length + (3 + j) - (flat r1).length = j + 3 by omega, flat, flatO]
    show (o.sl ++ flat r2)[j]? = _
    rw [List.getElem?_append_left hj]
theorem slots_at {row : List OB} {n : Int} {o : OB} {i : Nat} (h : getO row n = some o) (hi : pos row n = some i) : ((flat row).drop (i + 3)).take o.sl.length = o.sl := by
  obtain ⟨r1, r2, rfl, h1, _, h3⟩ := getO_split h
  rw [h3] at hi
  cases hi
  rw [flat_app, List.drop_append, flat, flatO]
  rw [List.drop_eq_nil_of_le (by omega), List.nil_append, show (flat r1).length + 3 - (flat r1).length = 3 by omega]
  show ((o.sl ++ flat r2)).take _ = _
  rw [List.take_left']
  rfl
theorem pos_app {row : List OB} {o : OB} {m : Int} : pos (row ++ [o]) m = if m ∈ nums row then pos row m else if hasN m o = true then some (flat row).length else none := by
  induction row with
  | nil =>
    rw [List.nil_append, if_neg (by simp [nums]), pos]
    rfl
  | cons q r ih =>
    rw [List.cons_append, pos, pos, ih]
    by_cases c : hasN m q = true
    · rw [if_pos c, if_pos c, if_pos (mem_nums.mpr ⟨q, List.mem_cons_self .., c⟩)]
    · rw [if_neg c, if_neg c]
      have e : m ∈ nums (q :: r) ↔ m ∈ nums r := by
        rw [mem_nums, mem_nums]
        constructor
        · rintro ⟨x, hx, e⟩
          rcases List.mem_cons.mp hx with rfl | hx
          · exact absurd e c
          · exact ⟨x, hx, e⟩
        · rintro ⟨x, hx, e⟩
          exact ⟨x, List.mem_cons_of_mem _ hx, e⟩
      by_cases d : m ∈ nums r
      · rw [if_pos d, if_pos (e.mpr d)]
      · rw [if_neg d, if_neg (fun x => d (e.mp x))]
        by_cases f : hasN m o = true
        · rw [if_pos f, if_pos f, flat, List.length_append, flatO_len]
          simp
          omega
        · rw [if_neg f, if_neg f]
          rfl
/-- the dict of the places -/
def PK (kvs : List (Key × V)) (row : List OB) : Prop := (∀ n, valV kvs (Sum.inl n) = (pos row n).map fun i => V.int ((i : Nat) : Int)) ∧ ∃ ks : List Int, kvs.map (·.1) = ks.map Sum.inl ∧ ks.Perm (nums row)
theorem PK.len {kvs row} (h : PK kvs row) : kvs.length = (nums row).length := by
  obtain ⟨_, ks, e, p⟩ := h
  have := congrArg List.length e
  rw [List.length_map, List.length_map] at this
  rw [this, p.length_eq]
theorem PK.nil : PK [] [] := ⟨fun _ => rfl, [], rfl, List.Perm.refl _⟩
theorem PK.app {kvs : List (Key × V)} {row : List OB} {o : OB} (h : PK kvs row) (ha : o.al = true) (hn : o.num ∉ nums row) : PK (putK kvs (Sum.inl o.num) (.int ((flat row).length : Int))) (row ++ [o]) := by
  obtain ⟨h1, ks, h2, h3⟩ := h
  refine ⟨fun n => ?_, ks ++ [o.num], ?_, ?_⟩
  · rw [valV_put, h1, pos_app]
    by_cases e : n = o.num
    · subst e
      rw [if_pos rfl, if_neg hn, if_pos (hasN_iff.mpr ⟨ha, rfl⟩)]
      rfl
    · have e2 : ¬ (Sum.inl n : Key) = Sum.inl o.num := fun x => e (Sum.inl.inj x)
      rw [if_neg e2]
      by_cases d : n ∈ nums row
      · rw [if_pos d]
      · rw [if_neg d, if_neg (fun x => e (hasN_iff.mp x).2.symm), pos_none d]
  · rw [putK_new _ (by rw [h1, pos_none hn]; rfl), List.map_append, h2, List.map_append]
    rfl
  · rw [nums_app, nums_cons, if_pos ha]
    exact h3.append_right _
theorem PK.skip {kvs : List (Key × V)} {row : List OB} {o : OB} (h : PK kvs row) (ha : o.al = false) : ∀ n, pos (row ++ [o]) n = pos row n := by
  intro n
  rw [pos_app]
  by_cases d : n ∈ nums row
  · rw [if_pos d]
  · rw [if_neg d, if_neg (by simp [hasN, ha]), pos_none d]
def dropX (n : Int) (o : OB) : OB := if hasN n o = true then { o with al := false } else o
theorem dropX_t {n : Int} {o : OB} (h : hasN n o = true) : dropX n o = { o with al := false } := if_pos h
theorem dropX_f {n : Int} {o : OB} (h : ¬ hasN n o = true) : dropX n o = o := if_neg h
def dropO (row : List OB) (n : Int) : List OB := row.map (dropX n)
theorem flat_drop : ∀ (row : List OB) (n : Int), flat (dropO row n) = flat row
  | [], _ => rfl
  | o :: r, n => by
    show flatO (dropX n o) ++ flat (dropO r n) = _
    rw [flat_drop r n, flat]
    by_cases c : hasN n o = true
    · rw [dropX_t c]
      rfl
    · rw [dropX_f c]
theorem pos_drop : ∀ (row : List OB) (n m : Int), pos (dropO row n) m = if m = n then none else pos row m
  | [], _, _ => by simp [dropO, pos]
  | o :: r, n, m => by
    show pos (dropX n o :: dropO r n) m = _
    rw [pos, pos, pos_drop r n m]
    by_cases c : hasN n o = true
    · rw [dropX_t c]
      rw [if_neg (show ¬ hasN m { o with al := false } = true by simp [hasN])]
      by_cases e : m = n
      · rw [if_pos e, if_pos e]
        rfl
      · rw [if_neg e, if_neg e, if_neg (fun x => e ((hasN_iff.mp x).2.symm.trans (hasN_iff.mp c).2))]
    · rw [dropX_f c]
      by_cases e : m = n
      · rw [if_pos e, if_pos e, if_neg (by rw [e]; exact c)]
        rfl
      · rw [if_neg e, if_neg e]
theorem nums_drop : ∀ (row : List OB) (n : Int), nums (dropO row n) = (nums row).filter fun m => decide (m ≠ n)
  | [], _ => rfl
  | o :: r, n => by
    show nums (dropX n o :: dropO r n) = _
    rw [nums_cons, nums_cons, nums_drop r n]
    by_cases a : o.al = true
    · by_cases e : o.num = n
      · rw [dropX_t (hasN_iff.mpr ⟨a, e⟩), if_neg (by simp), if_pos a, List.filter_cons, if_neg (by simp [e])]
      · rw [dropX_f (fun x => e (hasN_iff.mp x).2), if_pos a, if_pos a, List.filter_cons, if_pos (by simp [e])]
    · rw [dropX_f (fun x => a (hasN_iff.mp x).1), if_neg a, if_neg a]
theorem valV_drop : ∀ (kvs : List (Key × V)) (k j : Key), valV (dropK kvs k) j = if j = k then none else valV kvs j
  | [], k, j => by simp [dropK, valV_nil]
  | p :: r, k, j => by
    by_cases c : p.1 = k
    · rw [dropK_pos c, valV_drop r k j]
      by_cases e : j = k
      · rw [if_pos e, if_pos e]
      · rw [if_neg e, if_neg e, valV_neg (fun x => e (x.symm.trans c))]
    · rw [dropK_neg c]
      by_cases d : p.1 = j
      · rw [valV_pos d, if_neg (fun x => c (d.trans x)), valV_pos d]
      · rw [valV_neg d, valV_drop r k j, valV_neg d]
theorem PK.drop {kvs : List (Key × V)} {row : List OB} {n : Int} (h : PK kvs row) : PK (dropK kvs (Sum.inl n)) (dropO row n) := by
  obtain ⟨h1, ks, h2, h3⟩ := h
  refine ⟨fun m => ?_, ks.filter (fun m => decide (m ≠ n)), ?_, ?_⟩
  · rw [valV_drop, pos_drop, h1]
    by_cases e : m = n
    · rw [if_pos e, if_pos (by rw [e])]
      rfl
    · rw [if_neg e, if_neg (fun x => e (Sum.inl.inj x))]
  · unfold dropK
    have : ∀ (kvs : List (Key × V)) (ks : List Int), kvs.map (·.1) = ks.map Sum.inl → (kvs.filter fun kv => decide (kv.1 ≠ Sum.inl n)).map (·.1) = (ks.filter fun m => decide (m ≠ n)).map Sum.inl := by
      intro kvs
      induction kvs with
      | nil =>
        intro ks e
        cases ks with
        | nil => rfl
        | cons k ks => cases e
      | cons p r ih =>
        intro ks e
        cases ks with
        | nil => cases e
        | cons k ks =>
          rw [List.map_cons, List.map_cons, List.cons.injEq] at e
          rw [List.filter_cons, List.filter_cons, e.1]
          by_cases c : k = n
          · rw [if_neg (by simp [c]), if_neg (by simp [c])]
            exact ih ks e.2
          · rw [if_pos (by simp [c]), if_pos (by simp [c]), List.map_cons, List.map_cons, ih ks e.2, e.1]
    exact this kvs ks h2
  · rw [nums_drop]
    exact h3.filter _
def sw2 (a b m : Int) : Int := if m = a then b else if m = b then a else m
def exO (a b : Int) (o : OB) : OB := if o.al = true then { o with num := sw2 a b o.num } else o
def exch (row : List OB) (a b : Int) : List OB := row.map (exO a b)
theorem sw2_inv (a b m : Int) : sw2 a b (sw2 a b m) = m := by
  unfold sw2
  by_cases h1 : m = a <;> by_cases h2 : m = b <;> simp_all
theorem exO_sl {a b : Int} {o : OB} : (exO a b o).sl = o.sl ∧ (exO a b o).kind = o.kind ∧ (exO a b o).al = o.al := by
  unfold exO
  split <;> simp_all
theorem hasN_ex {a b m : Int} {o : OB} : hasN m (exO a b o) = hasN (sw2 a b m) o := by
  unfold exO hasN
  by_cases h : o.al = true
  · rw [if_pos h]
    show (o.al && decide (sw2 a b o.num = m)) = _
    congr 1
    have : (sw2 a b o.num = m) ↔ (o.num = sw2 a b m) := ⟨fun e => by rw [← e, sw2_inv], fun e => by rw [e, sw2_inv]⟩
    simp [this]
  · rw [if_neg h]
    simp [h]
theorem exch_exch {row : List OB} {a b : Int} : exch (exch row a b) a b = row := by
  unfold exch
  rw [List.map_map]
  have : (exO a b ∘ exO a b) = id := by
    funext o
    show exO a b (exO a b o) = o
    unfold exO
    by_cases h : o.al = true
    · rw [if_pos h, if_pos h]
      show ({ o with num := sw2 a b (sw2 a b o.num) } : OB) = o
      rw [sw2_inv]
    · rw [if_neg h, if_neg h]
  rw [this, List.map_id]
theorem pos_ex : ∀ {row : List OB} {a b m : Int}, pos (exch row a b) m = pos row (sw2 a b m)
  | [], _, _, _ => rfl
  | o :: r, a, b, m => by
    show pos (exO a b o :: exch r a b) m = _
    rw [pos, pos, hasN_ex, pos_ex, exO_sl.1]
theorem getO_ex : ∀ {row : List OB} {a b m : Int}, getO (exch row a b) m = (getO row (sw2 a b m)).map (exO a b)
  | [], _, _, _ => rfl
  | o :: r, a, b, m => by
    show getO (exO a b o :: exch r a b) m = _
    rw [getO_cons, getO_cons, hasN_ex, getO_ex]
    split <;> rfl
theorem nums_ex : ∀ {row : List OB} {a b : Int}, nums (exch row a b) = (nums row).map (sw2 a b)
  | [], _, _ => rfl
  | o :: r, a, b => by
    show nums (exO a b o :: exch r a b) = _
    rw [nums_cons, nums_cons, exO_sl.2.2, nums_ex]
    by_cases h : o.al = true
    · rw [if_pos h, if_pos h, List.map_cons]
      unfold exO
      rw [if_pos h]
    · rw [if_neg h, if_neg h]
theorem nums_ex_mem {row : List OB} {a b m : Int} (ha : a ∈ nums row) (hb : b ∈ nums row) : m ∈ nums (exch row a b) ↔ m ∈ nums row := by
  rw [nums_ex, List.mem_map]
  constructor
  · rintro ⟨x, hx, rfl⟩
    unfold sw2
    split
    · exact hb
    · split
      · exact ha
      · exact hx
  · intro h
    refine ⟨sw2 a b m, ?_, sw2_inv a b m⟩
    unfold sw2
    split
    · exact hb
    · split
      · exact ha
      · exact h
theorem nums_ex_nodup {row : List OB} {a b : Int} (h : (nums row).Nodup) : (nums (exch row a b)).Nodup := by
  rw [nums_ex]
  exact List.Pairwise.map _ (fun x y hne e => hne (by rw [← sw2_inv a b x, e, sw2_inv])) h
theorem nums_ex_perm {row : List OB} {a b : Int} (hn : (nums row).Nodup) (ha : a ∈ nums row) (hb : b ∈ nums row) : (nums (exch row a b)).Perm (nums row) :=
  (List.perm_ext_iff_of_nodup (nums_ex_nodup hn) hn).mpr fun _ => nums_ex_mem ha hb
theorem exch_none : ∀ {row : List OB} {a b : Int}, a ∉ nums row → b ∉ nums row → exch row a b = row
  | [], _, _, _, _ => rfl
  | o :: r, a, b, ha, hb => by
    show exO a b o :: exch r a b = _
    have t : ∀ x, x ∉ nums (o :: r) → x ∉ nums r ∧ (o.al = true → o.num ≠ x) := fun x hx => by
      rw [nums_cons] at hx
      by_cases h : o.al = true
      · rw [if_pos h] at hx
        exact ⟨fun z => hx (List.mem_cons_of_mem _ z), fun _ e => hx (by rw [e]; exact List.mem_cons_self ..)⟩
      · rw [if_neg h] at hx
        exact ⟨hx, fun z => absurd z h⟩
    rw [exch_none (t a ha).1 (t b hb).1]
    unfold exO
    by_cases h : o.al = true
    · rw [if_pos h, sw2, if_neg ((t a ha).2 h), if_neg ((t b hb).2 h)]
    · rw [if_neg h]
theorem set_app_right {l1 l2 : List Int} {i : Nat} {v : Int} : (l1 ++ l2).set (i + l1.length) v = l1 ++ l2.set i v := by
  rw [List.set_append_right _ _ (by omega), show i + l1.length - l1.length = i by omega]
/-- one number of the list is set -/
theorem flat_set1 : ∀ {row : List OB} {a b : Int} {i : Nat}, (nums row).Nodup → b ∉ nums row → pos row a = some i → (flat row).set i b = flat (exch row a b)
  | [], _, _, _, _, _, h => by cases h
  | o :: r, a, b, i, hn, hb, h => by
    rw [nums_cons] at hn hb
    rw [pos] at h
    show _ = flatO (exO a b o) ++ flat (exch r a b)
    by_cases c : hasN a o = true
    · rw [if_pos c] at h
      cases h
      have c' := hasN_iff.mp c
      rw [if_pos c'.1] at hn hb
      have hn2 := List.nodup_cons.mp hn
      rw [c'.2] at hn2
      rw [exch_none hn2.1 (fun z => hb (List.mem_cons_of_mem _ z)), flat]
      unfold exO
      rw [if_pos c'.1, c'.2, sw2, if_pos rfl]
      rfl
    · rw [if_neg c] at h
      cases hp : pos r a with
      | none =>
        rw [hp] at h
        cases h
      | some j =>
        rw [hp] at h
        have e : j + (3 + o.sl.length) = i := Option.some.inj h
        subst e
        have hn' : (nums r).Nodup := by
          by_cases g : o.al = true
          · rw [if_pos g] at hn
            exact (List.nodup_cons.mp hn).2
          · rw [if_neg g] at hn
            exact hn
        have hb' : b ∉ nums r := fun z => by
          by_cases g : o.al = true
          · rw [if_pos g] at hb
            exact hb (List.mem_cons_of_mem _ z)
          · rw [if_neg g] at hb
            exact hb z
        rw [flat, ← flatO_len, set_app_right, flat_set1 hn' hb' hp]
        congr 1
        unfold exO
        by_cases g : o.al = true
        · rw [if_pos g, sw2, if_neg (fun e => c (hasN_iff.mpr ⟨g, e⟩)), if_neg]
          intro e
          rw [if_pos g, e] at hb
          exact hb (List.mem_cons_self ..)
        · rw [if_neg g]
theorem exch_comm (row : List OB) (a b : Int) : exch row a b = exch row b a := by
  unfold exch
  congr 1
  funext o
  unfold exO sw2
  by_cases h1 : o.num = a <;> by_cases h2 : o.num = b <;> simp_all
/-- both numbers are set -/
theorem flat_set2 : ∀ {row : List OB} {a b : Int} {i j : Nat}, (nums row).Nodup → pos row a = some i → pos row b = some j → ((flat row).set i b).set j a = flat (exch row a b)
  | [], _, _, _, _, _, h, _ => by cases h
  | o :: r, a, b, i, j, hn, hi, hj => by
    have hn0 := hn
    rw [nums_cons] at hn
    rw [pos] at hi hj
    show _ = flatO (exO a b o) ++ flat (exch r a b)
    have tail : ∀ x k, pos r x = some k → x ∈ nums r := fun x k hk => by
      have := pos_some (row := r) (n := x)
      rw [hk] at this
      exact of_decide_eq_true this.symm
    by_cases c : hasN a o = true
    · have c' := hasN_iff.mp c
      rw [if_pos c] at hi
      cases hi
      rw [if_pos c'.1] at hn
      have hn2 := List.nodup_cons.mp hn
      rw [c'.2] at hn2
      by_cases d : hasN b o = true
      · have d' := hasN_iff.mp d
        have e : a = b := c'.2.symm.trans d'.2
        subst e
        rw [if_pos c] at hj
        cases hj
        rw [exch_none hn2.1 hn2.1, flat]
        unfold exO
        rw [if_pos c'.1, c'.2, sw2, if_pos rfl]
        rfl
      · rw [if_neg d] at hj
        cases hp : pos r b with
        | none =>
          rw [hp] at hj
          cases hj
        | some k =>
          rw [hp] at hj
          have e : k + (3 + o.sl.length) = j := Option.some.inj hj
          subst e
          rw [exch_comm r a b, ← flat_set1 hn2.2 hn2.1 hp, flat]
          have e0 : (flatO o ++ flat r).set 0 b = flatO { o with num := b } ++ flat r := rfl
          rw [e0, show (3 + o.sl.length) = (flatO { o with num := b }).length by rw [flatO_len], set_app_right]
          congr 1
          unfold exO
          rw [if_pos c'.1, c'.2, sw2, if_pos rfl]
    · rw [if_neg c] at hi
      cases hp : pos r a with
      | none =>
        rw [hp] at hi
        cases hi
      | some k =>
        rw [hp] at hi
        have e : k + (3 + o.sl.length) = i := Option.some.inj hi
        subst e
        have hn' : (nums r).Nodup := by
          by_cases g : o.al = true
          · rw [if_pos g] at hn
            exact (List.nodup_cons.mp hn).2
          · rw [if_neg g] at hn
            exact hn
        rw [flat, ← flatO_len, set_app_right]
        by_cases d : hasN b o = true
        · have d' := hasN_iff.mp d
          rw [if_pos d] at hj
          cases hj
          rw [if_pos d'.1] at hn
          have hn2 := List.nodup_cons.mp hn
          rw [d'.2] at hn2
          rw [flat_set1 hn' hn2.1 hp]
          unfold exO
          rw [if_pos d'.1, d'.2, sw2, if_neg (fun e => c (hasN_iff.mpr ⟨d'.1, d'.2.trans e⟩)), if_pos rfl]
          rfl
        · rw [if_neg d] at hj
          cases hq : pos r b with
          | none =>
            rw [hq] at hj
            cases hj
          | some l =>
            rw [hq] at hj
            have e : l + (3 + o.sl.length) = j := Option.some.inj hj
            subst e
            rw [← flatO_len, set_app_right, flat_set2 hn' hp hq]
            congr 1
            unfold exO
            by_cases g : o.al = true
            · rw [if_pos g, sw2, if_neg (fun e => c (hasN_iff.mpr ⟨g, e⟩)), if_neg (fun e => d (hasN_iff.mpr ⟨g, e⟩))]
            · rw [if_neg g]
theorem PK.ex {kvs : List (Key × V)} {row : List OB} {a b : Int} {i j : Nat} (h : PK kvs row) (hn : (nums row).Nodup) (hi : pos row a = some i) (hj : pos row b = some j) :
    PK (putK (putK kvs (Sum.inl a) (.int (j : Int))) (Sum.inl b) (.int (i : Int))) (exch row a b) := by
  obtain ⟨h1, ks, h2, h3⟩ := h
  have ha : a ∈ nums row := by
    have := pos_some (row := row) (n := a)
    rw [hi] at this
    exact of_decide_eq_true this.symm
  have hb : b ∈ nums row := by
    have := pos_some (row := row) (n := b)
    rw [hj] at this
    exact of_decide_eq_true this.symm
  have kp : ∀ (kvs : List (Key × V)) (k : Key) (v : V), (valV kvs k).isSome = true → (putK kvs k v).map (·.1) = kvs.map (·.1) := fun kvs k v hs => by
    unfold putK
    rw [valV_any, if_pos hs, List.map_map]
    apply List.map_congr_left
    intro p _
    show (if p.1 = k then (p.1, v) else p).1 = p.1
    split <;> rfl
  refine ⟨fun n => ?_, ks, ?_, h3.trans (nums_ex_perm hn ha hb).symm⟩
  · rw [valV_put, valV_put, h1, pos_ex]
    unfold sw2
    by_cases e1 : n = b
    · subst e1
      rw [if_pos rfl]
      by_cases e2 : n = a
      · subst e2
        rw [if_pos rfl, hi]
        rfl
      · rw [if_neg e2, if_pos rfl, hi]
        rfl
    · rw [if_neg (fun x => e1 (Sum.inl.inj x))]
      by_cases e2 : n = a
      · subst e2
        rw [if_pos rfl, if_pos rfl, hj]
        rfl
      · rw [if_neg (fun x => e2 (Sum.inl.inj x)), if_neg e2, if_neg e1]
  · rw [kp _ _ _ ?_, kp _ _ _ ?_, h2]
    · rw [h1, hi]
      rfl
    · rw [valV_put, h1, hj]
      split <;> rfl
/-- at a place of the list: the dict tells the place exactly of an object that is there -/
theorem pos_here {r1 r2 : List OB} {o : OB} (hn : (nums (r1 ++ o :: r2)).Nodup) : pos (r1 ++ o :: r2) o.num = some (flat r1).length ↔ o.al = true := by
  constructor
  · intro h
    have hm : o.num ∈ nums (r1 ++ o :: r2) := by
      have := pos_some (row := r1 ++ o :: r2) (n := o.num)
      rw [h] at this
      exact of_decide_eq_true this.symm
    clear hn hm
    induction r1 with
    | nil =>
      rw [List.nil_append, pos] at h
      by_cases c : hasN o.num o = true
      · exact (hasN_iff.mp c).1
      · rw [if_neg c] at h
        cases hp : pos r2 o.num with
        | none =>
          rw [hp] at h
          cases h
        | some k =>
          rw [hp] at h
          have : k + (3 + o.sl.length) = 0 := Option.some.inj h
          omega
    | cons q r ih =>
      rw [List.cons_append, pos, flat, List.length_append, flatO_len] at h
      by_cases c : hasN o.num q = true
      · rw [if_pos c] at h
        have := Option.some.inj h
        omega
      · rw [if_neg c] at h
        cases hp : pos (r ++ o :: r2) o.num with
        | none =>
          rw [hp] at h
          cases h
        | some k =>
          rw [hp] at h
          have : k + (3 + q.sl.length) = 3 + q.sl.length + (flat r).length := Option.some.inj h
          refine ih ?_
          rw [hp]
          congr 1
          omega
  · intro h
    have g : getO (r1 ++ o :: r2) o.num = some o := by
      unfold getO
      rw [List.find?_append]
      have : r1.find? (hasN o.num) = none := by
        rw [List.find?_eq_none]
        intro q hq c
        rw [nums_app, nums_cons, if_pos h] at hn
        have := (List.nodup_append.mp hn).2.2 o.num (mem_nums.mpr ⟨q, hq, c⟩) o.num (List.mem_cons_self ..)
        exact this rfl
      rw [this, List.find?_cons, hasN_iff.mpr ⟨h, rfl⟩]
      rfl
    obtain ⟨s1, s2, e, h1, h2, h3⟩ := getO_split g
    rw [h3]
    congr 1
    have : ∀ (r1 s1 : List OB), r1 ++ o :: r2 = s1 ++ o :: s2 → (∀ q ∈ s1, ¬ hasN o.num q = true) → (nums (r1 ++ o :: r2)).Nodup → r1 = s1 := by
      intro r1
      induction r1 with
      | nil =>
        intro s1 e h2 _
        cases s1 with
        | nil => rfl
        | cons q s1 =>
          rw [List.nil_append, List.cons_append, List.cons.injEq] at e
          exact absurd (hasN_iff.mpr ⟨h, rfl⟩) (e.1 ▸ h2 q (List.mem_cons_self ..))
      | cons p r1 ih =>
        intro s1 e h2 hn
        cases s1 with
        | nil =>
          rw [List.nil_append, List.cons_append, List.cons.injEq] at e
          rw [List.cons_append, nums_cons, e.1, if_pos h] at hn
          exact absurd (mem_nums.mpr ⟨o, by simp, hasN_iff.mpr ⟨h, rfl⟩⟩) (List.nodup_cons.mp hn).1
        | cons q s1 =>
          rw [List.cons_append, List.cons_append, List.cons.injEq] at e
          rw [e.1, ih s1 e.2 (fun x hx => h2 x (List.mem_cons_of_mem _ hx)) ?_]
          rw [List.cons_append, nums_cons] at hn
          by_cases a : p.al = true
          · rw [if_pos a] at hn
            exact (List.nodup_cons.mp hn).2
          · rw [if_neg a] at hn
            exact hn
    rw [this r1 s1 e h2 hn]
theorem nodup_le : ∀ (k : Nat) (l : List Int), l.Nodup → (∀ x ∈ l, 0 ≤ x ∧ x < (k : Int)) → l.length ≤ k
  | 0, l, _, h => by
    cases l with
    | nil => exact Nat.le_refl _
    | cons x l =>
      have := h x (List.mem_cons_self ..)
      omega
  | k + 1, l, hn, h => by
    have h1 : (l.filter fun x => decide (x ≠ (k : Int))).length ≤ k := nodup_le k _ (hn.filter _) fun x hx => by
      rw [List.mem_filter] at hx
      have a := h x hx.1
      have b := of_decide_eq_true hx.2
      omega
    have h2 : l.length ≤ (l.filter fun x => decide (x ≠ (k : Int))).length + 1 := by
      clear h1 h
      induction l with
      | nil => simp
      | cons x l ih =>
        have hn2 := List.nodup_cons.mp hn
        rw [List.filter_cons]
        by_cases c : x = (k : Int)
        · rw [if_neg (by simp [c])]
          have : l.filter (fun x => decide (x ≠ (k : Int))) = l := List.filter_eq_self.mpr fun y hy => decide_eq_true fun e => hn2.1 (by rw [c, ← e]; exact hy)
          rw [this, List.length_cons]
          exact Nat.le_refl _
        · rw [if_pos (by simp [c]), List.length_cons, List.length_cons]
          have := ih hn2.2
          omega
    omega
def IsFree (row : List OB) (n : Int) : Prop := 0 ≤ n ∧ n ∉ nums row ∧ ∀ m, 0 ≤ m → m < n → m ∈ nums row
theorem IsFree.uniq {row : List OB} {n m : Int} (h : IsFree row n) (g : IsFree row m) : n = m := by
  rcases Int.lt_trichotomy n m with c | c | c
  · exact absurd (g.2.2 n h.1 c) h.2.1
  · exact c
  · exact absurd (h.2.2 m g.1 c) g.2.1
/-- what the store is made of -/
structure RowOk (en : Int) (ws : List Int) (kvs : List (Key × V)) (fr : List Int) (fs : Int) (row : List OB) : Prop where
  ws : ws = flat row
  pk : PK kvs row
  nd : (nums row).Nodup
  lt : ∀ n ∈ nums row, 0 ≤ n ∧ n < fs
  fn : fr.Nodup
  fm : ∀ n, n ∈ fr ↔ 0 ≤ n ∧ n < fs ∧ n ∉ nums row
  hp : HpL fr
  f0 : 0 ≤ fs
  fe : fs ≤ en
  en : en ≤ 100000
  sz : (flat row).length ≤ 100000
theorem RowOk.frl {en ws kvs fr fs row} (R : RowOk en ws kvs fr fs row) : fr.length ≤ 100000 := by
  refine nodup_le 100000 fr R.fn fun x hx => ?_
  have := (R.fm x).mp hx
  have := R.fe
  have := R.en
  omega
theorem RowOk.kvl {en ws kvs fr fs row} (R : RowOk en ws kvs fr fs row) : kvs.length ≤ 100000 := by
  rw [R.pk.len]
  have := nums_len (row := row)
  have := flat_rows row
  have := R.sz
  omega
theorem RowOk.free_hd {en ws kvs x fr fs row} (R : RowOk en ws kvs (x :: fr) fs row) : IsFree row x ∧ x < en := by
  have h := (R.fm x).mp (List.mem_cons_self ..)
  refine ⟨⟨h.1, h.2.2, fun m m0 m1 => Classical.byContradiction fun c => ?_⟩, by have := R.fe; omega⟩
  have hm := (R.fm m).mpr ⟨m0, by omega, c⟩
  rcases List.mem_cons.mp hm with e | hm
  · omega
  · have := R.hp.head m hm
    omega
theorem RowOk.free_nil {en ws kvs fs row} (R : RowOk en ws kvs [] fs row) : IsFree row fs := by
  refine ⟨R.f0, fun h => by have := R.lt fs h; omega, fun m m0 m1 => Classical.byContradiction fun c => ?_⟩
  have := (R.fm m).mpr ⟨m0, m1, c⟩
  cases this
theorem RowOk.mk0 {en : Int} (h0 : 0 ≤ en) (h1 : en ≤ 100000) : RowOk en [] [] [] 0 [] :=
  ⟨rfl, PK.nil, List.nodup_nil, (by simp [nums]), List.nodup_nil, (fun n => by
    constructor
    · intro h
      cases h
    · rintro ⟨a, b, _⟩
      omega), HpL.nil, by omega, h0, h1, Nat.zero_le _⟩
theorem RowOk.add {en ws kvs fr fs row} {o : OB} {fr' : List Int} {fs' : Int} (R : RowOk en ws kvs fr fs row) (ha : o.al = true) (hn : o.num ∉ nums row) (hz : (flat row).length + (3 + o.sl.length) ≤ 100000)
    (fn : fr'.Nodup) (fm : ∀ n, n ∈ fr' ↔ 0 ≤ n ∧ n < fs' ∧ n ∉ nums row ∧ n ≠ o.num) (hp : HpL fr') (f0 : 0 ≤ o.num ∧ o.num < fs') (f1 : fs ≤ fs') (fe : fs' ≤ en) :
    RowOk en (ws ++ flatO o) (putK kvs (Sum.inl o.num) (.int ((flat row).length : Int))) fr' fs' (row ++ [o]) := by
  have e : nums (row ++ [o]) = nums row ++ [o.num] := by
    rw [nums_app, nums_cons, if_pos ha]
    rfl
  refine ⟨by rw [R.ws, flat_app, flat_one], R.pk.app ha hn, ?_, ?_, fn, fun n => ?_, hp, by have := R.f0; omega, fe, R.en, by rw [flat_app, flat_one, List.length_append, flatO_len]; exact hz⟩
  · rw [e]
    refine List.nodup_append.mpr ⟨R.nd, by simp, fun x hx y hy => ?_⟩
    rw [List.mem_singleton] at hy
    subst hy
    exact fun z => hn (z ▸ hx)
  · rw [e]
    intro n h
    rcases List.mem_append.mp h with h | h
    · have := R.lt n h
      omega
    · rw [List.mem_singleton] at h
      subst h
      exact f0
  · rw [fm, e, List.mem_append, List.mem_singleton, not_or]
theorem RowOk.drop {en ws kvs fr fs row} {n : Int} {fr' : List Int} (R : RowOk en ws kvs fr fs row) (hn : n ∈ nums row) (p : fr'.Perm (n :: fr)) (hp : HpL fr') : RowOk en ws (dropK kvs (Sum.inl n)) fr' fs (dropO row n) := by
  have e : ∀ m, m ∈ nums (dropO row n) ↔ m ∈ nums row ∧ m ≠ n := fun m => by
    rw [nums_drop, List.mem_filter]
    simp
  refine ⟨by rw [flat_drop]; exact R.ws, R.pk.drop, by rw [nums_drop]; exact R.nd.filter _, fun m hm => R.lt m ((e m).mp hm).1, ?_, fun m => ?_, hp, R.f0, R.fe, R.en, by rw [flat_drop]; exact R.sz⟩
  · refine p.nodup_iff.mpr (List.nodup_cons.mpr ⟨fun h => ((R.fm n).mp h).2.2 hn, R.fn⟩)
  · rw [p.mem_iff, List.mem_cons, R.fm, e]
    have := R.lt n hn
    constructor
    · rintro (rfl | ⟨a, b, c⟩)
      · exact ⟨this.1, this.2, fun z => z.2 rfl⟩
      · exact ⟨a, b, fun z => c z.1⟩
    · rintro ⟨a, b, c⟩
      by_cases d : m = n
      · exact .inl d
      · exact .inr ⟨a, b, fun z => c ⟨z, d⟩⟩
theorem RowOk.ex {en ws kvs fr fs row} {a b : Int} {i j : Nat} (R : RowOk en ws kvs fr fs row) (hi : pos row a = some i) (hj : pos row b = some j) :
    RowOk en ((ws.set i b).set j a) (putK (putK kvs (Sum.inl a) (.int (j : Int))) (Sum.inl b) (.int (i : Int))) fr fs (exch row a b) := by
  have ha : a ∈ nums row := by
    have := pos_some (row := row) (n := a)
    rw [hi] at this
    exact of_decide_eq_true this.symm
  have hb : b ∈ nums row := by
    have := pos_some (row := row) (n := b)
    rw [hj] at this
    exact of_decide_eq_true this.symm
  have e := flat_set2 R.nd hi hj
  refine ⟨by rw [R.ws, e], R.pk.ex R.nd hi hj, nums_ex_nodup R.nd, fun m hm => R.lt m ((nums_ex_mem ha hb).mp hm), R.fn, fun m => ?_, R.hp, R.f0, R.fe, R.en, ?_⟩
  · rw [R.fm, nums_ex_mem ha hb]
  · rw [← e, List.length_set, List.length_set]
    exact R.sz
theorem nums_filter {row : List OB} : nums (row.filter (·.al)) = nums row := by
  unfold nums
  rw [List.filter_filter]
  congr 2
  funext o
  simp
theorem flat_filter_le : ∀ (row : List OB), (flat (row.filter (·.al))).length ≤ (flat row).length
  | [] => Nat.le_refl _
  | o :: r => by
    have := flat_filter_le r
    rw [List.filter_cons]
    split
    · rw [flat, flat, List.length_append, List.length_append]
      omega
    · rw [flat, List.length_append]
      omega
theorem RowOk.close {en ws kvs fr fs row} {kvs' : List (Key × V)} (R : RowOk en ws kvs fr fs row) (h : PK kvs' (row.filter (·.al))) : RowOk en (flat (row.filter (·.al))) kvs' fr fs (row.filter (·.al)) := by
  refine ⟨rfl, h, by rw [nums_filter]; exact R.nd, by rw [nums_filter]; exact R.lt, R.fn, by rw [nums_filter]; exact R.fm, R.hp, R.f0, R.fe, R.en, Nat.le_trans (flat_filter_le row) R.sz⟩
theorem setI_nat {xs : List V} {i : Nat} {v : V} (h : i < xs.length) : setI xs (i : Int) v = some (xs.set i v) := by
  have : ixN xs.length (i : Int) = some i := by
    unfold ixN
    rw [if_pos (by omega), if_pos (by omega), Int.toNat_natCast]
  unfold setI
  rw [this]
  rfl
theorem cutV_mid {xs : List V} {c d : Nat} (h : c ≤ d) (hd : d ≤ xs.length) : cutV xs (some (c : Int)) (some (d : Int)) = (xs.drop c).take (d - c) := by
  unfold cutV
  rw [HT.sIx_nat, HT.sIx_nat, Nat.min_eq_left hd, Nat.min_eq_left (by omega)]
def setO (n : Int) (f : OB → OB) (o : OB) : OB := if hasN n o = true then f o else o
def putO (row : List OB) (n : Int) (j : Nat) (v : Int) : List OB := row.map (setO n fun o => { o with sl := o.sl.set j v })
def kindO (row : List OB) (n : Int) (v : Int) : List OB := row.map (setO n fun o => { o with kind := v })
structure Mild (f : OB → OB) : Prop where
  num : ∀ o, (f o).num = o.num
  al : ∀ o, (f o).al = o.al
  sl : ∀ o, (f o).sl.length = o.sl.length
theorem Mild.put (j : Nat) (v : Int) : Mild (fun o => { o with sl := o.sl.set j v }) := ⟨fun _ => rfl, fun _ => rfl, fun o => by simp⟩
theorem Mild.kind (v : Int) : Mild (fun o => { o with kind := v }) := ⟨fun _ => rfl, fun _ => rfl, fun o => rfl⟩
theorem Mild.set {f : OB → OB} (h : Mild f) (n : Int) : Mild (setO n f) := by
  refine ⟨fun o => ?_, fun o => ?_, fun o => ?_⟩ <;> unfold setO <;> split <;> first | rfl | exact h.num o | exact h.al o | exact h.sl o
theorem Mild.has {f : OB → OB} (h : Mild f) {n : Int} {o : OB} : hasN n (f o) = hasN n o := by
  unfold hasN
  rw [h.num, h.al]
theorem Mild.pos {f : OB → OB} (h : Mild f) : ∀ (row : List OB) (n : Int), pos (row.map f) n = My.pos row n
  | [], _ => rfl
  | o :: r, n => by
    rw [List.map_cons, My.pos, My.pos, h.has, h.pos r n, h.sl]
theorem Mild.nums {f : OB → OB} (h : Mild f) : ∀ (row : List OB), nums (row.map f) = My.nums row
  | [] => rfl
  | o :: r => by
    rw [List.map_cons, nums_cons, nums_cons, h.nums r, h.num, h.al]
theorem Mild.flat {f : OB → OB} (h : Mild f) : ∀ (row : List OB), (flat (row.map f)).length = (My.flat row).length
  | [] => rfl
  | o :: r => by
    rw [List.map_cons, My.flat, My.flat, List.length_append, List.length_append, h.flat r, flatO_len, flatO_len, h.sl]
theorem Mild.ok {f : OB → OB} (h : Mild f) {en ws kvs fr fs row} (R : RowOk en ws kvs fr fs row) : RowOk en (My.flat (row.map f)) kvs fr fs (row.map f) := by
  refine ⟨rfl, ⟨fun n => by rw [h.pos]; exact R.pk.1 n, by rw [h.nums]; exact R.pk.2⟩, by rw [h.nums]; exact R.nd, by rw [h.nums]; exact R.lt, R.fn, by rw [h.nums]; exact R.fm, R.hp, R.f0, R.fe, R.en, by rw [h.flat]; exact R.sz⟩
theorem flat_put : ∀ {row : List OB} {n v : Int} {o : OB} {i k : Nat} {f : OB → OB}, (nums row).Nodup → getO row n = some o → pos row n = some i → (flatO o).set k v = flatO (f o) → k < (flatO o).length → (flat row).set (i + k) v = flat (row.map (setO n f))
  | [], _, _, _, _, _, _, _, h, _, _, _ => by cases h
  | q :: r, n, v, o, i, k, f, hn, ho, hi, hf, hk => by
    rw [nums_cons] at hn
    rw [getO_cons] at ho
    rw [pos] at hi
    rw [List.map_cons, flat, flat]
    by_cases c : hasN n q = true
    · rw [if_pos c] at ho hi
      cases ho
      cases hi
      have c' := hasN_iff.mp c
      rw [if_pos c'.1] at hn
      have hn2 := List.nodup_cons.mp hn
      have e : r.map (setO n f) = r := by
        have : ∀ x ∈ r, setO n f x = id x := fun x hx => by
          unfold setO
          rw [if_neg (fun z => hn2.1 (by rw [c'.2]; exact mem_nums.mpr ⟨x, hx, z⟩))]
          rfl
        rw [List.map_congr_left this, List.map_id]
      rw [e, Nat.zero_add, List.set_append_left _ _ hk, hf]
      unfold setO
      rw [if_pos c]
    · rw [if_neg c] at ho hi
      cases hp : pos r n with
      | none =>
        rw [hp] at hi
        cases hi
      | some j =>
        rw [hp] at hi
        have e : j + (3 + q.sl.length) = i := Option.some.inj hi
        subst e
        have hn' : (nums r).Nodup := by
          by_cases g : q.al = true
          · rw [if_pos g] at hn
            exact (List.nodup_cons.mp hn).2
          · rw [if_neg g] at hn
            exact hn
        rw [← flatO_len, show j + (flatO q).length + k = (j + k) + (flatO q).length by omega, set_app_right, flat_put hn' ho hp hf hk]
        unfold setO
        rw [if_neg c]
theorem RowOk.put {en ws kvs fr fs row} {n v : Int} {o : OB} {i j : Nat} (R : RowOk en ws kvs fr fs row) (ho : getO row n = some o) (hi : pos row n = some i) (hj : j < o.sl.length) : RowOk en (ws.set (i + (3 + j)) v) kvs fr fs (putO row n j v) := by
  have e := flat_put (v := v) (k := 3 + j) (f := fun o => { o with sl := o.sl.set j v }) R.nd ho hi (by rw [show 3 + j = j + 3 by omega]; simp [flatO]) (by rw [flatO_len]; omega)
  have := ((Mild.put j v).set n).ok R
  rw [← e, ← R.ws] at this
  exact this
theorem RowOk.kind {en ws kvs fr fs row} {n v : Int} {o : OB} {i : Nat} (R : RowOk en ws kvs fr fs row) (ho : getO row n = some o) (hi : pos row n = some i) : RowOk en (ws.set (i + 2) v) kvs fr fs (kindO row n v) := by
  have e := flat_put (v := v) (k := 2) (f := fun o => { o with kind := v }) R.nd ho hi (by simp [flatO]) (by rw [flatO_len]; omega)
  have := ((Mild.kind v).set n).ok R
  rw [← e, ← R.ws] at this
  exact this

/-! ### the store on the heap -/
def stF (rm en : Int) (w d f : Addr) (fs : Int) : List (Str × V) := [("room", .int rm), ("entries", .int en), ("words", .ref w), ("_places", .ref d), ("_free", .ref f), ("_fresh", .int fs)]
theorem stF_room {rm en w d f fs} : List.lookup ("room" : Str) (stF rm en w d f fs) = some (V.int rm) := rfl
theorem stF_entries {rm en w d f fs} : List.lookup ("entries" : Str) (stF rm en w d f fs) = some (V.int en) := rfl
theorem stF_words {rm en w d f fs} : List.lookup ("words" : Str) (stF rm en w d f fs) = some (V.ref w) := rfl
theorem stF_places {rm en w d f fs} : List.lookup ("_places" : Str) (stF rm en w d f fs) = some (V.ref d) := rfl
theorem stF_free {rm en w d f fs} : List.lookup ("_free" : Str) (stF rm en w d f fs) = some (V.ref f) := rfl
theorem stF_fresh {rm en w d f fs} : List.lookup ("_fresh" : Str) (stF rm en w d f fs) = some (V.int fs) := rfl
theorem stF_mused {rm en w d f fs} : List.lookup ("used" : Str) (stF rm en w d f fs) = none := rfl
theorem stF_mexists {rm en w d f fs} : List.lookup ("exists" : Str) (stF rm en w d f fs) = none := rfl
theorem stF_mnumbers {rm en w d f fs} : List.lookup ("numbers" : Str) (stF rm en w d f fs) = none := rfl
theorem stF_mfree {rm en w d f fs} : List.lookup ("free_number" : Str) (stF rm en w d f fs) = none := rfl
theorem stF_malloc {rm en w d f fs} : List.lookup ("allocate" : Str) (stF rm en w d f fs) = none := rfl
theorem stF_msize {rm en w d f fs} : List.lookup ("size" : Str) (stF rm en w d f fs) = none := rfl
theorem stF_mkind {rm en w d f fs} : List.lookup ("kind" : Str) (stF rm en w d f fs) = none := rfl
theorem stF_mskind {rm en w d f fs} : List.lookup ("set_kind" : Str) (stF rm en w d f fs) = none := rfl
theorem stF_mget {rm en w d f fs} : List.lookup ("get" : Str) (stF rm en w d f fs) = none := rfl
theorem stF_mput {rm en w d f fs} : List.lookup ("put" : Str) (stF rm en w d f fs) = none := rfl
theorem stF_mslots {rm en w d f fs} : List.lookup ("slots" : Str) (stF rm en w d f fs) = none := rfl
theorem stF_mdrop {rm en w d f fs} : List.lookup ("drop" : Str) (stF rm en w d f fs) = none := rfl
theorem stF_mclose {rm en w d f fs} : List.lookup ("close_up" : Str) (stF rm en w d f fs) = none := rfl
theorem stF_msnap {rm en w d f fs} : List.lookup ("snapshot" : Str) (stF rm en w d f fs) = none := rfl
theorem stF_mrest {rm en w d f fs} : List.lookup ("restore" : Str) (stF rm en w d f fs) = none := rfl
theorem stF_mexch {rm en w d f fs} : List.lookup ("exchange" : Str) (stF rm en w d f fs) = none := rfl
theorem stF_len {rm en w d f fs} : (stF rm en w d f fs).length = 6 := rfl
theorem stF_m1 {rm : Int} : putF "room" (.int rm) [] = [(("room" : Str), V.int rm)] := rfl
theorem stF_m2 {rm en : Int} : putF "entries" (.int en) [(("room" : Str), V.int rm)] = [(("room" : Str), V.int rm), (("entries" : Str), V.int en)] := rfl
theorem stF_m3 {rm en : Int} {w : Addr} : putF "words" (.ref w) [(("room" : Str), V.int rm), (("entries" : Str), V.int en)] = [(("room" : Str), V.int rm), (("entries" : Str), V.int en), (("words" : Str), V.ref w)] := rfl
theorem stF_m4 {rm en : Int} {w d : Addr} : putF "_places" (.ref d) [(("room" : Str), V.int rm), (("entries" : Str), V.int en), (("words" : Str), V.ref w)] = [(("room" : Str), V.int rm), (("entries" : Str), V.int en), (("words" : Str), V.ref w), (("_places" : Str), V.ref d)] := rfl
theorem stF_m5 {rm en : Int} {w d f : Addr} : putF "_free" (.ref f) [(("room" : Str), V.int rm), (("entries" : Str), V.int en), (("words" : Str), V.ref w), (("_places" : Str), V.ref d)] = [(("room" : Str), V.int rm), (("entries" : Str), V.int en), (("words" : Str), V.ref w), (("_places" : Str), V.ref d), (("_free" : Str), V.ref f)] := rfl
theorem stF_m6 {rm en fs : Int} {w d f : Addr} : putF "_fresh" (.int fs) [(("room" : Str), V.int rm), (("entries" : Str), V.int en), (("words" : Str), V.ref w), (("_places" : Str), V.ref d), (("_free" : Str), V.ref f)] = stF rm en w d f fs := rfl
theorem stF_pf {rm en w d f fs} {z : Int} : putF "_fresh" (.int z) (stF rm en w d f fs) = stF rm en w d f z := rfl
theorem stF_pd {rm en w d f fs} {z : Addr} : putF "_places" (.ref z) (stF rm en w d f fs) = stF rm en w z f fs := rfl
theorem stF_pl {rm en w d f fs} {z : Addr} : putF "_free" (.ref z) (stF rm en w d f fs) = stF rm en w d z fs := rfl
theorem rep0 : ∀ m : Nat, (List.replicate m [V.int 0]).flatten = (List.replicate m (0 : Int)).map V.int
  | 0 => rfl
  | m + 1 => by
    rw [List.replicate_succ, List.replicate_succ, List.flatten_cons, rep0 m]
    rfl
theorem ne_ho {H : Hp} {a b : Addr} {x y : HO} (h1 : H a = some x) (h2 : H b = some y) (h : x ≠ y) : a ≠ b := fun e => by
  subst e
  rw [h1] at h2
  exact h (Option.some.inj h2)
/-- the store at a, its parts; F: what stands beside it -/
structure Si (A : Ad) (H : Hp) (a dx w d f : Addr) (rm en : Int) (ws : List Int) (kvs : List (Key × V)) (fr : List Int) (fs : Int) (F : Hp) : Prop where
  ho : H a = some (.ins A.C_Store dx (stF rm en w d f fs))
  hw : H w = some (.lst (ws.map V.int))
  hd : H d = some (.dK kvs)
  hf : H f = some (.lst (fr.map V.int))
  ne : w ≠ f
  fr : ∀ b o, F b = some o → H b = some o ∧ b ≠ a ∧ b ≠ w ∧ b ≠ d ∧ b ≠ f
def St (A : Ad) (H : Hp) (a : Addr) (rm en : Int) (row : List OB) (F : Hp) : Prop := ∃ dx w d f ws kvs fr fs, Si A H a dx w d f rm en ws kvs fr fs F ∧ RowOk en ws kvs fr fs row
theorem Si.aw {A H a dx w d f rm en ws kvs fr fs F} (I : Si A H a dx w d f rm en ws kvs fr fs F) : a ≠ w := ne_ho I.ho I.hw (by simp)
theorem Si.af {A H a dx w d f rm en ws kvs fr fs F} (I : Si A H a dx w d f rm en ws kvs fr fs F) : a ≠ f := ne_ho I.ho I.hf (by simp)
theorem Si.add {A H a dx w d f rm en ws kvs fr fs F} (I : Si A H a dx w d f rm en ws kvs fr fs F) : a ≠ d := ne_ho I.ho I.hd (by simp)
theorem Si.dw {A H a dx w d f rm en ws kvs fr fs F} (I : Si A H a dx w d f rm en ws kvs fr fs F) : d ≠ w := ne_ho I.hd I.hw (by simp)
theorem Si.df {A H a dx w d f rm en ws kvs fr fs F} (I : Si A H a dx w d f rm en ws kvs fr fs F) : d ≠ f := ne_ho I.hd I.hf (by simp)
theorem Si.same {A H H' a dx w d f rm en ws kvs fr fs F} (I : Si A H a dx w d f rm en ws kvs fr fs F) (s : Same H H') : Si A H' a dx w d f rm en ws kvs fr fs F :=
  ⟨s _ _ I.ho, s _ _ I.hw, s _ _ I.hd, s _ _ I.hf, I.ne, fun b o h => ⟨s _ _ (I.fr b o h).1, (I.fr b o h).2⟩⟩
theorem Si.words {A H a dx w d f rm en ws kvs fr fs F} (I : Si A H a dx w d f rm en ws kvs fr fs F) (ws' : List Int) : Si A (upd H w (.lst (ws'.map V.int))) a dx w d f rm en ws' kvs fr fs F :=
  ⟨by rw [upd_ne I.aw]; exact I.ho, upd_same, by rw [upd_ne I.dw]; exact I.hd, by rw [upd_ne (Ne.symm I.ne)]; exact I.hf, I.ne, fun b o h => by
    obtain ⟨h1, h2, h3, h4, h5⟩ := I.fr b o h
    exact ⟨by rw [upd_ne h3]; exact h1, h2, h3, h4, h5⟩⟩
theorem Si.free {A H a dx w d f rm en ws kvs fr fs F} (I : Si A H a dx w d f rm en ws kvs fr fs F) (fr' : List Int) : Si A (upd H f (.lst (fr'.map V.int))) a dx w d f rm en ws kvs fr' fs F :=
  ⟨by rw [upd_ne I.af]; exact I.ho, by rw [upd_ne I.ne]; exact I.hw, by rw [upd_ne I.df]; exact I.hd, upd_same, I.ne, fun b o h => by
    obtain ⟨h1, h2, h3, h4, h5⟩ := I.fr b o h
    exact ⟨by rw [upd_ne h5]; exact h1, h2, h3, h4, h5⟩⟩
theorem Si.places {A H a dx w d f rm en ws kvs fr fs F} (I : Si A H a dx w d f rm en ws kvs fr fs F) (kvs' : List (Key × V)) : Si A (upd H d (.dK kvs')) a dx w d f rm en ws kvs' fr fs F :=
  ⟨by rw [upd_ne I.add]; exact I.ho, by rw [upd_ne (Ne.symm I.dw)]; exact I.hw, upd_same, by rw [upd_ne (Ne.symm I.df)]; exact I.hf, I.ne, fun b o h => by
    obtain ⟨h1, h2, h3, h4, h5⟩ := I.fr b o h
    exact ⟨by rw [upd_ne h4]; exact h1, h2, h3, h4, h5⟩⟩
theorem Si.fresh {A H a dx w d f rm en ws kvs fr fs F} (I : Si A H a dx w d f rm en ws kvs fr fs F) (fs' : Int) : Si A (upd H a (.ins A.C_Store dx (stF rm en w d f fs'))) a dx w d f rm en ws kvs fr fs' F :=
  ⟨upd_same, by rw [upd_ne (Ne.symm I.aw)]; exact I.hw, by rw [upd_ne (Ne.symm I.add)]; exact I.hd, by rw [upd_ne (Ne.symm I.af)]; exact I.hf, I.ne, fun b o h => by
    obtain ⟨h1, h2, h3, h4, h5⟩ := I.fr b o h
    exact ⟨by rw [upd_ne h2]; exact h1, h2, h3, h4, h5⟩⟩
theorem St.same {A H H' a rm en row F} (h : St A H a rm en row F) (s : Same H H') : St A H' a rm en row F := by
  obtain ⟨dx, w, d, f, ws, kvs, fr, fs, I, R⟩ := h
  exact ⟨dx, w, d, f, ws, kvs, fr, fs, I.same s, R⟩
theorem St.get {A H a rm en row F} (h : St A H a rm en row F) {b : Addr} {o : HO} (e : F b = some o) : H b = some o := by
  obtain ⟨dx, w, d, f, ws, kvs, fr, fs, I, R⟩ := h
  exact (I.fr b o e).1
theorem Si.part {A H a dx w d f rm en ws kvs fr fs F} (I : Si A H a dx w d f rm en ws kvs fr fs F) {b : Addr} (h : H b = none) : b ≠ a ∧ b ≠ w ∧ b ≠ d ∧ b ≠ f :=
  ⟨Ne.symm (ne_of_none I.ho h), Ne.symm (ne_of_none I.hw h), Ne.symm (ne_of_none I.hd h), Ne.symm (ne_of_none I.hf h)⟩
/-- a new object beside the store -/
theorem St.new {A H a rm en row F} (h : St A H a rm en row F) {p : Addr} {o : HO} (e : H p = none) : St A (upd H p o) a rm en row (upd F p o) := by
  obtain ⟨dx, w, d, f, ws, kvs, fr, fs, I, R⟩ := h
  have J := I.same (same_new (o := o) e)
  refine ⟨dx, w, d, f, ws, kvs, fr, fs, ⟨J.ho, J.hw, J.hd, J.hf, J.ne, fun b u hb => ?_⟩, R⟩
  by_cases c : b = p
  · subst c
    rw [upd_same] at hb
    exact ⟨by rw [upd_same]; exact hb, I.part e⟩
  · rw [upd_ne c] at hb
    exact J.fr b u hb
/-- an object beside the store changes -/
theorem St.set {A H a rm en row F} (h : St A H a rm en row F) {p : Addr} {o u : HO} (e : F p = some u) : St A (upd H p o) a rm en row (upd F p o) := by
  obtain ⟨dx, w, d, f, ws, kvs, fr, fs, I, R⟩ := h
  obtain ⟨_, h2, h3, h4, h5⟩ := I.fr p u e
  refine ⟨dx, w, d, f, ws, kvs, fr, fs, ⟨by rw [upd_ne (Ne.symm h2)]; exact I.ho, by rw [upd_ne (Ne.symm h3)]; exact I.hw, by rw [upd_ne (Ne.symm h4)]; exact I.hd, by rw [upd_ne (Ne.symm h5)]; exact I.hf, I.ne, fun b v hb => ?_⟩, R⟩
  by_cases c : b = p
  · subst c
    rw [upd_same] at hb
    exact ⟨by rw [upd_same]; exact hb, h2, h3, h4, h5⟩
  · rw [upd_ne c] at hb ⊢
    exact I.fr b v hb
theorem St.less {A H a rm en row F F'} (h : St A H a rm en row F) (s : Same F' F) : St A H a rm en row F' := by
  obtain ⟨dx, w, d, f, ws, kvs, fr, fs, I, R⟩ := h
  exact ⟨dx, w, d, f, ws, kvs, fr, fs, ⟨I.ho, I.hw, I.hd, I.hf, I.ne, fun b o e => I.fr b o (s b o e)⟩, R⟩
/-- new objects beside the store, all at once -/
theorem St.more {A H H' a rm en row F F'} (h : St A H a rm en row F) (s : Same H H') (n : ∀ b o, F' b = some o → F b = some o ∨ (H b = none ∧ H' b = some o)) : St A H' a rm en row F' := by
  obtain ⟨dx, w, d, f, ws, kvs, fr, fs, I, R⟩ := h
  have J := I.same s
  refine ⟨dx, w, d, f, ws, kvs, fr, fs, ⟨J.ho, J.hw, J.hd, J.hf, J.ne, fun b o e => ?_⟩, R⟩
  rcases n b o e with q | ⟨q1, q2⟩
  · exact J.fr b o q
  · exact ⟨q2, I.part q1⟩
theorem Si.other {A H a dx w d f rm en ws kvs fr fs F} (I : Si A H a dx w d f rm en ws kvs fr fs F) {p : Addr} {o : HO} (h : p ≠ a ∧ p ≠ w ∧ p ≠ d ∧ p ≠ f) (hF : F p = none) : Si A (upd H p o) a dx w d f rm en ws kvs fr fs F :=
  ⟨by rw [upd_ne (Ne.symm h.1)]; exact I.ho, by rw [upd_ne (Ne.symm h.2.1)]; exact I.hw, by rw [upd_ne (Ne.symm h.2.2.1)]; exact I.hd, by rw [upd_ne (Ne.symm h.2.2.2)]; exact I.hf, I.ne, fun b u e => by
    rw [upd_ne (ne_of_none e hF)]
    exact I.fr b u e⟩
theorem Si.out {A H a dx w d f rm en ws kvs fr fs F} (I : Si A H a dx w d f rm en ws kvs fr fs F) {p : Addr} (h : H p = none) : F p = none := by
  cases e : F p with
  | none => rfl
  | some o =>
    rw [(I.fr p o e).1] at h
    cases h

def sp_mk (C : Addr) : Sp := fun vs H Q _ => ∃ (a dx : Addr) (rm en : Int), vs = [.ref a, .int rm, .int en] ∧ H a = some (.ins C dx []) ∧ ∀ w d f H', H w = none → H d = none → H f = none → w ≠ f → H' a = some (.ins C dx (stF rm en w d f 0)) → H' w = some (.lst []) → H' d = some (.dK []) → H' f = some (.lst []) → (∀ b, b ≠ a → b ≠ w → b ≠ d → b ≠ f → H' b = H b) → Q .non H'
theorem sp_mk_len {C vs H Q E} (h : sp_mk C vs H Q E) : vs.length = (["self", "room", "entries"] : List Str).length := by
  obtain ⟨_, _, _, _, rfl, _⟩ := h
  rfl
section
variable {P : Program} {w : World} {K : PySem.W.Frag} {mg : Str → Option Value} {base : Heap} {A : Ad}
theorem ok_Store___init__ (T : Txt K mg A) : FnOk P w K mg base CX0 1 A.f_Store___init__ A.d_Store___init__ ["self", "room", "entries"] (sp_mk A.C_Store) := by
  refine Fun.ok T.F_Store___init__ sc_Store___init__ (fun vs H Q E h => ?_) (fun cdv Ar outer s H vs Q E hr h => ?_)
  · exact sp_mk_len h
  · have hu := hu_of hr
    refine ⟨_, (pss_cons (ps_fld (pv 0) (pv 1) rfl)
    (pss_cons (ps_fld (pv 0) (pv 2) rfl)
    (pss_cons (ps_fld (pv 0) (pe_lst pa_nil) rfl)
    (pss_cons (ps_fld (pv 0) pe_dnewK rfl)
    (pss_cons (ps_fld (pv 0) (pe_lst pa_nil) rfl)
    (pss_one (ps_fld (pv 0) pe_int rfl))))))), ?_⟩
    obtain ⟨a, dx, rm, en, rfl, ha, k⟩ := h
    simp! only [ha, T.cl_Store, T.no_Store_room, T.no_Store_entries, T.no_Store_words, T.no_Store__places, T.no_Store__free, T.no_Store__fresh]
    refine ⟨by decide, by decide, Nat.zero_le _, fun w hw => ?_⟩
    have aw : a ≠ w := ne_of_none upd_same hw
    have hw0 : H w = none := by
      rw [upd_ne (Ne.symm aw)] at hw
      exact hw
    rw [upd_ne aw, upd_same]
    simp! only [T.cl_Store, T.no_Store_room, T.no_Store_entries, T.no_Store_words, T.no_Store__places, T.no_Store__free, T.no_Store__fresh]
    refine ⟨by decide, fun d hd => ?_⟩
    have ad : a ≠ d := ne_of_none upd_same hd
    have wd : w ≠ d := ne_of_none (by rw [upd_ne (Ne.symm aw), upd_same]) hd
    have hd0 : H d = none := by
      rw [upd_ne (Ne.symm ad), upd_ne (Ne.symm wd), upd_ne (Ne.symm ad)] at hd
      exact hd
    dsimp only
    rw [upd_ne ad, upd_same]
    simp! only [T.cl_Store, T.no_Store_room, T.no_Store_entries, T.no_Store_words, T.no_Store__places, T.no_Store__free, T.no_Store__fresh]
    refine ⟨by decide, Nat.zero_le _, fun f hf => ?_⟩
    have af : a ≠ f := ne_of_none upd_same hf
    have df : d ≠ f := ne_of_none (by rw [upd_ne (Ne.symm ad), upd_same]) hf
    have wf : w ≠ f := ne_of_none (by rw [upd_ne (Ne.symm aw), upd_ne wd, upd_ne (Ne.symm aw), upd_same]) hf
    have hf0 : H f = none := by
      rw [upd_ne (Ne.symm af), upd_ne (Ne.symm df), upd_ne (Ne.symm af), upd_ne (Ne.symm wf), upd_ne (Ne.symm af)] at hf
      exact hf
    rw [upd_ne af, upd_same]
    simp! only [T.cl_Store, T.no_Store_room, T.no_Store_entries, T.no_Store_words, T.no_Store__places, T.no_Store__free, T.no_Store__fresh]
    refine ⟨by decide, by decide, ?_⟩
    refine k w d f _ hw0 hd0 hf0 wf upd_same ?_ ?_ ?_ ?_
    · rw [upd_ne (Ne.symm aw), upd_ne wf, upd_ne (Ne.symm aw), upd_ne wd, upd_ne (Ne.symm aw), upd_same]
    · rw [upd_ne (Ne.symm ad), upd_ne df, upd_ne (Ne.symm ad), upd_same]
    · rw [upd_ne (Ne.symm af), upd_same]
    · intro b b1 b2 b3 b4
      rw [upd_ne b1, upd_ne b4, upd_ne b1, upd_ne b3, upd_ne b1, upd_ne b2, upd_ne b1]
end

def sp_used (A : Ad) : Sp := fun vs H Q _ => ∃ a dx w d f rm en ws kvs fr fs F, vs = [.ref a] ∧ Si A H a dx w d f rm en ws kvs fr fs F ∧ Q (.int ws.length) H
theorem sp_used_len {A vs H Q E} (h : sp_used A vs H Q E) : vs.length = (["self"] : List Str).length := by
  obtain ⟨_, _, _, _, _, _, _, _, _, _, _, _, rfl, _⟩ := h
  rfl
theorem used_of {A : Ad} {H : Hp} {a : Addr} {rm en : Int} {row : List OB} {F : Hp} {Q : VK} {E : XK} (S : St A H a rm en row F) (k : Q (.int (flat row).length) H) : sp_used A [.ref a] H Q E := by
  obtain ⟨dx, w, d, f, ws, kvs, fr, fs, I, R⟩ := S
  exact ⟨a, dx, w, d, f, rm, en, ws, kvs, fr, fs, F, rfl, I, by rw [R.ws]; exact k⟩
section
variable {P : Program} {w : World} {K : PySem.W.Frag} {mg : Str → Option Value} {base : Heap} {A : Ad}
theorem ok_Store_used (T : Txt K mg A) : FnOk P w K mg base CX0 1 A.f_Store_used A.d_Store_used ["self"] (sp_used A) := by
  refine Fun.ok T.F_Store_used sc_Store_used (fun vs H Q E h => ?_) (fun cdv Ar outer s H vs Q E hr h => ?_)
  · exact sp_used_len h
  · have hu := hu_of hr
    refine ⟨_, (pss_one (ps_ret (pe_callB call_lenM (by rfl) T.z_len PySem.boot_len (pa_cons (pe_fld (pv 0) rfl) pa_nil)))), ?_⟩
    obtain ⟨a, dx, w, d, f, rm, en, ws, kvs, fr, fs, F, rfl, I, k⟩ := h
    simp_all! only [I.ho, I.hw, I.hd, I.hf, List.length_map]
    exact k
end

def sp_exists (A : Ad) : Sp := fun vs H Q _ => ∃ a rm en row F n, vs = [.ref a, .int n] ∧ St A H a rm en row F ∧ Q (.bl (decide (n ∈ nums row))) H
theorem sp_exists_len {A vs H Q E} (h : sp_exists A vs H Q E) : vs.length = (["self", "number"] : List Str).length := by
  obtain ⟨_, _, _, _, _, _, rfl, _⟩ := h
  rfl
section
variable {P : Program} {w : World} {K : PySem.W.Frag} {mg : Str → Option Value} {base : Heap} {A : Ad}
theorem ok_Store_exists (T : Txt K mg A) : FnOk P w K mg base CX0 1 A.f_Store_exists A.d_Store_exists ["self", "number"] (sp_exists A) := by
  refine Fun.ok T.F_Store_exists sc_Store_exists (fun vs H Q E h => ?_) (fun cdv Ar outer s H vs Q E hr h => ?_)
  · exact sp_exists_len h
  · have hu := hu_of hr
    refine ⟨_, (pss_one (ps_ret (pe_cmpR (op_dinM hu) (pv 1) (pe_fld (pv 0) rfl) (by rfl)))), ?_⟩
    obtain ⟨a, rm, en, row, F, n, rfl, ⟨dx, w, d, f, ws, kvs, fr, fs, I, R⟩, k⟩ := h
    simp_all! only [I.ho, I.hw, I.hd, I.hf, List.length_map]
    rw [R.pk.1, Option.isSome_map, pos_some]
    exact k
theorem hot_Store_exists (T : Txt K mg A) : L2H.FnH P w K mg base CX0 1 A.f_Store_exists A.d_Store_exists ["self", "number"] (sp_exists A) := by
  refine okH0 T.F_Store_exists sc_Store_exists (fun vs H Q E h => ?_) (fun cdv Ar outer s H vs Q E p hot hr h => ?_)
  · exact sp_exists_len h
  · have hu := hu_ofH hr
    refine ⟨_, (pss_one (ps_ret (pe_cmpR (op_dinM hu) (pv 1) (pe_fld (pv 0) rfl) (by rfl)))), ?_⟩
    obtain ⟨a, rm, en, row, F, n, rfl, ⟨dx, w, d, f, ws, kvs, fr, fs, I, R⟩, k⟩ := h
    simp_all! only [I.ho, I.hw, I.hd, I.hf, List.length_map]
    rw [R.pk.1, Option.isSome_map, pos_some]
    exact k
end

def sp_numbers (A : Ad) : Sp := fun vs H Q _ => ∃ a rm en row F, vs = [.ref a] ∧ St A H a rm en row F ∧ ∀ (ys : List Int) (p : Addr), ys.Perm (nums row) → ys.Pairwise (· ≤ ·) → H p = none → Q (.ref p) (upd H p (.lst (ys.map V.int)))
theorem sp_numbers_len {A vs H Q E} (h : sp_numbers A vs H Q E) : vs.length = (["self"] : List Str).length := by
  obtain ⟨_, _, _, _, _, rfl, _⟩ := h
  rfl
section
variable {P : Program} {w : World} {K : PySem.W.Frag} {mg : Str → Option Value} {base : Heap} {A : Ad}
theorem ok_Store_numbers (T : Txt K mg A) : FnOk P w K mg base CX0 1 A.f_Store_numbers A.d_Store_numbers ["self"] (sp_numbers A) := by
  refine Fun.ok T.F_Store_numbers sc_Store_numbers (fun vs H Q E h => ?_) (fun cdv Ar outer s H vs Q E hr h => ?_)
  · exact sp_numbers_len h
  · have hu := hu_of hr
    refine ⟨_, (pss_one (ps_ret (pe_callB (call_sortD rfl) (by rfl) T.z_sorted (by decide +kernel) (pa_cons (pe_fld (pv 0) rfl) pa_nil)))), ?_⟩
    obtain ⟨a, rm, en, row, F, rfl, ⟨dx, w, d, f, ws, kvs, fr, fs, I, R⟩, k⟩ := h
    simp_all! only [I.ho, I.hw, I.hd, I.hf, List.length_map]
    obtain ⟨_, ks, h1, h2⟩ := R.pk
    exact ⟨ks, h1, fun ys p h3 h4 h5 => k ys p (h3.trans h2) h4 h5⟩
theorem hot_Store_numbers (T : Txt K mg A) : L2H.FnH P w K mg base CX0 1 A.f_Store_numbers A.d_Store_numbers ["self"] (sp_numbers A) := by
  refine okH0 T.F_Store_numbers sc_Store_numbers (fun vs H Q E h => ?_) (fun cdv Ar outer s H vs Q E p hot hr h => ?_)
  · exact sp_numbers_len h
  · have hu := hu_ofH hr
    refine ⟨_, (pss_one (ps_ret (pe_callB (call_sortDH ⟨_, hot, List.mem_cons_self ..⟩) (by rfl) T.z_sorted (by decide +kernel) (pa_cons (pe_fld (pv 0) rfl) pa_nil)))), ?_⟩
    obtain ⟨a, rm, en, row, F, rfl, ⟨dx, w, d, f, ws, kvs, fr, fs, I, R⟩, k⟩ := h
    simp_all! only [I.ho, I.hw, I.hd, I.hf, List.length_map]
    obtain ⟨_, ks, h1, h2⟩ := R.pk
    exact ⟨ks, h1, fun ys p h3 h4 h5 => k ys p (h3.trans h2) h4 h5⟩
end

def sp_free (A : Ad) : Sp := fun vs H Q E => ∃ a rm en row F, vs = [.ref a] ∧ St A H a rm en row F ∧ ∀ n, IsFree row n → (n < en → Q (.int n) H) ∧ (en ≤ n → ∀ dd, H dd = none → E (.ref A.C_NoNumber) (some dd) (upd H dd (.xd [("limit", .int en)])))
theorem sp_free_len {A vs H Q E} (h : sp_free A vs H Q E) : vs.length = (["self"] : List Str).length := by
  obtain ⟨_, _, _, _, _, rfl, _⟩ := h
  rfl
section
variable {P : Program} {w : World} {K : PySem.W.Frag} {mg : Str → Option Value} {base : Heap} {A : Ad}
theorem ok_Store_free_number (T : Txt K mg A) : FnOk P w K mg base (L2N.CX P w) 3 A.f_Store_free_number A.d_Store_free_number ["self"] (sp_free A) := by
  refine okN T.F_Store_free_number sc_Store_free_number (fun vs H Q E h => ?_) (fun cdv Ar outer s H vs Q E hr h => ?_)
  · exact sp_free_len h
  · have hu := hu_of hr
    refine ⟨_, (pss_cons (ps_if (pt_truth (pe_fld (pv 0) rfl) (by intro _; rfl)) (pss_one (ps_ret (pe_ix ix_lstM (pe_fld (pv 0) rfl) pe_int (fun _ _ => rfl)))) pss_nil)
    (pss_cons (ps_if (pt_cmpR op_ge (pe_fld (pv 0) rfl) (pe_fld (pv 0) rfl) (nomark _)) (pss_one (ps_rz1 rfl T.x_NoNumber (ok_NoNumber___init__ T) (hr.mono (by decide)) T.b_NoNumber___init__ (L2N.takes_of rfl rfl rfl rfl) (by rfl) T.m_NoNumber (pa_cons (pe_fld (pv 0) rfl) pa_nil))) pss_nil)
    (pss_one (ps_ret (pe_fld (pv 0) rfl))))), ?_⟩
    obtain ⟨a, rm, en, row, F, rfl, ⟨dx, w, d, f, ws, kvs, fr, fs, I, R⟩, k⟩ := h
    simp_all! only [I.ho, I.hw, I.hd, I.hf, List.length_map]
    refine ⟨!(fr.map V.int).isEmpty, .inl ⟨_, .inl (.inl I.hf), rfl⟩, ?_⟩
    cases fr with
    | nil =>
      obtain ⟨k1, k2⟩ := k fs R.free_nil
      simp only [List.map_nil, List.isEmpty_nil, Bool.not_true, Bool.false_eq_true, if_false]
      refine ite2 (fun c => k2 c) (fun c => k1 (by omega))
    | cons x fr =>
      obtain ⟨k1, k2⟩ := k x R.free_hd.1
      simp only [List.map_cons, List.isEmpty_cons, Bool.not_false, if_true]
      exact ⟨_, atI_0, k1 R.free_hd.2⟩
end

def sp_alloc (A : Ad) : Sp := fun vs H Q E => ∃ (a : Addr) (rm en : Int) (row : List OB) (F : Hp) (kd : Int) (m : Nat), vs = [.ref a, .int kd, .int (m : Int)] ∧ St A H a rm en row F ∧ (flat row).length + (3 + m) ≤ 100000 ∧
  (rm < ((flat row).length : Int) + (3 + (m : Int)) → ∀ dd, H dd = none → E (.ref A.C_NoRoom) (some dd) (upd H dd (.xd [("need", .int (3 + (m : Int)))]))) ∧
  (((flat row).length : Int) + (3 + (m : Int)) ≤ rm → ∀ n, IsFree row n → (en ≤ n → ∀ dd, H dd = none → E (.ref A.C_NoNumber) (some dd) (upd H dd (.xd [("limit", .int en)]))) ∧
    (n < en → ∀ H', St A H' a rm en (row ++ [⟨n, kd, List.replicate m 0, true⟩]) F → Q (.int n) H'))
theorem sp_alloc_len {A vs H Q E} (h : sp_alloc A vs H Q E) : vs.length = (["self", "kind", "size"] : List Str).length := by
  obtain ⟨_, _, _, _, _, _, _, rfl, _⟩ := h
  rfl
section
variable {P : Program} {w : World} {K : PySem.W.Frag} {mg : Str → Option Value} {base : Heap} {A : Ad}
theorem ok_Store_allocate (T : Txt K mg A) : FnOk P w K mg base (L2N.CX P w) 4 A.f_Store_allocate A.d_Store_allocate ["self", "kind", "size"] (sp_alloc A) := by
  refine okN T.F_Store_allocate sc_Store_allocate (fun vs H Q E h => ?_) (fun cdv Ar outer s H vs Q E hr h => ?_)
  · exact sp_alloc_len h
  · have hu := hu_of hr
    refine ⟨_, (pss_cons (ps_asg (pe_op op_add (pe_glob (v := .int (3)) (by rfl) T.c_HEADER ⟨_, rfl⟩) (pv 2)) (pg_name (i := 3) sc_Store_allocate.nd rfl (Or.inl rfl)))
    (pss_cons (ps_if (pt_cmpR op_gt (pe_op op_add (pe_meth0 (pv 0) T.cl_Store T.me_Store_used (ok_Store_used T) (hr.mono (by decide)) T.b_Store_used .nil pass0) (pv 3)) (pe_fld (pv 0) rfl) (nomark _)) (pss_one (ps_rz1 rfl T.x_NoRoom (ok_NoRoom___init__ T) (hr.mono (by decide)) T.b_NoRoom___init__ (L2N.takes_of rfl rfl rfl rfl) (by rfl) T.m_NoRoom (pa_cons (pv 3) pa_nil))) pss_nil)
    (pss_cons (ps_asg (pe_methE0 (pv 0) T.cl_Store T.me_Store_free_number (ok_Store_free_number T) (hr.mono (by decide)) T.b_Store_free_number (fun σ => L2N.passAt (L2N.takes_of rfl rfl rfl rfl) σ)) (pg_name (i := 4) sc_Store_allocate.nd rfl (Or.inl rfl)))
    (Evl.pss_cut (ps_if (pt_truth (pe_fld (pv 0) rfl) (by intro _; rfl)) (pss_one (ps_expr (StS.pe_callG call_popH (by rfl) T.h_heappop (pa_cons (pe_fld (pv 0) rfl) pa_nil)))) (pss_one (ps_fld (pv 0) (pe_op op_add (pv 4) pe_int) rfl)))
    (pss_cons (ps_asg (pe_meth0 (pv 0) T.cl_Store T.me_Store_used (ok_Store_used T) (hr.mono (by decide)) T.b_Store_used .nil pass0) (pg_sub (pe_fld (pv 0) rfl) (pv 4) (set_dictM hu)))
    (pss_cons (ps_expr (pe_bmM PySem.F.slot_list_extend PySem.F.type_list_extend mt_extend (pe_fld (pv 0) rfl) (pa_cons (pe_op op_cat (pe_lst (pa_cons (pv 4) (pa_cons (pv 2) (pa_cons (pv 1) pa_nil)))) (pe_op op_rep (pe_lst (pa_cons (pe_glob (v := .int (0)) (by rfl) T.c_NIL ⟨_, rfl⟩) pa_nil)) (pv 2))) pa_nil)))
    (pss_one (ps_ret (pv 4))))))))), ?_⟩
    obtain ⟨a, rm, en, row, F, kd, m, rfl, S, hz, k1, k2⟩ := h
    have S0 := S
    obtain ⟨dx, w, d, f, ws, kvs, fr, fs, I, R⟩ := S
    have sz : (200000 : Nat) ≤ sizeLine := by decide
    have p63 : (100000 : Int) < 2 ^ 63 := by decide
    simp_all! only [I.ho, I.hw, I.hd, I.hf, List.length_map]
    refine used_of S0 ?_
    simp_all! only [I.ho, I.hw, I.hd, I.hf, List.length_map]
    refine ite2 (fun c => k1 (by omega)) (fun c => ?_)
    have k3 := k2 (by omega)
    refine ⟨a, rm, en, row, F, rfl, S0, fun n hn => ⟨fun c2 => ?_, fun c2 => (k3 n hn).1 c2⟩⟩
    have k4 := (k3 n hn).2 c2
    refine ⟨fun σ2 H2 => σ2 = [some (V.ref a), some (V.int kd), some (V.int m), some (V.int (3 + m)), some (V.int n)] ∧ ∃ fr' fs', Si A H2 a dx w d f rm en ws kvs fr' fs' F ∧ fr'.Nodup ∧ (∀ x, x ∈ fr' ↔ 0 ≤ x ∧ x < fs' ∧ x ∉ nums row ∧ x ≠ n) ∧ HpL fr' ∧ n < fs' ∧ fs ≤ fs' ∧ fs' ≤ en, ?_, ?_⟩
    · simp_all! only [I.ho, I.hw, I.hd, I.hf, List.length_map]
      refine ⟨!(fr.map V.int).isEmpty, .inl ⟨_, .inl (.inl I.hf), rfl⟩, ?_⟩
      cases fr with
      | nil =>
        have e := hn.uniq R.free_nil
        subst e
        simp only [List.map_nil, List.isEmpty_nil, Bool.not_true, Bool.false_eq_true, if_false]
        refine ⟨by decide, [], n + 1, I.fresh _, List.nodup_nil, fun x => ?_, HpL.nil, by omega, by omega, by omega⟩
        constructor
        · intro h
          cases h
        · rintro ⟨x0, x1, x2, x3⟩
          exact absurd ((R.fm x).mpr ⟨x0, by omega, x2⟩) (by simp)
      | cons x fr =>
        have e := hn.uniq R.free_hd.1
        subst e
        simp only [List.map_cons, List.isEmpty_cons, Bool.not_false, if_true]
        have fl := R.frl
        refine ⟨n, fr, rfl, by simp at fl; omega, fun ys hp hh => ?_⟩
        have nd := List.nodup_cons.mp R.fn
        refine ⟨ys, fs, I.free ys, hp.nodup_iff.mpr nd.2, fun x => ?_, hh R.hp, ?_, Int.le_refl _, R.fe⟩
        · rw [hp.mem_iff]
          have := R.fm x
          rw [List.mem_cons] at this
          constructor
          · intro hx
            have q := this.mp (.inr hx)
            exact ⟨q.1, q.2.1, q.2.2, fun e => nd.1 (e ▸ hx)⟩
          · rintro ⟨x0, x1, x2, x3⟩
            rcases this.mpr ⟨x0, x1, x2⟩ with e | h
            · exact absurd e x3
            · exact h
        · exact ((R.fm n).mp (List.mem_cons_self ..)).2.1
    · rintro σ2 H2 ⟨rfl, fr', fs', J, n1, n2, n3, n4, n5, n6⟩
      simp_all! only [J.ho, J.hw, J.hd, J.hf, List.length_map]
      refine ⟨a, dx, w, d, f, rm, en, ws, kvs, fr', fs', F, rfl, J, ?_⟩
      have kl := R.kvl
      have e1 : (List.replicate m [V.int 0]).flatten.length = m := by rw [rep0, List.length_map, List.length_replicate]
      have J2 := J.places (putK kvs (Sum.inl n) (.int (ws.length : Int)))
      simp_all! only [J.ho, J.hw, J.hd, J.hf, List.length_map]
      refine ⟨by omega, ?_⟩
      simp_all! only [J2.ho, J2.hw, J2.hd, J2.hf, Int.toNat_natCast, List.length_map]
      refine ⟨by omega, fun p hp => ⟨by omega, fun p1 h1 => ⟨by omega, by omega, by omega, fun p2 h2 => ?_⟩⟩⟩
      have g1 := ne_of_none upd_same h1
      have g2 := ne_of_none (by rw [upd_ne g1, upd_same]) h2
      refine ⟨_, by rw [upd_ne g2, upd_ne g1, upd_same], by rw [e1]; simp; omega, fun p3 h3 => ?_⟩
      have J5 := (((J2.same (same_new hp)).same (same_new h1)).same (same_new h2)).same (same_new (o := .lst ([V.int n, V.int m, V.int kd] ++ (List.replicate m [V.int 0]).flatten)) h3)
      have hz2 : ws.length + (3 + m) ≤ 100000 := by rw [R.ws]; exact hz
      refine ⟨_, J5.hw, by rw [List.length_append, e1, List.length_map]; simp; omega, ?_⟩
      have ee : ws.map V.int ++ ([V.int n, V.int m, V.int kd] ++ (List.replicate m [V.int 0]).flatten) = (ws ++ flatO ⟨n, kd, List.replicate m 0, true⟩).map V.int := by
        rw [rep0, List.map_append, flatO]
        simp
      rw [ee]
      refine k4 _ ⟨dx, w, d, f, _, _, _, _, J5.words _, ?_⟩
      have := R.add (o := ⟨n, kd, List.replicate m 0, true⟩) rfl hn.2.1 (by rw [List.length_replicate]; exact hz) n1 n2 n3 ⟨hn.1, n4⟩ n5 n6
      rw [R.ws] at this ⊢
      exact this
end

def sp_size (A : Ad) : Sp := fun vs H Q _ => ∃ a rm en row F n o, vs = [.ref a, .int n] ∧ St A H a rm en row F ∧ getO row n = some o ∧ Q (.int (o.sl.length : Int)) H
theorem sp_size_len {A vs H Q E} (h : sp_size A vs H Q E) : vs.length = (["self", "number"] : List Str).length := by
  obtain ⟨_, _, _, _, _, _, _, rfl, _⟩ := h
  rfl
section
variable {P : Program} {w : World} {K : PySem.W.Frag} {mg : Str → Option Value} {base : Heap} {A : Ad}
theorem ok_Store_size (T : Txt K mg A) : FnOk P w K mg base CX0 1 A.f_Store_size A.d_Store_size ["self", "number"] (sp_size A) := by
  refine Fun.ok T.F_Store_size sc_Store_size (fun vs H Q E h => ?_) (fun cdv Ar outer s H vs Q E hr h => ?_)
  · exact sp_size_len h
  · have hu := hu_of hr
    refine ⟨_, (pss_one (ps_ret (pe_ix ix_lstM (pe_fld (pv 0) rfl) (pe_op op_add (pe_ix (ix_dictM hu) (pe_fld (pv 0) rfl) (pv 1) (fun _ _ => rfl)) pe_int) (fun _ _ => rfl)))), ?_⟩
    obtain ⟨a, rm, en, row, F, n, o, rfl, ⟨dx, w, d, f, ws, kvs, fr, fs, I, R⟩, ho, k⟩ := h
    obtain ⟨i, p1, p2, p3, p4, p5, p6⟩ := word_at ho
    have hv : valV kvs (Sum.inl n) = some (.int (i : Int)) := by rw [R.pk.1, p1]; rfl
    have hat : atI (ws.map V.int) ((i : Int) + 1) = some (.int (o.sl.length : Int)) := by
      rw [show (i : Int) + 1 = ((i + 1 : Nat) : Int) by omega]
      exact atI_nat (by rw [R.ws, List.getElem?_map, p4]; rfl)
    simp_all! only [I.ho, I.hw, I.hd, I.hf, List.length_map, hv, hat]
    exact k
theorem hot_Store_size (T : Txt K mg A) : L2H.FnH P w K mg base CX0 1 A.f_Store_size A.d_Store_size ["self", "number"] (sp_size A) := by
  refine okH0 T.F_Store_size sc_Store_size (fun vs H Q E h => ?_) (fun cdv Ar outer s H vs Q E p hot hr h => ?_)
  · exact sp_size_len h
  · have hu := hu_ofH hr
    refine ⟨_, (pss_one (ps_ret (pe_ix ix_lstM (pe_fld (pv 0) rfl) (pe_op op_add (pe_ix (ix_dictM hu) (pe_fld (pv 0) rfl) (pv 1) (fun _ _ => rfl)) pe_int) (fun _ _ => rfl)))), ?_⟩
    obtain ⟨a, rm, en, row, F, n, o, rfl, ⟨dx, w, d, f, ws, kvs, fr, fs, I, R⟩, ho, k⟩ := h
    obtain ⟨i, p1, p2, p3, p4, p5, p6⟩ := word_at ho
    have hv : valV kvs (Sum.inl n) = some (.int (i : Int)) := by rw [R.pk.1, p1]; rfl
    have hat : atI (ws.map V.int) ((i : Int) + 1) = some (.int (o.sl.length : Int)) := by
      rw [show (i : Int) + 1 = ((i + 1 : Nat) : Int) by omega]
      exact atI_nat (by rw [R.ws, List.getElem?_map, p4]; rfl)
    simp_all! only [I.ho, I.hw, I.hd, I.hf, List.length_map, hv, hat]
    exact k
end

def sp_kind (A : Ad) : Sp := fun vs H Q _ => ∃ a rm en row F n o, vs = [.ref a, .int n] ∧ St A H a rm en row F ∧ getO row n = some o ∧ Q (.int o.kind) H
theorem sp_kind_len {A vs H Q E} (h : sp_kind A vs H Q E) : vs.length = (["self", "number"] : List Str).length := by
  obtain ⟨_, _, _, _, _, _, _, rfl, _⟩ := h
  rfl
section
variable {P : Program} {w : World} {K : PySem.W.Frag} {mg : Str → Option Value} {base : Heap} {A : Ad}
theorem ok_Store_kind (T : Txt K mg A) : FnOk P w K mg base CX0 1 A.f_Store_kind A.d_Store_kind ["self", "number"] (sp_kind A) := by
  refine Fun.ok T.F_Store_kind sc_Store_kind (fun vs H Q E h => ?_) (fun cdv Ar outer s H vs Q E hr h => ?_)
  · exact sp_kind_len h
  · have hu := hu_of hr
    refine ⟨_, (pss_one (ps_ret (pe_ix ix_lstM (pe_fld (pv 0) rfl) (pe_op op_add (pe_ix (ix_dictM hu) (pe_fld (pv 0) rfl) (pv 1) (fun _ _ => rfl)) pe_int) (fun _ _ => rfl)))), ?_⟩
    obtain ⟨a, rm, en, row, F, n, o, rfl, ⟨dx, w, d, f, ws, kvs, fr, fs, I, R⟩, ho, k⟩ := h
    obtain ⟨i, p1, p2, p3, p4, p5, p6⟩ := word_at ho
    have hv : valV kvs (Sum.inl n) = some (.int (i : Int)) := by rw [R.pk.1, p1]; rfl
    have hat : atI (ws.map V.int) ((i : Int) + 2) = some (.int o.kind) := by
      rw [show (i : Int) + 2 = ((i + 2 : Nat) : Int) by omega]
      exact atI_nat (by rw [R.ws, List.getElem?_map, p5]; rfl)
    simp_all! only [I.ho, I.hw, I.hd, I.hf, List.length_map, hv, hat]
    exact k
theorem hot_Store_kind (T : Txt K mg A) : L2H.FnH P w K mg base CX0 1 A.f_Store_kind A.d_Store_kind ["self", "number"] (sp_kind A) := by
  refine okH0 T.F_Store_kind sc_Store_kind (fun vs H Q E h => ?_) (fun cdv Ar outer s H vs Q E p hot hr h => ?_)
  · exact sp_kind_len h
  · have hu := hu_ofH hr
    refine ⟨_, (pss_one (ps_ret (pe_ix ix_lstM (pe_fld (pv 0) rfl) (pe_op op_add (pe_ix (ix_dictM hu) (pe_fld (pv 0) rfl) (pv 1) (fun _ _ => rfl)) pe_int) (fun _ _ => rfl)))), ?_⟩
    obtain ⟨a, rm, en, row, F, n, o, rfl, ⟨dx, w, d, f, ws, kvs, fr, fs, I, R⟩, ho, k⟩ := h
    obtain ⟨i, p1, p2, p3, p4, p5, p6⟩ := word_at ho
    have hv : valV kvs (Sum.inl n) = some (.int (i : Int)) := by rw [R.pk.1, p1]; rfl
    have hat : atI (ws.map V.int) ((i : Int) + 2) = some (.int o.kind) := by
      rw [show (i : Int) + 2 = ((i + 2 : Nat) : Int) by omega]
      exact atI_nat (by rw [R.ws, List.getElem?_map, p5]; rfl)
    simp_all! only [I.ho, I.hw, I.hd, I.hf, List.length_map, hv, hat]
    exact k
end

def sp_get (A : Ad) : Sp := fun vs H Q _ => ∃ a rm en row F n o, ∃ (j : Nat) (v : Int), vs = [.ref a, .int n, .int (j : Int)] ∧ St A H a rm en row F ∧ getO row n = some o ∧ o.sl[j]? = some v ∧ Q (.int v) H
theorem sp_get_len {A vs H Q E} (h : sp_get A vs H Q E) : vs.length = (["self", "number", "at"] : List Str).length := by
  obtain ⟨_, _, _, _, _, _, _, _, _, rfl, _⟩ := h
  rfl
section
variable {P : Program} {w : World} {K : PySem.W.Frag} {mg : Str → Option Value} {base : Heap} {A : Ad}
theorem ok_Store_get (T : Txt K mg A) : FnOk P w K mg base CX0 1 A.f_Store_get A.d_Store_get ["self", "number", "at"] (sp_get A) := by
  refine Fun.ok T.F_Store_get sc_Store_get (fun vs H Q E h => ?_) (fun cdv Ar outer s H vs Q E hr h => ?_)
  · exact sp_get_len h
  · have hu := hu_of hr
    refine ⟨_, (pss_one (ps_ret (pe_ix ix_lstM (pe_fld (pv 0) rfl) (pe_op op_add (pe_op op_add (pe_ix (ix_dictM hu) (pe_fld (pv 0) rfl) (pv 1) (fun _ _ => rfl)) (pe_glob (v := .int (3)) (by rfl) T.c_HEADER ⟨_, rfl⟩)) (pv 2)) (fun _ _ => rfl)))), ?_⟩
    obtain ⟨a, rm, en, row, F, n, o, j, v, rfl, ⟨dx, w, d, f, ws, kvs, fr, fs, I, R⟩, ho, hj, k⟩ := h
    obtain ⟨i, p1, p2, p3, p4, p5, p6⟩ := word_at ho
    have hv : valV kvs (Sum.inl n) = some (.int (i : Int)) := by rw [R.pk.1, p1]; rfl
    have hlt := (List.getElem?_eq_some_iff.mp hj).1
    have hat : atI (ws.map V.int) ((i : Int) + 3 + (j : Int)) = some (.int v) := by
      rw [show (i : Int) + 3 + (j : Int) = ((i + (3 + j) : Nat) : Int) by omega]
      exact atI_nat (by rw [R.ws, List.getElem?_map, p6 j hlt, hj]; rfl)
    simp_all! only [I.ho, I.hw, I.hd, I.hf, List.length_map, hv, hat]
    exact k
end

def sp_put (A : Ad) : Sp := fun vs H Q _ => ∃ a rm en row F n o, ∃ (j : Nat) (v : Int), vs = [.ref a, .int n, .int (j : Int), .int v] ∧ St A H a rm en row F ∧ getO row n = some o ∧ j < o.sl.length ∧ ∀ H', St A H' a rm en (putO row n j v) F → Q .non H'
theorem sp_put_len {A vs H Q E} (h : sp_put A vs H Q E) : vs.length = (["self", "number", "at", "word"] : List Str).length := by
  obtain ⟨_, _, _, _, _, _, _, _, _, rfl, _⟩ := h
  rfl
section
variable {P : Program} {w : World} {K : PySem.W.Frag} {mg : Str → Option Value} {base : Heap} {A : Ad}
theorem ok_Store_put (T : Txt K mg A) : FnOk P w K mg base CX0 1 A.f_Store_put A.d_Store_put ["self", "number", "at", "word"] (sp_put A) := by
  refine Fun.ok T.F_Store_put sc_Store_put (fun vs H Q E h => ?_) (fun cdv Ar outer s H vs Q E hr h => ?_)
  · exact sp_put_len h
  · have hu := hu_of hr
    refine ⟨_, (pss_one (ps_asg (pv 3) (pg_sub (pe_fld (pv 0) rfl) (pe_op op_add (pe_op op_add (pe_ix (ix_dictM hu) (pe_fld (pv 0) rfl) (pv 1) (fun _ _ => rfl)) (pe_glob (v := .int (3)) (by rfl) T.c_HEADER ⟨_, rfl⟩)) (pv 2)) set_lstM))), ?_⟩
    obtain ⟨a, rm, en, row, F, n, o, j, v, rfl, ⟨dx, w, d, f, ws, kvs, fr, fs, I, R⟩, ho, hj, k⟩ := h
    obtain ⟨i, p1, p2, p3, p4, p5, p6⟩ := word_at ho
    have hv : valV kvs (Sum.inl n) = some (.int (i : Int)) := by rw [R.pk.1, p1]; rfl
    have hset : setI (ws.map V.int) ((i : Int) + 3 + (j : Int)) (.int v) = some ((ws.set (i + (3 + j)) v).map V.int) := by
      rw [show (i : Int) + 3 + (j : Int) = ((i + (3 + j) : Nat) : Int) by omega]
      rw [setI_nat (by rw [List.length_map, R.ws]; omega), List.map_set]
    simp_all! only [I.ho, I.hw, I.hd, I.hf, List.length_map, hv, hset]
    exact k _ ⟨dx, w, d, f, _, _, _, _, I.words _, R.put ho p1 hj⟩
end

def sp_skind (A : Ad) : Sp := fun vs H Q _ => ∃ a rm en row F n o, ∃ (v : Int), vs = [.ref a, .int n, .int v] ∧ St A H a rm en row F ∧ getO row n = some o ∧ ∀ H', St A H' a rm en (kindO row n v) F → Q .non H'
theorem sp_skind_len {A vs H Q E} (h : sp_skind A vs H Q E) : vs.length = (["self", "number", "word"] : List Str).length := by
  obtain ⟨_, _, _, _, _, _, _, _, rfl, _⟩ := h
  rfl
section
variable {P : Program} {w : World} {K : PySem.W.Frag} {mg : Str → Option Value} {base : Heap} {A : Ad}
theorem ok_Store_set_kind (T : Txt K mg A) : FnOk P w K mg base CX0 1 A.f_Store_set_kind A.d_Store_set_kind ["self", "number", "word"] (sp_skind A) := by
  refine Fun.ok T.F_Store_set_kind sc_Store_set_kind (fun vs H Q E h => ?_) (fun cdv Ar outer s H vs Q E hr h => ?_)
  · exact sp_skind_len h
  · have hu := hu_of hr
    refine ⟨_, (pss_one (ps_asg (pv 2) (pg_sub (pe_fld (pv 0) rfl) (pe_op op_add (pe_ix (ix_dictM hu) (pe_fld (pv 0) rfl) (pv 1) (fun _ _ => rfl)) pe_int) set_lstM))), ?_⟩
    obtain ⟨a, rm, en, row, F, n, o, v, rfl, ⟨dx, w, d, f, ws, kvs, fr, fs, I, R⟩, ho, k⟩ := h
    obtain ⟨i, p1, p2, p3, p4, p5, p6⟩ := word_at ho
    have hv : valV kvs (Sum.inl n) = some (.int (i : Int)) := by rw [R.pk.1, p1]; rfl
    have hset : setI (ws.map V.int) ((i : Int) + 2) (.int v) = some ((ws.set (i + 2) v).map V.int) := by
      rw [show (i : Int) + 2 = ((i + 2 : Nat) : Int) by omega]
      rw [setI_nat (by rw [List.length_map, R.ws]; omega), List.map_set]
    simp_all! only [I.ho, I.hw, I.hd, I.hf, List.length_map, hv, hset]
    exact k _ ⟨dx, w, d, f, _, _, _, _, I.words _, R.kind ho p1⟩
end

def sp_slots (A : Ad) : Sp := fun vs H Q _ => ∃ a rm en row F n o, vs = [.ref a, .int n] ∧ St A H a rm en row F ∧ getO row n = some o ∧ ∀ p, H p = none → Q (.ref p) (upd H p (.lst (o.sl.map V.int)))
theorem sp_slots_len {A vs H Q E} (h : sp_slots A vs H Q E) : vs.length = (["self", "number"] : List Str).length := by
  obtain ⟨_, _, _, _, _, _, _, rfl, _⟩ := h
  rfl
section
variable {P : Program} {w : World} {K : PySem.W.Frag} {mg : Str → Option Value} {base : Heap} {A : Ad}
theorem ok_Store_slots (T : Txt K mg A) : FnOk P w K mg base CX0 2 A.f_Store_slots A.d_Store_slots ["self", "number"] (sp_slots A) := by
  refine Fun.ok T.F_Store_slots sc_Store_slots (fun vs H Q E h => ?_) (fun cdv Ar outer s H vs Q E hr h => ?_)
  · exact sp_slots_len h
  · have hu := hu_of hr
    refine ⟨_, (pss_cons (ps_asg (pe_op op_add (pe_ix (ix_dictM hu) (pe_fld (pv 0) rfl) (pv 1) (fun _ _ => rfl)) (pe_glob (v := .int (3)) (by rfl) T.c_HEADER ⟨_, rfl⟩)) (pg_name (i := 2) sc_Store_slots.nd rfl (Or.inl rfl)))
    (pss_one (ps_ret (pe_slice sl_listM (pe_fld (pv 0) rfl) (po_some (pv 2)) (po_some (pe_op op_add (pv 2) (pe_meth (pv 0) T.cl_Store T.me_Store_size (ok_Store_size T) (hr.mono (by decide)) T.b_Store_size .nil pass0 (pa_cons (pv 1) pa_nil)))))))), ?_⟩
    obtain ⟨a, rm, en, row, F, n, o, rfl, S, ho, k⟩ := h
    have S0 := S
    obtain ⟨dx, w, d, f, ws, kvs, fr, fs, I, R⟩ := S
    obtain ⟨i, p1, p2, p3, p4, p5, p6⟩ := word_at ho
    have hv : valV kvs (Sum.inl n) = some (.int (i : Int)) := by rw [R.pk.1, p1]; rfl
    simp_all! only [I.ho, I.hw, I.hd, I.hf, List.length_map, hv]
    refine ⟨a, rm, en, row, F, n, o, rfl, S0, ho, ?_⟩
    have e : cutV (ws.map V.int) (some ((i : Int) + 3)) (some ((i : Int) + 3 + (o.sl.length : Int))) = o.sl.map V.int := by
      rw [show (i : Int) + 3 = ((i + 3 : Nat) : Int) by omega, show ((i + 3 : Nat) : Int) + (o.sl.length : Int) = ((i + 3 + o.sl.length : Nat) : Int) by omega, cutV_mid, R.ws, ← List.map_drop, ← List.map_take, show i + 3 + o.sl.length - (i + 3) = o.sl.length by omega, slots_at ho p1]
      · omega
      · rw [List.length_map, R.ws]
        omega
    simp_all! only [I.ho, I.hw, I.hd, I.hf, List.length_map, hv, e]
    exact k
theorem hot_Store_slots (T : Txt K mg A) : L2H.FnH P w K mg base CX0 2 A.f_Store_slots A.d_Store_slots ["self", "number"] (sp_slots A) := by
  refine okH0 T.F_Store_slots sc_Store_slots (fun vs H Q E h => ?_) (fun cdv Ar outer s H vs Q E p hot hr h => ?_)
  · exact sp_slots_len h
  · have hu := hu_ofH hr
    refine ⟨_, (pss_cons (ps_asg (pe_op op_add (pe_ix (ix_dictM hu) (pe_fld (pv 0) rfl) (pv 1) (fun _ _ => rfl)) (pe_glob (v := .int (3)) (by rfl) T.c_HEADER ⟨_, rfl⟩)) (pg_name (i := 2) sc_Store_slots.nd rfl (Or.inl rfl)))
    (pss_one (ps_ret (pe_slice sl_listM (pe_fld (pv 0) rfl) (po_some (pv 2)) (po_some (pe_op op_add (pv 2) (pe_methHc (pv 0) T.cl_Store T.me_Store_size (hot_Store_size T) (hr.mono (by decide)) ⟨_, hot, List.mem_cons_self ..⟩ T.b_Store_size (pa_cons (pv 1) pa_nil)))))))), ?_⟩
    obtain ⟨a, rm, en, row, F, n, o, rfl, S, ho, k⟩ := h
    have S0 := S
    obtain ⟨dx, w, d, f, ws, kvs, fr, fs, I, R⟩ := S
    obtain ⟨i, p1, p2, p3, p4, p5, p6⟩ := word_at ho
    have hv : valV kvs (Sum.inl n) = some (.int (i : Int)) := by rw [R.pk.1, p1]; rfl
    simp_all! only [I.ho, I.hw, I.hd, I.hf, List.length_map, hv]
    refine ⟨a, rm, en, row, F, n, o, rfl, S0, ho, ?_⟩
    have e : cutV (ws.map V.int) (some ((i : Int) + 3)) (some ((i : Int) + 3 + (o.sl.length : Int))) = o.sl.map V.int := by
      rw [show (i : Int) + 3 = ((i + 3 : Nat) : Int) by omega, show ((i + 3 : Nat) : Int) + (o.sl.length : Int) = ((i + 3 + o.sl.length : Nat) : Int) by omega, cutV_mid, R.ws, ← List.map_drop, ← List.map_take, show i + 3 + o.sl.length - (i + 3) = o.sl.length by omega, slots_at ho p1]
      · omega
      · rw [List.length_map, R.ws]
        omega
    simp_all! only [I.ho, I.hw, I.hd, I.hf, List.length_map, hv, e]
    exact k
end

def sp_drop (A : Ad) : Sp := fun vs H Q _ => ∃ a rm en row F n, vs = [.ref a, .int n] ∧ St A H a rm en row F ∧ n ∈ nums row ∧ ∀ H', St A H' a rm en (dropO row n) F → Q .non H'
theorem sp_drop_len {A vs H Q E} (h : sp_drop A vs H Q E) : vs.length = (["self", "number"] : List Str).length := by
  obtain ⟨_, _, _, _, _, _, rfl, _⟩ := h
  rfl
section
variable {P : Program} {w : World} {K : PySem.W.Frag} {mg : Str → Option Value} {base : Heap} {A : Ad}
theorem ok_Store_drop (T : Txt K mg A) : FnOk P w K mg base CX0 1 A.f_Store_drop A.d_Store_drop ["self", "number"] (sp_drop A) := by
  refine Fun.ok T.F_Store_drop sc_Store_drop (fun vs H Q E h => ?_) (fun cdv Ar outer s H vs Q E hr h => ?_)
  · exact sp_drop_len h
  · have hu := hu_of hr
    refine ⟨_, (pss_cons (ps_ddel (pe_fld (pv 0) rfl) (pv 1))
    (pss_one (ps_expr (StS.pe_callG call_push (by rfl) T.h_heappush (pa_cons (pe_fld (pv 0) rfl) (pa_cons (pv 1) pa_nil)))))), ?_⟩
    obtain ⟨a, rm, en, row, F, n, rfl, ⟨dx, w, d, f, ws, kvs, fr, fs, I, R⟩, hn, k⟩ := h
    simp_all! only [I.ho, I.hw, I.hd, I.hf, List.length_map]
    have J := I.places (dropK kvs (Sum.inl n))
    refine ⟨Sum.inl n, rfl, ?_, ?_⟩
    · rw [R.pk.1, Option.isSome_map, pos_some]
      exact decide_eq_true hn
    · simp_all! only [J.ho, J.hw, J.hd, J.hf, List.length_map]
      have fl := R.frl
      refine ⟨fr, rfl, fl, fun ys hp hh => ?_⟩
      exact k _ ⟨dx, w, d, f, _, _, _, _, J.free ys, R.drop hn hp (hh R.hp)⟩
theorem hot_Store_drop (T : Txt K mg A) : L2H.FnH P w K mg base CX0 1 A.f_Store_drop A.d_Store_drop ["self", "number"] (sp_drop A) := by
  refine okH0 T.F_Store_drop sc_Store_drop (fun vs H Q E h => ?_) (fun cdv Ar outer s H vs Q E p hot hr h => ?_)
  · exact sp_drop_len h
  · have hu := hu_ofH hr
    refine ⟨_, (pss_cons (ps_ddel (pe_fld (pv 0) rfl) (pv 1))
    (pss_one (ps_expr (StS.pe_callG call_push (by rfl) T.h_heappush (pa_cons (pe_fld (pv 0) rfl) (pa_cons (pv 1) pa_nil)))))), ?_⟩
    obtain ⟨a, rm, en, row, F, n, rfl, ⟨dx, w, d, f, ws, kvs, fr, fs, I, R⟩, hn, k⟩ := h
    simp_all! only [I.ho, I.hw, I.hd, I.hf, List.length_map]
    have J := I.places (dropK kvs (Sum.inl n))
    refine ⟨Sum.inl n, rfl, ?_, ?_⟩
    · rw [R.pk.1, Option.isSome_map, pos_some]
      exact decide_eq_true hn
    · simp_all! only [J.ho, J.hw, J.hd, J.hf, List.length_map]
      have fl := R.frl
      refine ⟨fr, rfl, fl, fun ys hp hh => ?_⟩
      exact k _ ⟨dx, w, d, f, _, _, _, _, J.free ys, R.drop hn hp (hh R.hp)⟩
end

def sp_close (A : Ad) : Sp := fun vs H Q _ => ∃ a rm en row F, vs = [.ref a] ∧ St A H a rm en row F ∧ ∀ H', St A H' a rm en (row.filter (·.al)) F → Q .non H'
theorem sp_close_len {A vs H Q E} (h : sp_close A vs H Q E) : vs.length = (["self"] : List Str).length := by
  obtain ⟨_, _, _, _, _, rfl, _⟩ := h
  rfl
/-- closing up, under way: the first i objects have been looked at -/
structure Cl (A : Ad) (H : Hp) (H0 : Hp) (a dx w d f : Addr) (rm en : Int) (ws : List Int) (kvs : List (Key × V)) (fr : List Int) (fs : Int) (F : Hp) (p pd : Addr) (row : List OB) (i : Nat) (kvs' : List (Key × V)) : Prop where
  st : Si A H a dx w d f rm en ws kvs fr fs F
  hp : H p = some (.lst ((flat ((row.take i).filter (·.al))).map V.int))
  hd : H pd = some (.dK kvs')
  pk : PK kvs' ((row.take i).filter (·.al))
  n1 : H0 p = none
  n2 : H0 pd = none
section
variable {P : Program} {w : World} {K : PySem.W.Frag} {mg : Str → Option Value} {base : Heap} {A : Ad}
theorem ok_Store_close_up (T : Txt K mg A) : FnOk P w K mg base CX0 1 A.f_Store_close_up A.d_Store_close_up ["self"] (sp_close A) := by
  refine Fun.ok T.F_Store_close_up sc_Store_close_up (fun vs H Q E h => ?_) (fun cdv Ar outer s H vs Q E hr h => ?_)
  · exact sp_close_len h
  · have hu := hu_of hr
    refine ⟨_, (pss_cons (ps_asg (pe_lst pa_nil) (pg_name (i := 1) sc_Store_close_up.nd rfl (Or.inl rfl)))
    (pss_cons (ps_asg pe_dnewK (pg_name (i := 2) sc_Store_close_up.nd rfl (Or.inl rfl)))
    (pss_cons (ps_asg pe_int (pg_name (i := 3) sc_Store_close_up.nd rfl (Or.inl rfl)))
    (pss_cons (ps_while PassesOwn.never (pt_cmpR op_lt (pv 3) (pe_callB call_lenM (by rfl) T.z_len PySem.boot_len (pa_cons (pe_fld (pv 0) rfl) pa_nil)) (nomark _)) (pss_cons (ps_asg (pe_ix ix_lstM (pe_fld (pv 0) rfl) (pv 3) (fun _ _ => rfl)) (pg_name (i := 4) sc_Store_close_up.nd rfl (Or.inl rfl)))
    (pss_cons (ps_asg (pe_op op_add (pe_op op_add (pv 3) (pe_glob (v := .int (3)) (by rfl) T.c_HEADER ⟨_, rfl⟩)) (pe_ix ix_lstM (pe_fld (pv 0) rfl) (pe_op op_add (pv 3) pe_int) (fun _ _ => rfl))) (pg_name (i := 5) sc_Store_close_up.nd rfl (Or.inl rfl)))
    (Evl.pss_cut (ps_if (pt_cmpR op_eq (pe_dgetM hu (pe_fld (pv 0) rfl) (pv 4) ⟨by rfl, by rfl, by rfl, by rfl⟩) (pv 3) (nomark _)) (pss_cons (ps_asg (pe_callB call_lenM (by rfl) T.z_len PySem.boot_len (pa_cons (pv 1) pa_nil)) (pg_sub (pv 2) (pv 4) (set_dictM hu)))
    (pss_one (ps_expr (pe_bmM PySem.F.slot_list_extend PySem.F.type_list_extend mt_extend (pv 1) (pa_cons (pe_slice sl_listM (pe_fld (pv 0) rfl) (po_some (pv 3)) (po_some (pv 5))) pa_nil))))) pss_nil)
    (pss_one (ps_asg (pv 5) (pg_name (i := 3) sc_Store_close_up.nd rfl (Or.inl rfl))))))))
    (pss_cons (ps_asg (pv 1) (pg_all (pe_fld (pv 0) rfl)))
    (pss_one (ps_fld (pv 0) (pv 2) rfl))))))), ?_⟩
    obtain ⟨a, rm, en, row, F, rfl, ⟨dx, w, d, f, ws, kvs, fr, fs, I, R⟩, k⟩ := h
    simp_all! only [I.ho, I.hw, I.hd, I.hf, List.length_map]
    refine ⟨Nat.zero_le _, fun p hp => ?_⟩
    intro pd hpd
    have ppd : p ≠ pd := ne_of_none upd_same hpd
    have hpd0 : H pd = none := by
      rw [upd_ne (Ne.symm ppd)] at hpd
      exact hpd
    have J0 : Cl A (upd (upd H p (.lst [])) pd (.dK [])) H a dx w d f rm en ws kvs fr fs F p pd row 0 [] :=
      ⟨(I.same (same_new hp)).same (same_new hpd), by rw [upd_ne ppd, upd_same]; rfl, upd_same, PK.nil, hp, hpd0⟩
    have op := I.part hp
    have od := I.part hpd0
    have Fp := I.out hp
    have Fd := I.out hpd0
    have rl := flat_rows row
    have rz := R.sz
    have sz : (300000 : Nat) ≤ sizeLine := by decide
    refine ⟨fun m σ2 H2 => ∃ (i : Nat) (kvs' : List (Key × V)) (x y : Option V), σ2 = [some (V.ref a), some (V.ref p), some (V.ref pd), some (V.int (flat (row.take i)).length), x, y] ∧ i ≤ row.length ∧ m = row.length - i ∧ Cl A H2 H a dx w d f rm en ws kvs fr fs F p pd row i kvs', ⟨_, 0, [], none, none, rfl, Nat.zero_le _, rfl, J0⟩, ?_⟩
    rintro m σ2 H2 ⟨i, kvs', x, y, rfl, hi, rfl, C⟩
    have J := C.st
    simp_all! only [J.ho, J.hw, J.hd, J.hf, C.hp, C.hd, List.length_map]
    by_cases hlt : i < row.length
    · have e0 : row = row.take i ++ row[i] :: row.drop (i + 1) := by rw [← List.drop_eq_getElem_cons hlt, List.take_append_drop]
      generalize row[i] = o at e0
      generalize hr1 : row.take i = r1 at *
      generalize row.drop (i + 1) = r2 at e0
      have tk1 : row.take (i + 1) = r1 ++ [o] := by
        have l1 : r1.length = i := by
          rw [← hr1, List.length_take]
          omega
        rw [e0, List.take_append, l1, show i + 1 - i = 1 by omega, List.take_of_length_le (by omega)]
        rfl
      have fw : flat row = flat r1 ++ (flatO o ++ flat r2) := by rw [e0, flat_app, flat]
      have wl : ws.length = (flat r1).length + (3 + o.sl.length + (flat r2).length) := by rw [R.ws, fw, List.length_append, List.length_append, flatO_len]
      have nd := R.nd
      rw [e0] at nd
      rw [R.ws] at wl
      have e1 : atI (ws.map V.int) ((flat r1).length : Int) = some (.int o.num) := atI_nat (by
        rw [R.ws, List.getElem?_map, fw, List.getElem?_append_right (Nat.le_refl _), Nat.sub_self]
        rfl)
      have e2 : atI (ws.map V.int) (((flat r1).length : Int) + 1) = some (.int (o.sl.length : Int)) := by
        rw [show ((flat r1).length : Int) + 1 = (((flat r1).length + 1 : Nat) : Int) by omega]
        exact atI_nat (by
          rw [R.ws, List.getElem?_map, fw, List.getElem?_append_right (by omega), show (flat r1).length + 1 - (flat r1).length = 1 by omega]
          rfl)
      have e3 : cutV (ws.map V.int) (some ((flat r1).length : Int)) (some (((flat r1).length : Int) + 3 + (o.sl.length : Int))) = (flatO o).map V.int := by
        rw [show ((flat r1).length : Int) + 3 + (o.sl.length : Int) = (((flat r1).length + (3 + o.sl.length) : Nat) : Int) by omega, cutV_mid (by omega) (by rw [List.length_map, R.ws]; omega), R.ws, fw, ← List.map_drop, ← List.map_take, List.drop_append, List.drop_length, Nat.sub_self, List.nil_append, List.drop_zero,
          show (flat r1).length + (3 + o.sl.length) - (flat r1).length = (flatO o).length by rw [flatO_len]; omega, List.take_left']
        rfl
      have e4 : ((valV kvs (Sum.inl o.num)).getD .non = .int ((flat r1).length : Int)) ↔ o.al = true := by
        rw [R.pk.1]
        have ph := pos_here nd
        rw [← e0] at ph
        rw [← ph]
        cases hq : pos row o.num with
        | none => simp
        | some j =>
          simp
          omega
      have e5 : scal ((valV kvs (Sum.inl o.num)).getD .non) (.int ((flat r1).length : Int)) = true := by
        rw [R.pk.1]
        cases pos row o.num with
        | none => rfl
        | some j => rfl
      have nx : ((flat (row.take (i + 1))).length : Int) = ((flat r1).length : Int) + 3 + (o.sl.length : Int) := by
        rw [tk1, flat_app, flat_one, List.length_append, flatO_len]
        omega
      have ab : (flat r1).length < ws.length := by rw [R.ws]; omega
      rw [if_pos (by omega)]
      refine ⟨fun σ' H' => ∃ (kvs' : List (Key × V)) (x y : Option V), σ' = [some (V.ref a), some (V.ref p), some (V.ref pd), some (V.int (flat (row.take (i + 1))).length), x, y] ∧ Cl A H' H a dx w d f rm en ws kvs fr fs F p pd row (i + 1) kvs', ?_, ?_⟩
      · rintro σ' H' ⟨kvs2, x, y, rfl, C2⟩
        exact ⟨_, by omega, i + 1, ⟨x, y, rfl⟩, by omega, rfl, kvs2, C2⟩
      · have hpk := C.hp
        have pk := C.pk
        rw [hr1] at hpk pk
        simp_all! only [J.ho, J.hw, J.hd, J.hf, hpk, C.hd, List.length_map, e1, e2]
        refine ⟨fun σ' H' => ∃ (kvs' : List (Key × V)), σ' = [some (V.ref a), some (V.ref p), some (V.ref pd), some (V.int (flat r1).length), some (V.int o.num), some (V.int (((flat r1).length : Int) + 3 + (o.sl.length : Int)))] ∧ Cl A H' H a dx w d f rm en ws kvs fr fs F p pd row (i + 1) kvs', ?_, ?_⟩
        · simp_all! only [J.ho, J.hw, J.hd, J.hf, hpk, C.hd, List.length_map, e1, e2, e4]
          have fl := flat_filter_le r1
          refine ⟨e5, ite2 (fun ha => ?_) (fun ha => ?_)⟩
          · have kl := pk.len
            have kl2 := nums_len (row := r1.filter (·.al))
            have kl3 := List.length_filter_le (·.al) r1
            have kl4 := flat_rows r1
            refine ⟨by omega, ?_⟩
            have J2 := J.other (p := pd) (o := .dK (putK kvs' (Sum.inl o.num) (.int ((flat (r1.filter (·.al))).length : Int)))) od Fd
            have hpk2 : upd H2 pd (.dK (putK kvs' (Sum.inl o.num) (.int ((flat (r1.filter (·.al))).length : Int)))) p = some (.lst ((flat (r1.filter (·.al))).map V.int)) := by rw [upd_ne ppd]; exact hpk
            simp_all! only [J2.ho, J2.hw, J2.hd, J2.hf, hpk2, List.length_map, e3]
            intro q hq
            have pq := ne_of_none hpk2 hq
            have dq : pd ≠ q := ne_of_none upd_same hq
            have hpk3 := same_new (o := .lst ((flatO o).map V.int)) hq _ _ hpk2
            simp! only [hpk3, upd_same]
            refine ⟨by simp only [List.length_map, flatO_len]; omega, putK kvs' (Sum.inl o.num) (.int ((flat (r1.filter (·.al))).length : Int)), ?_⟩
            have J3 := (J2.same (same_new (o := .lst ((flatO o).map V.int)) hq)).other (p := p) (o := .lst ((flat (r1.filter (·.al))).map V.int ++ (flatO o).map V.int)) op Fp
            have fe : (r1 ++ [o]).filter (·.al) = r1.filter (·.al) ++ [o] := by
              rw [List.filter_append, List.filter_cons, if_pos ha]
              rfl
            refine ⟨J3, ?_, by rw [upd_ne (Ne.symm ppd), upd_ne dq, upd_same], ?_, hp, hpd0⟩
            · rw [upd_same, tk1, fe, flat_app, flat_one, List.map_append]
            · rw [tk1, fe]
              refine pk.app ha ?_
              rw [nums_filter]
              rw [nums_app, nums_cons, if_pos ha] at nd
              exact fun z => (List.nodup_append.mp nd).2.2 _ z _ (List.mem_cons_self ..) rfl
          · have af : o.al = false := by simpa using ha
            have fe : (row.take (i + 1)).filter (·.al) = r1.filter (·.al) := by
              rw [tk1, List.filter_append, List.filter_cons, if_neg ha]
              simp
            exact ⟨kvs', J, by rw [fe]; exact hpk, C.hd, by rw [fe]; exact pk, hp, hpd0⟩
        · rintro σ' H3 ⟨kvs2, rfl, C2⟩
          simp_all! only []
          exact ⟨nx.symm, kvs2, C2⟩
    · have e : i = row.length := by omega
      subst e
      have tk : row.take row.length = row := List.take_length ..
      rw [tk, R.ws]
      rw [if_neg (by omega)]
      have hpk := C.hp
      have pk := C.pk
      rw [tk] at hpk pk
      have fl := flat_filter_le row
      refine ⟨op.2.1.symm, by omega, ?_⟩
      have J2 := J.words (flat (row.filter (·.al)))
      simp_all! only [J2.ho, J2.hw, J2.hd, J2.hf, List.length_map]
      refine ⟨by decide, ?_⟩
      refine k _ ⟨dx, w, pd, f, _, kvs', fr, fs, ⟨upd_same, by rw [upd_ne (Ne.symm J2.aw)]; exact J2.hw, ?_, by rw [upd_ne (Ne.symm J2.af)]; exact J2.hf, J2.ne, fun b u hb => ?_⟩, R.close pk⟩
      · rw [upd_ne od.1, upd_ne od.2.1]
        exact C.hd
      · obtain ⟨q1, q2, q3, q4, q5⟩ := J2.fr b u hb
        refine ⟨by rw [upd_ne q2]; exact q1, q2, q3, ne_of_none hb Fd, q5⟩
theorem hot_Store_close_up (T : Txt K mg A) : L2H.FnH P w K mg base CX0 1 A.f_Store_close_up A.d_Store_close_up ["self"] (sp_close A) := by
  refine okH0 T.F_Store_close_up sc_Store_close_up (fun vs H Q E h => ?_) (fun cdv Ar outer s H vs Q E p hot hr h => ?_)
  · exact sp_close_len h
  · have hu := hu_ofH hr
    refine ⟨_, (pss_cons (ps_asg (pe_lst pa_nil) (pg_name (i := 1) sc_Store_close_up.nd rfl (Or.inl rfl)))
    (pss_cons (ps_asg pe_dnewK (pg_name (i := 2) sc_Store_close_up.nd rfl (Or.inl rfl)))
    (pss_cons (ps_asg pe_int (pg_name (i := 3) sc_Store_close_up.nd rfl (Or.inl rfl)))
    (pss_cons (ps_while PassesOwn.never (pt_cmpR op_lt (pv 3) (pe_callB call_lenM (by rfl) T.z_len PySem.boot_len (pa_cons (pe_fld (pv 0) rfl) pa_nil)) (nomark _)) (pss_cons (ps_asg (pe_ix ix_lstM (pe_fld (pv 0) rfl) (pv 3) (fun _ _ => rfl)) (pg_name (i := 4) sc_Store_close_up.nd rfl (Or.inl rfl)))
    (pss_cons (ps_asg (pe_op op_add (pe_op op_add (pv 3) (pe_glob (v := .int (3)) (by rfl) T.c_HEADER ⟨_, rfl⟩)) (pe_ix ix_lstM (pe_fld (pv 0) rfl) (pe_op op_add (pv 3) pe_int) (fun _ _ => rfl))) (pg_name (i := 5) sc_Store_close_up.nd rfl (Or.inl rfl)))
    (Evl.pss_cut (ps_if (pt_cmpR op_eq (pe_dgetM hu (pe_fld (pv 0) rfl) (pv 4) ⟨by rfl, by rfl, by rfl, by rfl⟩) (pv 3) (nomark _)) (pss_cons (ps_asg (pe_callB call_lenM (by rfl) T.z_len PySem.boot_len (pa_cons (pv 1) pa_nil)) (pg_sub (pv 2) (pv 4) (set_dictM hu)))
    (pss_one (ps_expr (pe_bmM PySem.F.slot_list_extend PySem.F.type_list_extend mt_extend (pv 1) (pa_cons (pe_slice sl_listM (pe_fld (pv 0) rfl) (po_some (pv 3)) (po_some (pv 5))) pa_nil))))) pss_nil)
    (pss_one (ps_asg (pv 5) (pg_name (i := 3) sc_Store_close_up.nd rfl (Or.inl rfl))))))))
    (pss_cons (ps_asg (pv 1) (pg_all (pe_fld (pv 0) rfl)))
    (pss_one (ps_fld (pv 0) (pv 2) rfl))))))), ?_⟩
    obtain ⟨a, rm, en, row, F, rfl, ⟨dx, w, d, f, ws, kvs, fr, fs, I, R⟩, k⟩ := h
    simp_all! only [I.ho, I.hw, I.hd, I.hf, List.length_map]
    refine ⟨Nat.zero_le _, fun p hp => ?_⟩
    intro pd hpd
    have ppd : p ≠ pd := ne_of_none upd_same hpd
    have hpd0 : H pd = none := by
      rw [upd_ne (Ne.symm ppd)] at hpd
      exact hpd
    have J0 : Cl A (upd (upd H p (.lst [])) pd (.dK [])) H a dx w d f rm en ws kvs fr fs F p pd row 0 [] :=
      ⟨(I.same (same_new hp)).same (same_new hpd), by rw [upd_ne ppd, upd_same]; rfl, upd_same, PK.nil, hp, hpd0⟩
    have op := I.part hp
    have od := I.part hpd0
    have Fp := I.out hp
    have Fd := I.out hpd0
    have rl := flat_rows row
    have rz := R.sz
    have sz : (300000 : Nat) ≤ sizeLine := by decide
    refine ⟨fun m σ2 H2 => ∃ (i : Nat) (kvs' : List (Key × V)) (x y : Option V), σ2 = [some (V.ref a), some (V.ref p), some (V.ref pd), some (V.int (flat (row.take i)).length), x, y] ∧ i ≤ row.length ∧ m = row.length - i ∧ Cl A H2 H a dx w d f rm en ws kvs fr fs F p pd row i kvs', ⟨_, 0, [], none, none, rfl, Nat.zero_le _, rfl, J0⟩, ?_⟩
    rintro m σ2 H2 ⟨i, kvs', x, y, rfl, hi, rfl, C⟩
    have J := C.st
    simp_all! only [J.ho, J.hw, J.hd, J.hf, C.hp, C.hd, List.length_map]
    by_cases hlt : i < row.length
    · have e0 : row = row.take i ++ row[i] :: row.drop (i + 1) := by rw [← List.drop_eq_getElem_cons hlt, List.take_append_drop]
      generalize row[i] = o at e0
      generalize hr1 : row.take i = r1 at *
      generalize row.drop (i + 1) = r2 at e0
      have tk1 : row.take (i + 1) = r1 ++ [o] := by
        have l1 : r1.length = i := by
          rw [← hr1, List.length_take]
          omega
        rw [e0, List.take_append, l1, show i + 1 - i = 1 by omega, List.take_of_length_le (by omega)]
        rfl
      have fw : flat row = flat r1 ++ (flatO o ++ flat r2) := by rw [e0, flat_app, flat]
      have wl : ws.length = (flat r1).length + (3 + o.sl.length + (flat r2).length) := by rw [R.ws, fw, List.length_append, List.length_append, flatO_len]
      have nd := R.nd
      rw [e0] at nd
      rw [R.ws] at wl
      have e1 : atI (ws.map V.int) ((flat r1).length : Int) = some (.int o.num) := atI_nat (by
        rw [R.ws, List.getElem?_map, fw, List.getElem?_append_right (Nat.le_refl _), Nat.sub_self]
        rfl)
      have e2 : atI (ws.map V.int) (((flat r1).length : Int) + 1) = some (.int (o.sl.length : Int)) := by
        rw [show ((flat r1).length : Int) + 1 = (((flat r1).length + 1 : Nat) : Int) by omega]
        exact atI_nat (by
          rw [R.ws, List.getElem?_map, fw, List.getElem?_append_right (by omega), show (flat r1).length + 1 - (flat r1).length = 1 by omega]
          rfl)
      have e3 : cutV (ws.map V.int) (some ((flat r1).length : Int)) (some (((flat r1).length : Int) + 3 + (o.sl.length : Int))) = (flatO o).map V.int := by
        rw [show ((flat r1).length : Int) + 3 + (o.sl.length : Int) = (((flat r1).length + (3 + o.sl.length) : Nat) : Int) by omega, cutV_mid (by omega) (by rw [List.length_map, R.ws]; omega), R.ws, fw, ← List.map_drop, ← List.map_take, List.drop_append, List.drop_length, Nat.sub_self, List.nil_append, List.drop_zero,
          show (flat r1).length + (3 + o.sl.length) - (flat r1).length = (flatO o).length by rw [flatO_len]; omega, List.take_left']
        rfl
      have e4 : ((valV kvs (Sum.inl o.num)).getD .non = .int ((flat r1).length : Int)) ↔ o.al = true := by
        rw [R.pk.1]
        have ph := pos_here nd
        rw [← e0] at ph
        rw [← ph]
        cases hq : pos row o.num with
        | none => simp
        | some j =>
          simp
          omega
      have e5 : scal ((valV kvs (Sum.inl o.num)).getD .non) (.int ((flat r1).length : Int)) = true := by
        rw [R.pk.1]
        cases pos row o.num with
        | none => rfl
        | some j => rfl
      have nx : ((flat (row.take (i + 1))).length : Int) = ((flat r1).length : Int) + 3 + (o.sl.length : Int) := by
        rw [tk1, flat_app, flat_one, List.length_append, flatO_len]
        omega
      have ab : (flat r1).length < ws.length := by rw [R.ws]; omega
      rw [if_pos (by omega)]
      refine ⟨fun σ' H' => ∃ (kvs' : List (Key × V)) (x y : Option V), σ' = [some (V.ref a), some (V.ref p), some (V.ref pd), some (V.int (flat (row.take (i + 1))).length), x, y] ∧ Cl A H' H a dx w d f rm en ws kvs fr fs F p pd row (i + 1) kvs', ?_, ?_⟩
      · rintro σ' H' ⟨kvs2, x, y, rfl, C2⟩
        exact ⟨_, by omega, i + 1, ⟨x, y, rfl⟩, by omega, rfl, kvs2, C2⟩
      · have hpk := C.hp
        have pk := C.pk
        rw [hr1] at hpk pk
        simp_all! only [J.ho, J.hw, J.hd, J.hf, hpk, C.hd, List.length_map, e1, e2]
        refine ⟨fun σ' H' => ∃ (kvs' : List (Key × V)), σ' = [some (V.ref a), some (V.ref p), some (V.ref pd), some (V.int (flat r1).length), some (V.int o.num), some (V.int (((flat r1).length : Int) + 3 + (o.sl.length : Int)))] ∧ Cl A H' H a dx w d f rm en ws kvs fr fs F p pd row (i + 1) kvs', ?_, ?_⟩
        · simp_all! only [J.ho, J.hw, J.hd, J.hf, hpk, C.hd, List.length_map, e1, e2, e4]
          have fl := flat_filter_le r1
          refine ⟨e5, ite2 (fun ha => ?_) (fun ha => ?_)⟩
          · have kl := pk.len
            have kl2 := nums_len (row := r1.filter (·.al))
            have kl3 := List.length_filter_le (·.al) r1
            have kl4 := flat_rows r1
            refine ⟨by omega, ?_⟩
            have J2 := J.other (p := pd) (o := .dK (putK kvs' (Sum.inl o.num) (.int ((flat (r1.filter (·.al))).length : Int)))) od Fd
            have hpk2 : upd H2 pd (.dK (putK kvs' (Sum.inl o.num) (.int ((flat (r1.filter (·.al))).length : Int)))) p = some (.lst ((flat (r1.filter (·.al))).map V.int)) := by rw [upd_ne ppd]; exact hpk
            simp_all! only [J2.ho, J2.hw, J2.hd, J2.hf, hpk2, List.length_map, e3]
            intro q hq
            have pq := ne_of_none hpk2 hq
            have dq : pd ≠ q := ne_of_none upd_same hq
            have hpk3 := same_new (o := .lst ((flatO o).map V.int)) hq _ _ hpk2
            simp! only [hpk3, upd_same]
            refine ⟨by simp only [List.length_map, flatO_len]; omega, putK kvs' (Sum.inl o.num) (.int ((flat (r1.filter (·.al))).length : Int)), ?_⟩
            have J3 := (J2.same (same_new (o := .lst ((flatO o).map V.int)) hq)).other (p := p) (o := .lst ((flat (r1.filter (·.al))).map V.int ++ (flatO o).map V.int)) op Fp
            have fe : (r1 ++ [o]).filter (·.al) = r1.filter (·.al) ++ [o] := by
              rw [List.filter_append, List.filter_cons, if_pos ha]
              rfl
            refine ⟨J3, ?_, by rw [upd_ne (Ne.symm ppd), upd_ne dq, upd_same], ?_, hp, hpd0⟩
            · rw [upd_same, tk1, fe, flat_app, flat_one, List.map_append]
            · rw [tk1, fe]
              refine pk.app ha ?_
              rw [nums_filter]
              rw [nums_app, nums_cons, if_pos ha] at nd
              exact fun z => (List.nodup_append.mp nd).2.2 _ z _ (List.mem_cons_self ..) rfl
          · have af : o.al = false := by simpa using ha
            have fe : (row.take (i + 1)).filter (·.al) = r1.filter (·.al) := by
              rw [tk1, List.filter_append, List.filter_cons, if_neg ha]
              simp
            exact ⟨kvs', J, by rw [fe]; exact hpk, C.hd, by rw [fe]; exact pk, hp, hpd0⟩
        · rintro σ' H3 ⟨kvs2, rfl, C2⟩
          simp_all! only []
          exact ⟨nx.symm, kvs2, C2⟩
    · have e : i = row.length := by omega
      subst e
      have tk : row.take row.length = row := List.take_length ..
      rw [tk, R.ws]
      rw [if_neg (by omega)]
      have hpk := C.hp
      have pk := C.pk
      rw [tk] at hpk pk
      have fl := flat_filter_le row
      refine ⟨op.2.1.symm, by omega, ?_⟩
      have J2 := J.words (flat (row.filter (·.al)))
      simp_all! only [J2.ho, J2.hw, J2.hd, J2.hf, List.length_map]
      refine ⟨by decide, ?_⟩
      refine k _ ⟨dx, w, pd, f, _, kvs', fr, fs, ⟨upd_same, by rw [upd_ne (Ne.symm J2.aw)]; exact J2.hw, ?_, by rw [upd_ne (Ne.symm J2.af)]; exact J2.hf, J2.ne, fun b u hb => ?_⟩, R.close pk⟩
      · rw [upd_ne od.1, upd_ne od.2.1]
        exact C.hd
      · obtain ⟨q1, q2, q3, q4, q5⟩ := J2.fr b u hb
        refine ⟨by rw [upd_ne q2]; exact q1, q2, q3, ne_of_none hb Fd, q5⟩
end

def sp_exch (A : Ad) : Sp := fun vs H Q _ => ∃ a rm en row F n m, vs = [.ref a, .int n, .int m] ∧ St A H a rm en row F ∧ n ∈ nums row ∧ m ∈ nums row ∧ ∀ H', St A H' a rm en (exch row n m) F → Q .non H'
theorem sp_exch_len {A vs H Q E} (h : sp_exch A vs H Q E) : vs.length = (["self", "first", "second"] : List Str).length := by
  obtain ⟨_, _, _, _, _, _, _, rfl, _⟩ := h
  rfl
section
variable {P : Program} {w : World} {K : PySem.W.Frag} {mg : Str → Option Value} {base : Heap} {A : Ad}
theorem ok_Store_exchange (T : Txt K mg A) : FnOk P w K mg base CX0 1 A.f_Store_exchange A.d_Store_exchange ["self", "first", "second"] (sp_exch A) := by
  refine Fun.ok T.F_Store_exchange sc_Store_exchange (fun vs H Q E h => ?_) (fun cdv Ar outer s H vs Q E hr h => ?_)
  · exact sp_exch_len h
  · have hu := hu_of hr
    refine ⟨_, (pss_cons (ps_asg (pe_ix (ix_dictM hu) (pe_fld (pv 0) rfl) (pv 1) (fun _ _ => rfl)) (pg_name (i := 3) sc_Store_exchange.nd rfl (Or.inl rfl)))
    (pss_cons (ps_asg (pe_ix (ix_dictM hu) (pe_fld (pv 0) rfl) (pv 2) (fun _ _ => rfl)) (pg_name (i := 4) sc_Store_exchange.nd rfl (Or.inl rfl)))
    (pss_cons (ps_asg (pv 2) (pg_sub (pe_fld (pv 0) rfl) (pv 3) set_lstM))
    (pss_cons (ps_asg (pv 1) (pg_sub (pe_fld (pv 0) rfl) (pv 4) set_lstM))
    (pss_cons (ps_asg (pv 4) (pg_sub (pe_fld (pv 0) rfl) (pv 1) (set_dictM hu)))
    (pss_one (ps_asg (pv 3) (pg_sub (pe_fld (pv 0) rfl) (pv 2) (set_dictM hu))))))))), ?_⟩
    obtain ⟨a, rm, en, row, F, n, m, rfl, ⟨dx, w, d, f, ws, kvs, fr, fs, I, R⟩, hn, hm, k⟩ := h
    obtain ⟨o1, ho1⟩ := getO_of_mem hn
    obtain ⟨o2, ho2⟩ := getO_of_mem hm
    obtain ⟨i, p1, p2, _⟩ := word_at ho1
    obtain ⟨j, q1, q2, _⟩ := word_at ho2
    have hv : valV kvs (Sum.inl n) = some (.int (i : Int)) := by rw [R.pk.1, p1]; rfl
    have hv2 : valV kvs (Sum.inl m) = some (.int (j : Int)) := by rw [R.pk.1, q1]; rfl
    have s1 : setI (ws.map V.int) (i : Int) (.int m) = some ((ws.set i m).map V.int) := by
      rw [setI_nat (by rw [List.length_map, R.ws]; omega), List.map_set]
    have s2 : setI ((ws.set i m).map V.int) (j : Int) (.int n) = some (((ws.set i m).set j n).map V.int) := by
      rw [setI_nat (by rw [List.length_map, List.length_set, R.ws]; omega)]
      simp only [List.map_set]
    have kl := R.kvl
    have sz : (200000 : Nat) ≤ sizeLine := by decide
    simp_all! only [I.ho, I.hw, I.hd, I.hf, List.length_map, hv, hv2, s1]
    have J := I.words (ws.set i m)
    simp_all! only [J.ho, J.hw, J.hd, J.hf, List.length_map, hv, hv2, s2]
    have J2 := J.words ((ws.set i m).set j n)
    rw [upd_upd] at J2
    simp_all! only [J2.ho, J2.hw, J2.hd, J2.hf, List.length_map, hv, hv2]
    refine ⟨by omega, ?_⟩
    have J3 := J2.places (putK kvs (Sum.inl n) (.int (j : Int)))
    simp_all! only [J3.ho, J3.hw, J3.hd, J3.hf, List.length_map, hv, hv2]
    have hl : (putK kvs (Sum.inl n) (V.int (j : Int))).length = kvs.length := by
      unfold putK
      rw [valV_any, hv]
      simp
    refine ⟨by rw [hl]; omega, ?_⟩
    have J4 := J3.places (putK (putK kvs (Sum.inl n) (.int (j : Int))) (Sum.inl m) (.int (i : Int)))
    rw [upd_upd] at J4
    exact k _ ⟨dx, w, d, f, _, _, _, _, J4, R.ex p1 q1⟩
end

/-! ### the law's own row of objects, beside the store -/
theorem same_refl {H : Hp} : Same H H := fun _ _ h => h
theorem same_trans {H1 H2 H3 : Hp} (a : Same H1 H2) (b : Same H2 H3) : Same H1 H3 := fun _ _ h => b _ _ (a _ _ h)
theorem St.none {A H a rm en row F} (h : St A H a rm en row F) {p : Addr} (e : H p = none) : F p = none := by
  cases q : F p with
  | none => rfl
  | some o =>
    rw [h.get q] at e
    cases e
/-- one object of the row: the list [number, kind, slots, there] at r, the slots at c -/
structure RB where
  r : Addr
  c : Addr
  o : OB
def rbL (b : RB) : HO := .lst [.int b.o.num, .int b.o.kind, .ref b.c, .bl b.o.al]
def obs (bs : List RB) : List OB := bs.map (·.o)
def refs (bs : List RB) : List V := bs.map fun b => .ref b.r
def adrs : List RB → List Addr
  | [] => []
  | b :: bs => b.r :: b.c :: adrs bs
theorem adrs_app : ∀ (xs ys : List RB), adrs (xs ++ ys) = adrs xs ++ adrs ys
  | [], _ => rfl
  | b :: bs, ys => by simp [adrs, adrs_app bs ys]
theorem adrs_mem : ∀ {bs : List RB} {p : Addr}, p ∈ adrs bs ↔ ∃ b ∈ bs, p = b.r ∨ p = b.c
  | [], p => by simp [adrs]
  | b :: bs, p => by
    rw [adrs, List.mem_cons, List.mem_cons, adrs_mem]
    constructor
    · rintro (h | h | ⟨q, hq, h⟩)
      · exact ⟨b, List.mem_cons_self .., .inl h⟩
      · exact ⟨b, List.mem_cons_self .., .inr h⟩
      · exact ⟨q, List.mem_cons_of_mem _ hq, h⟩
    · rintro ⟨q, hq, h⟩
      rcases List.mem_cons.mp hq with rfl | hq
      · exact h.elim .inl fun h => .inr (.inl h)
      · exact .inr (.inr ⟨q, hq, h⟩)
theorem adrs_set : ∀ {bs : List RB} {j : Nat} {b b' : RB}, bs[j]? = some b → b'.r = b.r → b'.c = b.c → adrs (bs.set j b') = adrs bs
  | [], j, b, b', h, _, _ => by simp at h
  | q :: bs, 0, b, b', h, h1, h2 => by
    simp at h
    subst h
    simp [adrs, h1, h2]
  | q :: bs, j + 1, b, b', h, h1, h2 => by
    simp at h
    simp [adrs, adrs_set h h1 h2]
theorem refs_set : ∀ {bs : List RB} {j : Nat} {b b' : RB}, bs[j]? = some b → b'.r = b.r → refs (bs.set j b') = refs bs
  | [], j, b, b', h, _ => by simp at h
  | q :: bs, 0, b, b', h, h1 => by
    simp at h
    subst h
    simp [refs, h1]
  | q :: bs, j + 1, b, b', h, h1 => by
    simp at h
    have := refs_set h h1
    simp only [refs] at this ⊢
    rw [List.set_cons_succ, List.map_cons, List.map_cons, this]
/-- what is read of some of its objects -/
def View (H : Hp) (bs : List RB) : Prop := ∀ b ∈ bs, H b.r = some (rbL b) ∧ H b.c = some (.lst (b.o.sl.map V.int))
theorem View.same {H H' bs} (h : View H bs) (s : Same H H') : View H' bs := fun b hb => ⟨s _ _ (h b hb).1, s _ _ (h b hb).2⟩
theorem View.sub {H bs bs'} (h : View H bs) (s : ∀ b ∈ bs', b ∈ bs) : View H bs' := fun b hb => h b (s b hb)
structure Rw (F : Hp) (rl : Addr) (bs : List RB) (G : Hp) : Prop where
  lst : F rl = some (.lst (refs bs))
  one : View F bs
  nd : (rl :: adrs bs).Nodup
  fr : ∀ p o, G p = some o → F p = some o ∧ p ∉ rl :: adrs bs
/-- store and row; G: what stands beside both -/
def Lx (A : Ad) (H : Hp) (s rl : Addr) (rm en : Int) (row : List OB) (bs : List RB) (G : Hp) : Prop := ∃ F, St A H s rm en row F ∧ Rw F rl bs G
theorem Lx.same {A H H' s rl rm en row bs G} (h : Lx A H s rl rm en row bs G) (e : Same H H') : Lx A H' s rl rm en row bs G := by
  obtain ⟨F, S, R⟩ := h
  exact ⟨F, S.same e, R⟩
theorem Lx.view {A H s rl rm en row bs G} (h : Lx A H s rl rm en row bs G) : View H bs := by
  obtain ⟨F, S, R⟩ := h
  exact fun b hb => ⟨S.get (R.one b hb).1, S.get (R.one b hb).2⟩
theorem Lx.lst {A H s rl rm en row bs G} (h : Lx A H s rl rm en row bs G) : H rl = some (.lst (refs bs)) := by
  obtain ⟨F, S, R⟩ := h
  exact S.get R.lst
theorem Lx.get {A H s rl rm en row bs G} (h : Lx A H s rl rm en row bs G) {p : Addr} {o : HO} (e : G p = some o) : H p = some o := by
  obtain ⟨F, S, R⟩ := h
  exact S.get (R.fr p o e).1
theorem Lx.less {A H s rl rm en row bs G G'} (h : Lx A H s rl rm en row bs G) (e : Same G' G) : Lx A H s rl rm en row bs G' := by
  obtain ⟨F, S, R⟩ := h
  exact ⟨F, S, R.lst, R.one, R.nd, fun p o q => R.fr p o (e p o q)⟩
theorem Lx.out {A H s rl rm en row bs G} (h : Lx A H s rl rm en row bs G) {p : Addr} (e : H p = none) : G p = none := by
  cases q : G p with
  | none => rfl
  | some o =>
    rw [h.get q] at e
    cases e
theorem Rw.out {F rl bs G} (R : Rw F rl bs G) {p : Addr} (e : F p = none) : p ∉ rl :: adrs bs := by
  intro m
  rcases List.mem_cons.mp m with rfl | m
  · rw [R.lst] at e
    cases e
  · obtain ⟨b, hb, h⟩ := adrs_mem.mp m
    rcases h with rfl | rfl
    · rw [(R.one b hb).1] at e
      cases e
    · rw [(R.one b hb).2] at e
      cases e
theorem Lx.new {A H s rl rm en row bs G} (h : Lx A H s rl rm en row bs G) {p : Addr} {o : HO} (e : H p = none) : Lx A (upd H p o) s rl rm en row bs (upd G p o) := by
  obtain ⟨F, S, R⟩ := h
  have Fp := S.none e
  have sm := same_new (o := o) Fp
  refine ⟨_, S.new e, sm _ _ R.lst, R.one.same sm, R.nd, fun q u hq => ?_⟩
  by_cases c : q = p
  · subst c
    rw [upd_same] at hq
    exact ⟨by rw [upd_same]; exact hq, R.out Fp⟩
  · rw [upd_ne c] at hq
    exact ⟨by rw [upd_ne c]; exact (R.fr q u hq).1, (R.fr q u hq).2⟩
theorem Lx.setG {A H s rl rm en row bs G} (h : Lx A H s rl rm en row bs G) {p : Addr} {o u : HO} (e : G p = some u) : Lx A (upd H p o) s rl rm en row bs (upd G p o) := by
  obtain ⟨F, S, R⟩ := h
  obtain ⟨h1, h2⟩ := R.fr p u e
  have n1 : rl ≠ p := fun z => h2 (z ▸ List.mem_cons_self ..)
  have n2 : ∀ b ∈ bs, b.r ≠ p ∧ b.c ≠ p := fun b hb => ⟨fun z => h2 (List.mem_cons_of_mem _ (adrs_mem.mpr ⟨b, hb, .inl z.symm⟩)), fun z => h2 (List.mem_cons_of_mem _ (adrs_mem.mpr ⟨b, hb, .inr z.symm⟩))⟩
  refine ⟨_, S.set h1, by rw [upd_ne n1]; exact R.lst, fun b hb => ⟨by rw [upd_ne (n2 b hb).1]; exact (R.one b hb).1, by rw [upd_ne (n2 b hb).2]; exact (R.one b hb).2⟩, R.nd, fun q v hq => ?_⟩
  by_cases c : q = p
  · subst c
    rw [upd_same] at hq
    exact ⟨by rw [upd_same]; exact hq, h2⟩
  · rw [upd_ne c] at hq
    exact ⟨by rw [upd_ne c]; exact (R.fr q v hq).1, (R.fr q v hq).2⟩
theorem nodup_at : ∀ {bs : List RB} {i j : Nat} {b q : RB}, (adrs bs).Nodup → bs[i]? = some b → bs[j]? = some q → i ≠ j → b.r ≠ q.r ∧ b.r ≠ q.c ∧ b.c ≠ q.r ∧ b.c ≠ q.c
  | [], i, j, b, q, _, h, _, _ => by simp at h
  | x :: bs, 0, 0, b, q, _, _, _, h => absurd rfl h
  | x :: bs, 0, j + 1, b, q, nd, h1, h2, _ => by
    simp at h1 h2
    subst h1
    have hm := List.mem_of_getElem? h2
    have n1 := List.nodup_cons.mp nd
    have n2 := List.nodup_cons.mp n1.2
    have mr := adrs_mem.mpr ⟨q, hm, .inl rfl⟩
    have mc := adrs_mem.mpr ⟨q, hm, .inr rfl⟩
    exact ⟨fun e => n1.1 (e ▸ List.mem_cons_of_mem _ mr), fun e => n1.1 (e ▸ List.mem_cons_of_mem _ mc), fun e => n2.1 (e ▸ mr), fun e => n2.1 (e ▸ mc)⟩
  | x :: bs, i + 1, 0, b, q, nd, h1, h2, _ => by
    simp at h1 h2
    subst h2
    have hm := List.mem_of_getElem? h1
    have n1 := List.nodup_cons.mp nd
    have n2 := List.nodup_cons.mp n1.2
    have mr := adrs_mem.mpr ⟨b, hm, .inl rfl⟩
    have mc := adrs_mem.mpr ⟨b, hm, .inr rfl⟩
    exact ⟨fun e => n1.1 (e ▸ List.mem_cons_of_mem _ mr), fun e => n2.1 (e ▸ mr), fun e => n1.1 (e ▸ List.mem_cons_of_mem _ mc), fun e => n2.1 (e ▸ mc)⟩
  | x :: bs, i + 1, j + 1, b, q, nd, h1, h2, h => by
    simp at h1 h2
    exact nodup_at (List.nodup_cons.mp (List.nodup_cons.mp nd).2).2 h1 h2 (fun e => h (by rw [e]))
theorem adrs_rc {b : RB} : ∀ {bs : List RB}, (adrs bs).Nodup → b ∈ bs → b.r ≠ b.c
  | [], _, h => by cases h
  | x :: bs, nd, h => by
    have n1 := List.nodup_cons.mp nd
    have n2 := List.nodup_cons.mp n1.2
    rcases List.mem_cons.mp h with rfl | h
    · exact fun e => n1.1 (e ▸ List.mem_cons_self ..)
    · exact adrs_rc n2.2 h
theorem mem_set_at {bs : List RB} {j : Nat} {b' q : RB} (h : q ∈ bs.set j b') : q = b' ∨ ∃ i, i ≠ j ∧ bs[i]? = some q := by
  obtain ⟨i, hi⟩ := List.mem_iff_getElem?.mp h
  by_cases c : j = i
  · subst c
    have lt := (List.getElem?_eq_some_iff.mp hi).1
    rw [List.length_set] at lt
    rw [List.getElem?_set_self lt] at hi
    exact .inl (Option.some.inj hi).symm
  · rw [List.getElem?_set_ne c] at hi
    exact .inr ⟨i, fun e => c e.symm, hi⟩
/-- one object's own list changes -/
theorem Lx.setr {A H s rl rm en row bs G} (h : Lx A H s rl rm en row bs G) {j : Nat} {b : RB} (hb : bs[j]? = some b) (n k : Int) (al : Bool) :
    Lx A (upd H b.r (.lst [.int n, .int k, .ref b.c, .bl al])) s rl rm en row (bs.set j ⟨b.r, b.c, ⟨n, k, b.o.sl, al⟩⟩) G := by
  obtain ⟨F, S, R⟩ := h
  have hm := List.mem_of_getElem? hb
  have nd := List.nodup_cons.mp R.nd
  have ar : b.r ∈ adrs bs := adrs_mem.mpr ⟨b, hm, .inl rfl⟩
  refine ⟨_, S.set (R.one b hm).1, by rw [upd_ne (show rl ≠ b.r from fun e => nd.1 (by rw [e]; exact ar)), refs_set (b' := ⟨b.r, b.c, ⟨n, k, b.o.sl, al⟩⟩) hb rfl]; exact R.lst, fun q hq => ?_, by rw [adrs_set (b' := ⟨b.r, b.c, ⟨n, k, b.o.sl, al⟩⟩) hb rfl rfl]; exact R.nd, fun p u hp => ?_⟩
  · rcases mem_set_at hq with rfl | ⟨i, ij, hi⟩
    · refine ⟨upd_same, ?_⟩
      show upd F b.r _ b.c = _
      rw [upd_ne (Ne.symm (adrs_rc nd.2 hm))]
      exact (R.one b hm).2
    · have dis := nodup_at nd.2 hi hb ij
      have := R.one q (List.mem_of_getElem? hi)
      exact ⟨by rw [upd_ne dis.1]; exact this.1, by rw [upd_ne dis.2.2.1]; exact this.2⟩
  · obtain ⟨h1, h2⟩ := R.fr p u hp
    rw [adrs_set (b' := ⟨b.r, b.c, ⟨n, k, b.o.sl, al⟩⟩) hb rfl rfl]
    exact ⟨by rw [upd_ne (show p ≠ b.r from fun e => h2 (by rw [e]; exact List.mem_cons_of_mem _ ar))]; exact h1, h2⟩
/-- one object's slots change -/
theorem Lx.setc {A H s rl rm en row bs G} (h : Lx A H s rl rm en row bs G) {j : Nat} {b : RB} (hb : bs[j]? = some b) (sl : List Int) :
    Lx A (upd H b.c (.lst (sl.map V.int))) s rl rm en row (bs.set j ⟨b.r, b.c, { b.o with sl := sl }⟩) G := by
  obtain ⟨F, S, R⟩ := h
  have hm := List.mem_of_getElem? hb
  have nd := List.nodup_cons.mp R.nd
  have ac : b.c ∈ adrs bs := adrs_mem.mpr ⟨b, hm, .inr rfl⟩
  refine ⟨_, S.set (R.one b hm).2, by rw [upd_ne (show rl ≠ b.c from fun e => nd.1 (by rw [e]; exact ac)), refs_set (b' := ⟨b.r, b.c, { b.o with sl := sl }⟩) hb rfl]; exact R.lst, fun q hq => ?_, by rw [adrs_set (b' := ⟨b.r, b.c, { b.o with sl := sl }⟩) hb rfl rfl]; exact R.nd, fun p u hp => ?_⟩
  · rcases mem_set_at hq with rfl | ⟨i, ij, hi⟩
    · refine ⟨?_, upd_same⟩
      show upd F b.c _ b.r = _
      rw [upd_ne (adrs_rc nd.2 hm)]
      exact (R.one b hm).1
    · have dis := nodup_at nd.2 hi hb ij
      have := R.one q (List.mem_of_getElem? hi)
      exact ⟨by rw [upd_ne dis.2.1]; exact this.1, by rw [upd_ne dis.2.2.2]; exact this.2⟩
  · obtain ⟨h1, h2⟩ := R.fr p u hp
    rw [adrs_set (b' := ⟨b.r, b.c, { b.o with sl := sl }⟩) hb rfl rfl]
    exact ⟨by rw [upd_ne (show p ≠ b.c from fun e => h2 (by rw [e]; exact List.mem_cons_of_mem _ ac))]; exact h1, h2⟩
/-- a new object is put at the end of the row -/
theorem Lx.push {A H H2 s rl rm en row bs G} (h : Lx A H s rl rm en row bs G) (sm : Same H H2) {r c : Addr} {o : OB} (hc : H c = none) (hr : H r = none) (ne : r ≠ c) (c2 : H2 c = some (.lst (o.sl.map V.int))) (r2 : H2 r = some (rbL ⟨r, c, o⟩)) :
    Lx A (upd H2 rl (.lst (refs bs ++ [.ref r]))) s rl rm en row (bs ++ [⟨r, c, o⟩]) G := by
  obtain ⟨F, S, R⟩ := h
  have Fc := S.none hc
  have Fr := S.none hr
  have oc := R.out Fc
  have or := R.out Fr
  have S2 : St A H2 s rm en row (upd (upd F c (.lst (o.sl.map V.int))) r (rbL ⟨r, c, o⟩)) := S.more sm fun b u hb => by
    by_cases e1 : b = r
    · subst e1
      rw [upd_same] at hb
      exact .inr ⟨hr, by rw [r2]; exact hb⟩
    · rw [upd_ne e1] at hb
      by_cases e2 : b = c
      · subst e2
        rw [upd_same] at hb
        exact .inr ⟨hc, by rw [c2]; exact hb⟩
      · rw [upd_ne e2] at hb
        exact .inl hb
  have smF : Same F (upd (upd F c (.lst (o.sl.map V.int))) r (rbL ⟨r, c, o⟩)) := same_trans (same_new Fc) (same_new (by rw [upd_ne ne]; exact Fr))
  have rlr : rl ≠ r := fun e => or (e ▸ List.mem_cons_self ..)
  have rlc : rl ≠ c := fun e => oc (e ▸ List.mem_cons_self ..)
  have nd := List.nodup_cons.mp R.nd
  refine ⟨_, S2.set (smF _ _ R.lst), by rw [upd_same]; simp [refs], fun q hq => ?_, ?_, fun p u hp => ?_⟩
  · rcases List.mem_append.mp hq with hq | hq
    · have n1 : q.r ≠ rl := fun e => nd.1 (e ▸ adrs_mem.mpr ⟨q, hq, .inl rfl⟩)
      have n2 : q.c ≠ rl := fun e => nd.1 (e ▸ adrs_mem.mpr ⟨q, hq, .inr rfl⟩)
      exact ⟨by rw [upd_ne n1]; exact smF _ _ (R.one q hq).1, by rw [upd_ne n2]; exact smF _ _ (R.one q hq).2⟩
    · rw [List.mem_singleton] at hq
      subst hq
      exact ⟨by rw [upd_ne (Ne.symm rlr), upd_same], by rw [upd_ne (Ne.symm rlc), upd_ne (Ne.symm ne), upd_same]⟩
  · rw [adrs_app]
    refine List.nodup_cons.mpr ⟨fun m => ?_, List.nodup_append.mpr ⟨nd.2, ?_, fun x hx y hy e => ?_⟩⟩
    · rcases List.mem_append.mp m with m | m
      · exact nd.1 m
      · simp [adrs] at m
        exact m.elim rlr rlc
    · simp [adrs, ne]
    · subst e
      simp [adrs] at hy
      rcases hy with rfl | rfl
      · exact or (List.mem_cons_of_mem _ hx)
      · exact oc (List.mem_cons_of_mem _ hx)
  · obtain ⟨h1, h2⟩ := R.fr p u hp
    have n1 : p ≠ rl := fun e => h2 (e ▸ List.mem_cons_self ..)
    refine ⟨by rw [upd_ne n1]; exact smF _ _ h1, fun m => ?_⟩
    rw [adrs_app, ← List.cons_append] at m
    rcases List.mem_append.mp m with m | m
    · exact h2 m
    · simp [adrs] at m
      rcases m with rfl | rfl
      · rw [Fr] at h1
        cases h1
      · rw [Fc] at h1
        cases h1
/-- two objects of the row that are there have different numbers -/
theorem nums_inj : ∀ {row : List OB} {i j : Nat} {o q : OB}, (nums row).Nodup → row[i]? = some o → row[j]? = some q → o.al = true → q.al = true → o.num = q.num → i = j
  | [], i, j, o, q, _, h, _, _, _, _ => by simp at h
  | x :: r, 0, 0, o, q, _, _, _, _, _, _ => rfl
  | x :: r, 0, j + 1, o, q, nd, h1, h2, a1, a2, e => by
    simp at h1 h2
    subst h1
    rw [nums_cons, if_pos a1] at nd
    exact absurd (mem_nums.mpr ⟨q, List.mem_of_getElem? h2, hasN_iff.mpr ⟨a2, e.symm⟩⟩) (List.nodup_cons.mp nd).1
  | x :: r, i + 1, 0, o, q, nd, h1, h2, a1, a2, e => by
    simp at h1 h2
    subst h2
    rw [nums_cons, if_pos a2] at nd
    exact absurd (mem_nums.mpr ⟨o, List.mem_of_getElem? h1, hasN_iff.mpr ⟨a1, e⟩⟩) (List.nodup_cons.mp nd).1
  | x :: r, i + 1, j + 1, o, q, nd, h1, h2, a1, a2, e => by
    simp at h1 h2
    rw [nums_cons] at nd
    have nd' : (nums r).Nodup := by
      by_cases g : x.al = true
      · rw [if_pos g] at nd
        exact (List.nodup_cons.mp nd).2
      · rw [if_neg g] at nd
        exact nd
    rw [nums_inj nd' h1 h2 a1 a2 e]
theorem map_one {row : List OB} {j : Nat} {o o' : OB} {n : Int} {f : OB → OB} (nd : (nums row).Nodup) (hj : row[j]? = some o) (ho : hasN n o = true) (h1 : f o = o') (h2 : ∀ q, ¬ hasN n q = true → f q = q) : row.map f = row.set j o' := by
  apply List.ext_getElem?
  intro i
  rw [List.getElem?_map]
  by_cases c : j = i
  · subst c
    rw [List.getElem?_set_self (List.getElem?_eq_some_iff.mp hj).1, hj, ← h1]
    rfl
  · rw [List.getElem?_set_ne c]
    cases hi : row[i]? with
    | none => rfl
    | some q =>
      show some (f q) = some q
      rw [h2 q fun z => c (nums_inj nd hj hi (hasN_iff.mp ho).1 (hasN_iff.mp z).1 ((hasN_iff.mp ho).2.trans (hasN_iff.mp z).2.symm))]
theorem drop_set {row : List OB} {j : Nat} {o : OB} (nd : (nums row).Nodup) (hj : row[j]? = some o) (ha : o.al = true) : dropO row o.num = row.set j { o with al := false } :=
  map_one nd hj (hasN_iff.mpr ⟨ha, rfl⟩) (dropX_t (hasN_iff.mpr ⟨ha, rfl⟩)) fun _ h => dropX_f h
theorem put_set {row : List OB} {j i : Nat} {v : Int} {o : OB} (nd : (nums row).Nodup) (hj : row[j]? = some o) (ha : o.al = true) : putO row o.num i v = row.set j { o with sl := o.sl.set i v } :=
  map_one nd hj (hasN_iff.mpr ⟨ha, rfl⟩) (if_pos (hasN_iff.mpr ⟨ha, rfl⟩)) fun _ h => if_neg h
theorem kind_set {row : List OB} {j : Nat} {v : Int} {o : OB} (nd : (nums row).Nodup) (hj : row[j]? = some o) (ha : o.al = true) : kindO row o.num v = row.set j { o with kind := v } :=
  map_one nd hj (hasN_iff.mpr ⟨ha, rfl⟩) (if_pos (hasN_iff.mpr ⟨ha, rfl⟩)) fun _ h => if_neg h
theorem exch_set {row : List OB} {i j : Nat} {o q : OB} (nd : (nums row).Nodup) (hi : row[i]? = some o) (hj : row[j]? = some q) (ha : o.al = true) (hb : q.al = true) :
    exch row o.num q.num = (row.set i { o with num := q.num }).set j { q with num := o.num } := by
  apply List.ext_getElem?
  intro k
  unfold exch
  rw [List.getElem?_map]
  have li := (List.getElem?_eq_some_iff.mp hi).1
  have lj := (List.getElem?_eq_some_iff.mp hj).1
  by_cases c : j = k
  · subst c
    rw [List.getElem?_set_self (by rw [List.length_set]; exact lj), hj]
    show some (exO o.num q.num q) = _
    unfold exO sw2
    rw [if_pos hb]
    by_cases e : q.num = o.num
    · rw [if_pos e, e]
    · rw [if_neg e, if_pos rfl]
  · rw [List.getElem?_set_ne c]
    by_cases d : i = k
    · subst d
      rw [List.getElem?_set_self li, hi]
      show some (exO o.num q.num o) = _
      unfold exO sw2
      rw [if_pos ha, if_pos rfl]
    · rw [List.getElem?_set_ne d]
      cases hk : row[k]? with
      | none => rfl
      | some x =>
        show some (exO o.num q.num x) = some x
        unfold exO sw2
        by_cases a : x.al = true
        · rw [if_pos a, if_neg (fun e => d (nums_inj nd hi hk ha a e.symm)), if_neg (fun e => c (nums_inj nd hj hk hb a e.symm))]
        · rw [if_neg a]
theorem Lx.nodup {A H s rl rm en row bs G} (h : Lx A H s rl rm en row bs G) : (nums row).Nodup := by
  obtain ⟨F, ⟨dx, w, d, f, ws, kvs, fr, fs, I, R⟩, _⟩ := h
  exact R.nd
theorem obs_set {bs : List RB} {j : Nat} {r c : Addr} {o : OB} : obs (bs.set j ⟨r, c, o⟩) = (obs bs).set j o := by
  unfold obs
  rw [List.map_set]
theorem obs_at {bs : List RB} {j : Nat} {b : RB} (h : bs[j]? = some b) : (obs bs)[j]? = some b.o := by
  unfold obs
  rw [List.getElem?_map, h]
  rfl
theorem getO_at {row : List OB} {j : Nat} {o : OB} (nd : (nums row).Nodup) (hj : row[j]? = some o) (ha : o.al = true) : getO row o.num = some o := by
  obtain ⟨q, hq⟩ := getO_of_mem (mem_nums.mpr ⟨o, List.mem_of_getElem? hj, hasN_iff.mpr ⟨ha, rfl⟩⟩)
  obtain ⟨hm, hn⟩ := getO_mem hq
  obtain ⟨i, hi⟩ := List.mem_iff_getElem?.mp hm
  have := nums_inj nd hj hi ha (hasN_iff.mp hn).1 (hasN_iff.mp hn).2.symm
  subst this
  rw [hj] at hi
  rw [hq]
  exact hi.symm
theorem refs_at {bs : List RB} {j : Nat} {b : RB} (h : bs[j]? = some b) : atI (refs bs) (j : Int) = some (.ref b.r) := by
  refine atI_nat ?_
  unfold refs
  rw [List.getElem?_map, h]
  rfl
theorem refs_len {bs : List RB} : (refs bs).length = bs.length := by
  unfold refs
  rw [List.length_map]
theorem St.ho {A H a rm en row F} (h : St A H a rm en row F) : ∃ dx w d f fs, H a = some (.ins A.C_Store dx (stF rm en w d f fs)) := by
  obtain ⟨dx, w, d, f, ws, kvs, fr, fs, I, R⟩ := h
  exact ⟨dx, w, d, f, fs, I.ho⟩
theorem Lx.ho {A H s rl rm en row bs G} (h : Lx A H s rl rm en row bs G) : ∃ dx w d f fs, H s = some (.ins A.C_Store dx (stF rm en w d f fs)) := by
  obtain ⟨F, S, R⟩ := h
  exact S.ho
theorem Lx.row {A H s rl rm en row row' bs G} (h : Lx A H s rl rm en row bs G) (e : row = row') : Lx A H s rl rm en row' bs G := e ▸ h
/-- one of those that are there -/
theorem pick_al {bs : List RB} (h : 0 < (bs.filter (·.o.al)).length) (z : Int) : ∃ (j : Nat) (b : RB), atI (refs (bs.filter (·.o.al))) (z % ((bs.filter (·.o.al)).length : Int)) = some (.ref b.r) ∧ bs[j]? = some b ∧ b.o.al = true := by
  have z0 := Int.emod_nonneg z (show ((bs.filter (·.o.al)).length : Int) ≠ 0 by omega)
  have z1 := Int.emod_lt_of_pos z (show (0 : Int) < (bs.filter (·.o.al)).length by omega)
  obtain ⟨i, hi⟩ := Int.eq_ofNat_of_zero_le z0
  rw [hi]
  have hl : i < (bs.filter (·.o.al)).length := by omega
  have hm := List.mem_filter.mp (List.getElem_mem hl)
  obtain ⟨j, hj⟩ := List.mem_iff_getElem?.mp hm.1
  exact ⟨j, _, refs_at (List.getElem?_eq_getElem hl), hj, hm.2⟩
theorem Lx.words {A H s rl rm en row bs G} (h : Lx A H s rl rm en row bs G) : ∃ dx w d f fs, H s = some (.ins A.C_Store dx (stF rm en w d f fs)) ∧ H w = some (.lst ((flat row).map V.int)) ∧ (flat row).length ≤ 100000 := by
  obtain ⟨F, ⟨dx, w, d, f, ws, kvs, fr, fs, I, R⟩, _⟩ := h
  have hw := I.hw
  rw [R.ws] at hw
  exact ⟨dx, w, d, f, fs, I.ho, hw, R.sz⟩

/-- a copy of all that a store of this row is made of -/
def Sn (D : Hp) (T : Addr) (en : Int) (row : List OB) : Prop := ∃ (w d f : Addr) (ws : List Int) (kvs : List (Key × V)) (fr : List Int) (fs : Int), D T = some (.tup [.ref w, .ref d, .ref f, .int fs]) ∧ D w = some (.lst (ws.map V.int)) ∧ D d = some (.dK kvs) ∧ D f = some (.lst (fr.map V.int)) ∧ RowOk en ws kvs fr fs row
/-- what is new in H' beside H -/
def Fresh (H H' D : Hp) : Prop := ∀ b o, D b = some o → H b = none ∧ H' b = some o
def uni (D F : Hp) : Hp := fun b => match D b with
  | some o => some o
  | none => F b
theorem Sn.same {D D' T en row} (h : Sn D T en row) (s : Same D D') : Sn D' T en row := by
  obtain ⟨w, d, f, ws, kvs, fr, fs, h1, h2, h3, h4, R⟩ := h
  exact ⟨w, d, f, ws, kvs, fr, fs, s _ _ h1, s _ _ h2, s _ _ h3, s _ _ h4, R⟩
theorem uni_l {D F : Hp} : Same D (uni D F) := fun b o h => by
  unfold uni
  rw [h]
theorem St.uni {A H H' a rm en row F D} (h : St A H a rm en row F) (s : Same H H') (f : Fresh H H' D) : St A H' a rm en row (My.uni D F) := h.more s fun b o e => by
  unfold My.uni at e
  split at e
  · rename_i o' q
    cases e
    exact .inr (f b o q)
  · exact .inl e
theorem uni_r {A H H' a rm en row F D} (h : St A H a rm en row F) (f : Fresh H H' D) : Same F (uni D F) := fun b o e => by
  unfold uni
  split
  · rename_i o' q
    have := (f b o' q).1
    rw [h.get e] at this
    cases this
  · exact e
theorem Fresh.one {H H1 : Hp} {D : Addr} {u : HO} (h : H D = none) (g : H1 D = some u) : Fresh H H1 (upd (fun _ => none) D u) := fun b o e => by
  by_cases c : b = D
  · subst c
    rw [upd_same] at e
    exact ⟨h, by rw [g]; exact e⟩
  · rw [upd_ne c] at e
    cases e
theorem Fresh.new {H H1 D : Hp} {p : Addr} {o : HO} (f : Fresh H H1 D) (s : Same H H1) (h : H1 p = none) : Fresh H (upd H1 p o) (upd D p o) := fun b u e => by
  by_cases c : b = p
  · subst c
    rw [upd_same] at e
    refine ⟨?_, by rw [upd_same]; exact e⟩
    cases q : H b with
    | none => rfl
    | some z =>
      rw [s _ _ q] at h
      cases h
  · rw [upd_ne c] at e ⊢
    exact f b u e
theorem PK.keys {kvs row} (h : PK kvs row) (nd : (nums row).Nodup) : (kvs.map (·.1)).Nodup := by
  obtain ⟨_, ks, e, p⟩ := h
  rw [e]
  exact List.pairwise_map.mpr ((p.nodup_iff.mpr nd).imp fun h z => h (Sum.inl.inj z))

def sp_snap (A : Ad) : Sp := fun vs H Q _ => ∃ a rm en row F, vs = [.ref a] ∧ St A H a rm en row F ∧ ∀ H' T D, Same H H' → Fresh H H' D → Sn D T en row → Q (.ref T) H'
theorem sp_snap_len {A vs H Q E} (h : sp_snap A vs H Q E) : vs.length = (["self"] : List Str).length := by
  obtain ⟨_, _, _, _, _, rfl, _⟩ := h
  rfl
section
variable {P : Program} {w : World} {K : PySem.W.Frag} {mg : Str → Option Value} {base : Heap} {A : Ad}
theorem ok_Store_snapshot (T : Txt K mg A) : FnOk P w K mg base CX0 1 A.f_Store_snapshot A.d_Store_snapshot ["self"] (sp_snap A) := by
  refine Fun.ok T.F_Store_snapshot sc_Store_snapshot (fun vs H Q E h => ?_) (fun cdv Ar outer s H vs Q E hr h => ?_)
  · exact sp_snap_len h
  · have hu := hu_of hr
    refine ⟨_, (pss_cons (ps_lock (ps_setDc (i := 1) (own := [("number", 2), ("at", 3)]) (g := gTup _ 2 (gCons (gName 2) (gCons (gName 3) gNil))) rfl sc_Store_snapshot.nd rfl rfl (sw_trueD rfl rfl rfl (by decide +kernel)) (pi_items (pe_fld (pv 0) rfl)) (blkOk_by (own := [("number", 2), ("at", 3)]) (N := ["self", "places", "number", "at"]) (sc := defScope s_Store_snapshot) (by decide +kernel)) (fun _ _ _ _ _ => (pg_tup (by rfl) (pgs_cons (pg_name (i := 2) sc_Store_snapshot.nd rfl (Or.inl rfl)) (pgs_cons (pg_name (i := 3) sc_Store_snapshot.nd rfl (Or.inl rfl)) pgs_nil)))) (fun _ _ _ _ _ => pts_nil) (fun _ _ _ _ _ => (pv 2)) (fun _ _ _ _ _ => (pv 3))))
    (pss_one (ps_ret (pe_tup (pa_cons (pe_callTy call_listM (by rfl) T.z_list (by decide +kernel) (pa_cons (pe_fld (pv 0) rfl) pa_nil)) (pa_cons (pv 1) (pa_cons (pe_callTy call_listM (by rfl) T.z_list (by decide +kernel) (pa_cons (pe_fld (pv 0) rfl) pa_nil)) (pa_cons (pe_fld (pv 0) rfl) pa_nil)))))))), ?_⟩
    obtain ⟨a, rm, en, row, F, rfl, ⟨dx, w, d, f, ws, kvs, fr, fs, I, R⟩, k⟩ := h
    have kl := R.kvl
    have h1 : ∀ od, upd H d (HO.frz od (.dK kvs)) a = some (.ins A.C_Store dx (stF rm en w d f fs)) := fun od => by rw [upd_ne I.add]; exact I.ho
    refine t_lock_set (dc_items (K := K) kvs (fun od R' h => ?_) I.hd (R.pk.keys R.nd) (by omega) (by show 2 < 4; decide) (by show 3 < 4; decide) (by decide) fun D H1 sm hD gD => ?_)
    · simp_all! only [h1]
      exact h
    · have J := I.same sm
      simp_all! only [J.ho, J.hw, J.hd, J.hf, List.length_map]
      intro l hl
      have dl := ne_of_none gD hl
      have f1 := (Fresh.one hD gD).new (o := .lst (ws.map V.int)) sm hl
      have sm2 := same_trans sm (same_new (o := .lst (ws.map V.int)) hl)
      have J2 := I.same sm2
      have g2 : upd H1 l (HO.lst (ws.map V.int)) l = some (.lst (ws.map V.int)) := upd_same
      have gD2 := same_new (o := HO.lst (ws.map V.int)) hl _ _ gD
      generalize upd H1 l (HO.lst (ws.map V.int)) = H2 at f1 sm2 J2 g2 gD2 ⊢
      simp_all! only [J2.ho, J2.hw, J2.hd, J2.hf, List.length_map]
      intro l1 hl1
      have f2 := f1.new (o := .lst (fr.map V.int)) sm2 hl1
      have sm3 := same_trans sm2 (same_new (o := .lst (fr.map V.int)) hl1)
      have J3 := I.same sm3
      have d1 := ne_of_none gD2 hl1
      have l1' := ne_of_none g2 hl1
      have g3 : upd H2 l1 (HO.lst (fr.map V.int)) l1 = some (.lst (fr.map V.int)) := upd_same
      have g23 := same_new (o := HO.lst (fr.map V.int)) hl1 _ _ g2
      have gD3 := same_new (o := HO.lst (fr.map V.int)) hl1 _ _ gD2
      generalize upd H2 l1 (HO.lst (fr.map V.int)) = H3 at f2 sm3 J3 g3 g23 gD3 ⊢
      simp_all! only [J3.ho, J3.hw, J3.hd, J3.hf, List.length_map]
      refine ⟨by decide, fun p hp => ?_⟩
      have p1 := ne_of_none gD3 hp
      have p2 := ne_of_none g23 hp
      have p3 := ne_of_none g3 hp
      refine k _ p _ (same_trans sm3 (same_new hp)) (f2.new sm3 hp) ⟨l, D, l1, ws, kvs, fr, fs, upd_same, ?_, ?_, ?_, R⟩
      · rw [upd_ne p2, upd_ne l1', upd_same]
      · rw [upd_ne p1, upd_ne d1, upd_ne dl, upd_same]
      · rw [upd_ne p3, upd_same]
end

def sp_rest (A : Ad) : Sp := fun vs H Q _ => ∃ a rm en row row' F tp, vs = [.ref a, .ref tp] ∧ St A H a rm en row F ∧ Sn F tp en row' ∧ ∀ H', St A H' a rm en row' F → Q .non H'
theorem sp_rest_len {A vs H Q E} (h : sp_rest A vs H Q E) : vs.length = (["self", "snapshot"] : List Str).length := by
  obtain ⟨_, _, _, _, _, _, _, rfl, _⟩ := h
  rfl
section
variable {P : Program} {w : World} {K : PySem.W.Frag} {mg : Str → Option Value} {base : Heap} {A : Ad}
theorem ok_Store_restore (T : Txt K mg A) : FnOk P w K mg base CX0 1 A.f_Store_restore A.d_Store_restore ["self", "snapshot"] (sp_rest A) := by
  refine Fun.ok T.F_Store_restore sc_Store_restore (fun vs H Q E h => ?_) (fun cdv Ar outer s H vs Q E hr h => ?_)
  · exact sp_rest_len h
  · have hu := hu_of hr
    refine ⟨_, (pss_cons (ps_asg (pv 1) (pg_tup (by rfl) (pgs_cons (pg_name (i := 2) sc_Store_restore.nd rfl (Or.inl rfl)) (pgs_cons (pg_name (i := 3) sc_Store_restore.nd rfl (Or.inl rfl)) (pgs_cons (pg_name (i := 4) sc_Store_restore.nd rfl (Or.inl rfl)) (pgs_cons (pg_name (i := 5) sc_Store_restore.nd rfl (Or.inl rfl)) pgs_nil))))))
    (pss_cons (ps_asg (pv 2) (pg_all (pe_fld (pv 0) rfl)))
    (pss_cons (ps_fld (pv 0) (pe_lock (pe_dc (own := [("number", 6), ("at", 7)]) (g := gTup _ 2 (gCons (gName 6) (gCons (gName 7) gNil))) rfl sc_Store_restore.nd (pi_items (pv 3)) (blkOk_by (own := [("number", 6), ("at", 7)]) (N := ["self", "snapshot", "words", "places", "free", "fresh", "number", "at"]) (sc := defScope s_Store_restore) (by decide +kernel)) (fun _ _ _ _ _ => (pg_tup (by rfl) (pgs_cons (pg_name (i := 6) sc_Store_restore.nd rfl (Or.inl rfl)) (pgs_cons (pg_name (i := 7) sc_Store_restore.nd rfl (Or.inl rfl)) pgs_nil)))) (fun _ _ _ _ _ => pts_nil) (fun _ _ _ _ _ => (pv 6)) (fun _ _ _ _ _ => (pv 7)))) rfl)
    (pss_cons (ps_fld (pv 0) (pe_callTy call_listM (by rfl) T.z_list (by decide +kernel) (pa_cons (pv 4) pa_nil)) rfl)
    (pss_one (ps_fld (pv 0) (pv 5) rfl)))))), ?_⟩
    obtain ⟨a, rm, en, row, row', F, tp, rfl, ⟨dx, w, d, f, ws, kvs, fr, fs, I, R⟩, ⟨w2, d2, f2, ws2, kvs2, fr2, fs2, h1, h2, h3, h4, R2⟩, k⟩ := h
    obtain ⟨e1, t1, t2, t3, t4⟩ := I.fr _ _ h1
    obtain ⟨e2, w21, w22, w23, w24⟩ := I.fr _ _ h2
    obtain ⟨e3, d21, d22, d23, d24⟩ := I.fr _ _ h3
    obtain ⟨e4, f21, f22, f23, f24⟩ := I.fr _ _ h4
    have kl := R2.kvl
    have z1 := R.sz
    have z2 := R2.sz
    rw [← R.ws] at z1
    rw [← R2.ws] at z2
    have sz : (300000 : Nat) ≤ sizeLine := by decide
    simp_all! only [I.ho, I.hw, I.hd, I.hf, List.length_map, e1, e2, e3, e4]
    refine ⟨_, .inl (.inl e1), rfl, .ref w2, _, rfl, .ref d2, _, rfl, .ref f2, _, rfl, .int fs2, _, rfl, rfl, ?_⟩
    simp_all! only [I.ho, I.hw, I.hd, I.hf, List.length_map, e1, e2, e3, e4]
    refine ⟨Ne.symm w22, by omega, ?_⟩
    have J := I.words ws2
    have e3b : upd H w (HO.lst (ws2.map V.int)) d2 = some (.dK kvs2) := by rw [upd_ne d22]; exact e3
    have e4b : upd H w (HO.lst (ws2.map V.int)) f2 = some (.lst (fr2.map V.int)) := by rw [upd_ne f22]; exact e4
    generalize upd H w (HO.lst (ws2.map V.int)) = H1 at J e3b e4b ⊢
    refine dc_items (K := K) kvs2 (fun od R' h => ?_) e3b (R2.pk.keys R2.nd) (by omega) (by show 6 < 8; decide) (by show 7 < 8; decide) (by decide) fun D H2 sm hD gD => ?_
    · simp! only [rIsL]
      exact h
    · have FD := J.out hD
      have oD := J.part hD
      have J2 := J.same sm
      have e4c := sm _ _ e4b
      refine ⟨_, _, _, J2.ho, T.cl_Store, T.no_Store__places, by rw [stF_len]; decide, ?_⟩
      rw [stF_pd]
      have J3 : Si A (upd H2 a (.ins A.C_Store dx (stF rm en w D f fs))) a dx w D f rm en ws2 kvs2 fr fs F := ⟨upd_same, by rw [upd_ne (Ne.symm J2.aw)]; exact J2.hw, by rw [upd_ne oD.1]; exact gD, by rw [upd_ne (Ne.symm J2.af)]; exact J2.hf, J2.ne, fun b u hb => by
        obtain ⟨q1, q2, q3, q4, q5⟩ := J2.fr b u hb
        exact ⟨by rw [upd_ne q2]; exact q1, q2, q3, ne_of_none hb FD, q5⟩⟩
      have e4d : upd H2 a (.ins A.C_Store dx (stF rm en w D f fs)) f2 = some (.lst (fr2.map V.int)) := by rw [upd_ne f21]; exact e4c
      generalize upd H2 a (.ins A.C_Store dx (stF rm en w D f fs)) = H3 at J3 e4d ⊢
      rw [e4d]
      intro l hl
      have Fl := J3.out hl
      obtain ⟨l1, l2, l3, l4⟩ := J3.part hl
      refine ⟨_, _, _, (J3.same (same_new hl)).ho, T.cl_Store, T.no_Store__free, by rw [stF_len]; decide, T.cl_Store, T.no_Store__fresh, by rw [stF_pl, stF_len]; decide, ?_⟩
      rw [stF_pl, stF_pf]
      refine k _ ⟨dx, w, D, l, ws2, kvs2, fr2, fs2, ⟨upd_same, ?_, ?_, ?_, Ne.symm l2, fun b u hb => ?_⟩, R2⟩
      · rw [upd_ne (Ne.symm J3.aw), upd_ne (Ne.symm l2)]
        exact J3.hw
      · rw [upd_ne (Ne.symm J3.add), upd_ne (Ne.symm l3)]
        exact J3.hd
      · rw [upd_ne l1, upd_same]
      · obtain ⟨q1, q2, q3, q4, q5⟩ := J3.fr b u hb
        have q6 := ne_of_none hb Fl
        exact ⟨by rw [upd_ne q2, upd_ne q6]; exact q1, q2, q3, q4, q6⟩
end

/-- the numbers that some words lead to -/
inductive Rch (row : List OB) (roots : List Int) : Int → Prop
  | root {w : Int} : w ∈ roots → w % 2 = 0 → w / 2 ∈ nums row → Rch row roots (w / 2)
  | step {n : Int} {o : OB} {w : Int} : Rch row roots n → getO row n = some o → w ∈ o.kind :: o.sl → w % 2 = 0 → w / 2 ∈ nums row → Rch row roots (w / 2)
/-- looking for them: those found, and the words still to be looked at -/
structure Fnd (row : List OB) (roots : List Int) (found : List Int) (todo : List Int) : Prop where
  ok : ∀ n ∈ found, Rch row roots n ∧ n ∈ nums row
  nd : found.Nodup
  td : ∀ w ∈ todo, w % 2 = 0 → w / 2 ∈ nums row → Rch row roots (w / 2)
  rt : ∀ w ∈ roots, w % 2 = 0 → w / 2 ∈ nums row → w / 2 ∈ found ∨ w ∈ todo
  cl : ∀ n ∈ found, ∀ o, getO row n = some o → ∀ w ∈ o.kind :: o.sl, w % 2 = 0 → w / 2 ∈ nums row → w / 2 ∈ found ∨ w ∈ todo
theorem Fnd.start {row : List OB} {roots : List Int} : Fnd row roots [] roots :=
  ⟨by simp, List.nodup_nil, fun w hw h1 h2 => .root hw h1 h2, fun w hw _ _ => .inr hw, by simp⟩
theorem Fnd.skip {row : List OB} {roots found todo : List Int} {w : Int} (h : Fnd row roots found (w :: todo)) (hs : w % 2 = 0 → w / 2 ∈ nums row → w / 2 ∈ found) : Fnd row roots found todo := by
  refine ⟨h.ok, h.nd, fun x hx => h.td x (List.mem_cons_of_mem _ hx), fun x hx h1 h2 => ?_, fun n hn o ho x hx h1 h2 => ?_⟩
  · rcases h.rt x hx h1 h2 with c | c
    · exact .inl c
    · rcases List.mem_cons.mp c with rfl | c
      · exact .inl (hs h1 h2)
      · exact .inr c
  · rcases h.cl n hn o ho x hx h1 h2 with c | c
    · exact .inl c
    · rcases List.mem_cons.mp c with rfl | c
      · exact .inl (hs h1 h2)
      · exact .inr c
theorem Fnd.take {row : List OB} {roots found todo : List Int} {w : Int} {o : OB} (h : Fnd row roots found (w :: todo)) (h1 : w % 2 = 0) (h2 : w / 2 ∉ found) (ho : getO row (w / 2) = some o) : Fnd row roots (found ++ [w / 2]) (todo ++ (o.kind :: o.sl)) := by
  have hn := getO_nums ho
  have hr := h.td w (List.mem_cons_self ..) h1 hn
  refine ⟨fun n hm => ?_, ?_, fun x hx g1 g2 => ?_, fun x hx g1 g2 => ?_, fun n hm q hq x hx g1 g2 => ?_⟩
  · rcases List.mem_append.mp hm with hm | hm
    · exact h.ok n hm
    · rw [List.mem_singleton] at hm
      subst hm
      exact ⟨hr, hn⟩
  · refine List.nodup_append.mpr ⟨h.nd, by simp, fun x hx y hy e => ?_⟩
    rw [List.mem_singleton] at hy
    subst hy
    exact h2 (e ▸ hx)
  · rcases List.mem_append.mp hx with hx | hx
    · exact h.td x (List.mem_cons_of_mem _ hx) g1 g2
    · exact .step hr ho hx g1 g2
  · rcases h.rt x hx g1 g2 with c | c
    · exact .inl (List.mem_append_left _ c)
    · rcases List.mem_cons.mp c with rfl | c
      · exact .inl (List.mem_append_right _ (List.mem_singleton.mpr rfl))
      · exact .inr (List.mem_append_left _ c)
  · rcases List.mem_append.mp hm with hm | hm
    · rcases h.cl n hm q hq x hx g1 g2 with c | c
      · exact .inl (List.mem_append_left _ c)
      · rcases List.mem_cons.mp c with rfl | c
        · exact .inl (List.mem_append_right _ (List.mem_singleton.mpr rfl))
        · exact .inr (List.mem_append_left _ c)
    · rw [List.mem_singleton] at hm
      subst hm
      rw [ho] at hq
      cases hq
      exact .inr (List.mem_append_right _ hx)
theorem Fnd.perm {row : List OB} {roots found todo todo' : List Int} (h : Fnd row roots found todo) (e : ∀ w, w ∈ todo' ↔ w ∈ todo) : Fnd row roots found todo' :=
  ⟨h.ok, h.nd, fun w hw => h.td w ((e w).mp hw), fun w hw h1 h2 => (h.rt w hw h1 h2).imp id (e w).mpr, fun n hn o ho w hw h1 h2 => (h.cl n hn o ho w hw h1 h2).imp id (e w).mpr⟩
theorem Fnd.done {row : List OB} {roots found : List Int} (h : Fnd row roots found []) (n : Int) : n ∈ found ↔ Rch row roots n := by
  constructor
  · exact fun hn => (h.ok n hn).1
  · intro r
    induction r with
    | root hw h1 h2 => exact (h.rt _ hw h1 h2).resolve_right (by simp)
    | step r ho hw h1 h2 ih => exact (h.cl _ ih _ ho _ hw h1 h2).resolve_right (by simp)
theorem Fnd.few {row : List OB} {roots found todo : List Int} (h : Fnd row roots found todo) : found.length ≤ (nums row).length := by
  have : ∀ (l m : List Int), l.Nodup → (∀ x ∈ l, x ∈ m) → l.length ≤ m.length := by
    intro l
    induction l with
    | nil => exact fun _ _ _ => Nat.zero_le _
    | cons x l ih =>
      intro m hn hs
      have hn2 := List.nodup_cons.mp hn
      have hx := hs x (List.mem_cons_self ..)
      have := ih (m.erase x) hn2.2 fun y hy => (List.mem_erase_of_ne (show y ≠ x from fun e => hn2.1 (by rw [← e]; exact hy))).mpr (hs y (List.mem_cons_of_mem _ hy))
      rw [List.length_erase_of_mem hx] at this
      have := List.length_pos_of_mem hx
      rw [List.length_cons]
      omega
  exact this found (nums row) h.nd fun x hx => (h.ok x hx).2

theorem range_pick {α : Type} (p : α → Bool) (g : α → V) : ∀ (bs : List α), ((List.range bs.length).filter fun i => (bs[i]?.map p).getD false).map (fun i => (bs[i]?.map g).getD .non) = (bs.filter p).map g := by
  intro bs
  have : ∀ (n : Nat), n ≤ bs.length → ((List.range n).filter fun i => (bs[i]?.map p).getD false).map (fun i => (bs[i]?.map g).getD .non) = ((bs.take n).filter p).map g := by
    intro n
    induction n with
    | zero => intro _; rfl
    | succ n ih =>
      intro h
      have hn : n < bs.length := h
      rw [List.range_succ, List.filter_append, List.map_append, ih (by omega), List.take_add_one, List.filter_append, List.map_append, List.getElem?_eq_getElem hn]
      congr 1
      rw [List.filter_cons]
      simp only [List.getElem?_eq_getElem hn, Option.map_some, Option.getD_some, Option.toList_some]
      by_cases c : p bs[n] = true
      · simp [c, hn]
      · simp [c]
  have := this bs.length (Nat.le_refl _)
  rw [List.take_length] at this
  exact this

theorem all_below : ∀ (k : Nat) (l : List Int), (∀ m : Int, 0 ≤ m → m < k → m ∈ l) → k ≤ l.length
  | 0, _, _ => Nat.zero_le _
  | k + 1, l, h => by
    have hk : (k : Int) ∈ l := h k (by omega) (by omega)
    have := all_below k (l.erase (k : Int)) fun m m0 m1 => (List.mem_erase_of_ne (by omega)).mpr (h m m0 (by omega))
    rw [List.length_erase_of_mem hk] at this
    have := List.length_pos_of_mem hk
    omega
theorem free_least {row : List OB} {n : Int} (h : IsFree row n) : n ≤ row.length := by
  have := all_below n.toNat (nums row) fun m m0 m1 => h.2.2 m m0 (by have := h.1; omega)
  have := nums_len (row := row)
  omega

def sp_isref : Sp := fun vs H Q _ => ∃ w : Int, vs = [.int w] ∧ Q (.bl (decide (w % 2 = 0))) H
theorem sp_isref_len {vs H Q E} (h : sp_isref vs H Q E) : vs.length = (["word"] : List Str).length := by
  obtain ⟨_, rfl, _⟩ := h
  rfl
section
variable {P : Program} {w : World} {K : PySem.W.Frag} {mg : Str → Option Value} {base : Heap} {A : Ad}
theorem ok_is_ref (T : Txt K mg A) : FnOk P w K mg base CX0 1 A.f_is_ref A.d_is_ref ["word"] (sp_isref) := by
  refine Fun.ok T.F_is_ref sc_is_ref (fun vs H Q E h => ?_) (fun cdv Ar outer s H vs Q E hr h => ?_)
  · exact sp_isref_len h
  · have hu := hu_of hr
    refine ⟨_, (pss_one (ps_ret (pe_cmpR op_eq (pe_op op_mod (pv 0) pe_int) pe_int (nomark _)))), ?_⟩
    obtain ⟨w, rfl, k⟩ := h
    simp! only [rIsL]
    exact ⟨by decide, k⟩
theorem hot_is_ref (T : Txt K mg A) : L2H.FnH P w K mg base CX0 1 A.f_is_ref A.d_is_ref ["word"] (sp_isref) := by
  refine okH0 T.F_is_ref sc_is_ref (fun vs H Q E h => ?_) (fun cdv Ar outer s H vs Q E p hot hr h => ?_)
  · exact sp_isref_len h
  · have hu := hu_ofH hr
    refine ⟨_, (pss_one (ps_ret (pe_cmpR op_eq (pe_op op_mod (pv 0) pe_int) pe_int (nomark _)))), ?_⟩
    obtain ⟨w, rfl, k⟩ := h
    simp! only [rIsL]
    exact ⟨by decide, k⟩
end

def mkD (ks : List Int) : List (Key × V) := ks.map fun n => (Sum.inl n, .bl true)
theorem mkD_val : ∀ (ks : List Int) (n : Int), (valV (mkD ks) (Sum.inl n)).isSome = decide (n ∈ ks)
  | [], n => by simp [mkD, valV_nil]
  | k :: ks, n => by
    have ih := mkD_val ks n
    show (valV ((Sum.inl k, V.bl true) :: mkD ks) (Sum.inl n)).isSome = _
    by_cases e : k = n
    · subst e
      rw [valV_pos rfl]
      simp
    · rw [valV_neg (fun z => e (Sum.inl.inj z)), ih]
      have : ¬ n = k := fun z => e z.symm
      simp [this]
theorem mkD_put {ks : List Int} {n : Int} (h : n ∉ ks) : putK (mkD ks) (Sum.inl n) (.bl true) = mkD (ks ++ [n]) := by
  have : valV (mkD ks) (Sum.inl n) = none := by
    have := mkD_val ks n
    rw [decide_eq_false h] at this
    cases e : valV (mkD ks) (Sum.inl n) with
    | none => rfl
    | some v =>
      rw [e] at this
      cases this
  rw [putK_new _ this]
  unfold mkD
  rw [List.map_append]
  rfl
theorem mkD_keys {ks : List Int} : (mkD ks).map (·.1) = ks.map Sum.inl := by
  unfold mkD
  rw [List.map_map]
  rfl
theorem mkD_len {ks : List Int} : (mkD ks).length = ks.length := by
  unfold mkD
  rw [List.length_map]
def lrefs (ws : List (Addr × List Int)) : List V := ws.map fun x => .ref x.1
def lall (ws : List (Addr × List Int)) : List Int := ws.flatMap (·.2)
/-- the search under way -/
structure Sch (H0 H : Hp) (wl d : Addr) (row : List OB) (rs found : List Int) (ws : List (Addr × List Int)) (todo : List Int) : Prop where
  sm : Same H0 H
  hw : H wl = some (.lst (lrefs ws))
  hd : H d = some (.dK (mkD found))
  one : ∀ x ∈ ws, H x.1 = some (.lst (x.2.map V.int)) ∧ x.1 ≠ wl ∧ x.2.length ≤ 100000
  fn : Fnd row rs found (todo ++ lall ws)

def sp_reached (A : Ad) : Sp := fun vs H Q _ => ∃ (s p : Addr) (rm en : Int) (row : List OB) (F : Hp) (rs : List Int), vs = [.ref s, .ref p] ∧ St A H s rm en row F ∧ H p = some (.lst (rs.map V.int)) ∧ rs.length ≤ 100000 ∧
  ∀ H' d ks, Same H H' → H d = none → H' d = some (.dK (mkD ks)) → ks.Nodup → (∀ n, n ∈ ks ↔ Rch row rs n) → Q (.ref d) H'
theorem sp_reached_len {A vs H Q E} (h : sp_reached A vs H Q E) : vs.length = (["store", "roots"] : List Str).length := by
  obtain ⟨_, _, _, _, _, _, _, rfl, _⟩ := h
  rfl
section
variable {P : Program} {w : World} {K : PySem.W.Frag} {mg : Str → Option Value} {base : Heap} {A : Ad}
theorem ok_reached (T : Txt K mg A) : FnOk P w K mg base CX0 3 A.f_reached A.d_reached ["store", "roots"] (sp_reached A) := by
  refine Fun.ok T.F_reached sc_reached (fun vs H Q E h => ?_) (fun cdv Ar outer s H vs Q E hr h => ?_)
  · exact sp_reached_len h
  · have hu := hu_of hr
    refine ⟨_, (pss_cons (ps_asg pe_dnewK (pg_name (i := 2) sc_reached.nd rfl (Or.inl rfl)))
    (pss_cons (ps_asg (pe_lst (pa_cons (pe_callTy call_listM (by rfl) T.z_list (by decide +kernel) (pa_cons (pv 1) pa_nil)) pa_nil)) (pg_name (i := 3) sc_reached.nd rfl (Or.inl rfl)))
    (pss_cons (ps_while PassesOwn.never (pt_truth (pv 3) (by intro _; rfl)) (pss_cons (ps_asg (pe_bm0M PySem.F.slot_list_pop PySem.F.type_list_pop mt_pop (pv 3)) (pg_name (i := 4) sc_reached.nd rfl (Or.inl rfl)))
    (pss_one (ps_for PassesOwn.never rfl (pi_list (pv 4)) (pg_name (i := 5) sc_reached.nd rfl (Or.inl rfl))
      (pss_cons (ps_asg (pe_op op_fdiv (pv 5) pe_int) (pg_name (i := 6) sc_reached.nd rfl (Or.inl rfl)))
    (pss_one (ps_if (PW.pt (pw_and (pt_val (pe_call (ok_is_ref T) (hr.mono (by decide)) (by rfl) T.g_is_ref T.k_is_ref T.b_is_ref .nil pass0 (pa_cons (pv 5) pa_nil))) (pw_and (pt_cmpR (op_dnotinM hu) (pv 6) (pv 2) (by rfl)) (pw_and1 (pt_val (pe_meth (pv 0) T.cl_Store T.me_Store_exists (ok_Store_exists T) (hr.mono (by decide)) T.b_Store_exists .nil pass0 (pa_cons (pv 6) pa_nil))))))) (pss_cons (ps_asg pe_bl (pg_sub (pv 2) (pv 6) (set_dictM hu)))
    (pss_one (ps_expr (pe_bmM PySem.F.slot_list_append PySem.F.type_list_append mt_append (pv 3) (pa_cons (pe_op op_cat (pe_lst (pa_cons (pe_meth (pv 0) T.cl_Store T.me_Store_kind (ok_Store_kind T) (hr.mono (by decide)) T.b_Store_kind .nil pass0 (pa_cons (pv 6) pa_nil)) pa_nil)) (pe_meth (pv 0) T.cl_Store T.me_Store_slots (ok_Store_slots T) (hr.mono (by decide)) T.b_Store_slots .nil pass0 (pa_cons (pv 6) pa_nil))) pa_nil))))) pss_nil)))))))
    (pss_one (ps_ret (pv 2)))))), ?_⟩
    obtain ⟨s, p, rm, en, row, F, rs, rfl, S, hp, hrs, k⟩ := h
    have sz : (300000 : Nat) ≤ sizeLine := by decide
    simp! only [rIsL]
    intro d hd
    have sm0 : Same H (upd H d (.dK [])) := same_new hd
    have hd1 : upd H d (.dK []) d = some (.dK []) := upd_same
    generalize upd H d (.dK []) = H1 at sm0 hd1 ⊢
    have hp1 := sm0 _ _ hp
    simp! only [hp1]
    intro t ht
    refine ⟨by omega, fun wl hwl => ?_⟩
    have nt : ∀ (x : Addr), upd (upd H1 t (HO.lst (rs.map V.int))) wl (.lst [.ref t]) x = some (.dK []) → x = d ∨ True := fun _ _ => .inr trivial
    have t1 : upd H1 t (HO.lst (rs.map V.int)) t = some (.lst (rs.map V.int)) := upd_same
    have twl := ne_of_none t1 hwl
    have sm1 := same_trans (same_new (o := HO.lst (rs.map V.int)) ht) (same_new (o := HO.lst [.ref t]) hwl)
    have S0 : Sch H (upd (upd H1 t (HO.lst (rs.map V.int))) wl (.lst [.ref t])) wl d row rs [] [(t, rs)] [] := by
      refine ⟨same_trans sm0 sm1, upd_same, sm1 _ _ hd1, fun x hx => ?_, ?_⟩
      · rw [List.mem_singleton] at hx
        subst hx
        exact ⟨by rw [upd_ne twl]; exact t1, twl, hrs⟩
      · simp [lall]
        exact .start
    have wn : ∀ x, H x ≠ none → x ≠ wl := fun x hx e => by
      subst e
      cases q : H x with
      | none => exact hx q
      | some o =>
        have := same_new (o := HO.lst (rs.map V.int)) ht _ _ (sm0 _ _ q)
        rw [hwl] at this
        cases this
    generalize upd (upd H1 t (HO.lst (rs.map V.int))) wl (.lst [.ref t]) = H2 at S0 ⊢
    have hdn : H d = none := hd
    have hwn : H wl = none := by
      cases q : H wl with
      | none => rfl
      | some o => exact absurd rfl (wn wl (by rw [q]; simp))
    clear sm1 twl t1 nt hd1 hp1 ht hwl sm0
    obtain ⟨dx, w0, dd, f, ws0, kvs, fr, fs, I, RO⟩ := S
    have nl := nums_len (row := row)
    have rl := flat_rows row
    have rz := RO.sz
    have kz : ∀ n o, getO row n = some o → o.sl.length + 3 ≤ 100000 := fun n o ho => by
      obtain ⟨_, _, h, _⟩ := word_at ho
      omega
    refine ⟨fun m σ2 H' => ∃ (found : List Int) (ws : List (Addr × List Int)) (n4 n5 n6 : Option V), σ2 = [some (V.ref s), some (V.ref p), some (V.ref d), some (V.ref wl), n4, n5, n6] ∧ Sch H H' wl d row rs found ws [] ∧ m = (nums row).length - found.length + ws.length ∧ ws.length ≤ found.length + 1, ⟨_, [], [(t, rs)], _, _, _, rfl, S0, rfl, Nat.le_refl _⟩, ?_⟩
    rintro m σ2 H' ⟨found, ws, n4, n5, n6, rfl, C, rfl, wb⟩
    have hw := C.hw
    simp! only [hw]
    refine ⟨_, .inl ⟨_, .inl (.inl hw), rfl⟩, ?_⟩
    rcases List.eq_nil_or_concat ws with hws | ⟨ws', x, hws⟩
    · subst hws
      simp! only [lrefs, List.isEmpty_nil]
      have fn := C.fn
      simp only [lall, List.flatMap_nil, List.append_nil] at fn
      exact k H' d found C.sm hdn C.hd fn.nd fn.done
    · rw [List.concat_eq_append] at hws
      subst hws
      have ne : (lrefs (ws' ++ [x])).isEmpty = false := by
        unfold lrefs
        rw [List.map_append]
        simp
      rw [ne]
      simp! only [hw]
      have last : (lrefs (ws' ++ [x]))[(lrefs (ws' ++ [x])).length - 1]? = some (.ref x.1) := by simp [lrefs]
      have dl : (lrefs (ws' ++ [x])).dropLast = lrefs ws' := by simp [lrefs]
      rw [dl]
      obtain ⟨x1, x2, x3⟩ := C.one x (by simp)
      have few1 := C.fn.few
      rw [List.length_append, List.length_singleton] at wb
      have Cb : Sch H (upd H' wl (.lst (lrefs ws'))) wl d row rs found ws' x.2 := by
        refine ⟨fun b o hb => by rw [upd_ne (ne_of_none hb hwn)]; exact C.sm _ _ hb, upd_same, by rw [upd_ne (ne_ho C.hd C.hw (by simp))]; exact C.hd, fun y hy => ?_, C.fn.perm fun w => ?_⟩
        · obtain ⟨y1, y2, y3⟩ := C.one y (by simp [hy])
          exact ⟨by rw [upd_ne y2]; exact y1, y2, y3⟩
        · simp [lall]
          exact Or.comm
      have hx : upd H' wl (.lst (lrefs ws')) x.1 = some (.lst (x.2.map V.int)) := by rw [upd_ne x2]; exact x1
      generalize upd H' wl (.lst (lrefs ws')) = Hb at Cb hx ⊢
      refine ⟨fun σ' H2 => ∃ (found2 : List Int) (ws2 : List (Addr × List Int)) (n4 n5 n6 : Option V), σ' = [some (V.ref s), some (V.ref p), some (V.ref d), some (V.ref wl), n4, n5, n6] ∧ Sch H H2 wl d row rs found2 ws2 [] ∧ ws2.length + found.length = ws'.length + found2.length, ?_, _, last, ?_⟩
      · rintro σ' H2 ⟨found2, ws2, n4, n5, n6, rfl, C2, hc⟩
        have few2 := C2.fn.few
        exact ⟨_, by rw [List.length_append]; simp; omega, ⟨_, _, _, rfl⟩, found2, ws2, C2, rfl, by omega⟩
      · clear C hw ne last dl x1
        refine for_lst (H0 := Hb) (a := x.1) (x.2.map V.int) (fun R h => ⟨_, rfl, h⟩) (fun i σ' H2 => ∃ (found2 : List Int) (ws2 : List (Addr × List Int)) (n5 n6 : Option V), σ' = [some (V.ref s), some (V.ref p), some (V.ref d), some (V.ref wl), some (V.ref x.1), n5, n6] ∧ Sch H H2 wl d row rs found2 ws2 (x.2.drop i) ∧ H2 x.1 = some (.lst (x.2.map V.int)) ∧ ws2.length + found.length = ws'.length + found2.length) ⟨found, ws', _, _, rfl, Cb, hx, rfl⟩ ?_ ?_ ?_
        · rintro i σ' H2 _ ⟨found2, ws2, n5, n6, rfl, C2, h2, hc⟩
          exact .inl (.inl h2)
        · rintro i v σ' H2 hv ⟨found2, ws2, n5, n6, rfl, C2, h2, hc⟩
          rw [List.getElem?_map] at hv
          obtain ⟨w, hw, rfl⟩ := Option.map_eq_some_iff.mp hv
          have hlt := (List.getElem?_eq_some_iff.mp hw).1
          have dr : x.2.drop i = w :: x.2.drop (i + 1) := by rw [List.drop_eq_getElem_cons hlt, (List.getElem?_eq_some_iff.mp hw).2]
          rw [dr] at C2
          have few2 := C2.fn.few
          have fn2 := C2.fn
          rw [List.cons_append] at fn2
          have I2 := I.same C2.sm
          have skip : (w % 2 = 0 → w / 2 ∈ nums row → w / 2 ∈ found2) → Sch H H2 wl d row rs found2 ws2 (x.2.drop (i + 1)) := fun h => ⟨C2.sm, C2.hw, C2.hd, C2.one, fn2.skip h⟩
          have hd2 := C2.hd
          simp_all! only [I2.ho, hd2, mkD_val]
          refine ⟨⟨by decide, by decide⟩, w, rfl, ?_⟩
          by_cases e1 : w % 2 = 0
          · rw [decide_eq_true e1]
            simp_all! only [I2.ho, hd2, mkD_val]
            refine ite2 (fun e2 => ?_) (fun e2 => ⟨found2, ws2, skip fun _ _ => Classical.not_not.mp e2, h2, hc⟩)
            refine ⟨s, rm, en, row, F, w / 2, rfl, ⟨dx, w0, dd, f, ws0, kvs, fr, fs, I2, RO⟩, ?_⟩
            by_cases e3 : w / 2 ∈ nums row
            · rw [decide_eq_true e3]
              simp_all! only [I2.ho, hd2]
              obtain ⟨o, ho⟩ := getO_of_mem e3
              have hz := kz _ o ho
              refine ⟨by rw [mkD_len]; omega, ?_⟩
              rw [mkD_put e2]
              have dwl : wl ≠ d := ne_ho C2.hw hd2 (by simp)
              have I3 := I2.other (o := HO.dK (mkD (found2 ++ [w / 2]))) (I.part hdn) (I.out hdn)
              have hd3 : upd H2 d (HO.dK (mkD (found2 ++ [w / 2]))) wl = some (.lst (lrefs ws2)) := by rw [upd_ne dwl]; exact C2.hw
              have k3 : ∀ y L, H2 y = some (.lst L) → upd H2 d (HO.dK (mkD (found2 ++ [w / 2]))) y = some (.lst L) := fun y L hy => by rw [upd_ne (ne_ho hy hd2 (by simp))]; exact hy
              have sm3 : Same H (upd H2 d (HO.dK (mkD (found2 ++ [w / 2])))) := fun b u hb => by
                rw [upd_ne (ne_of_none hb hdn)]
                exact C2.sm _ _ hb
              have d3 : upd H2 d (HO.dK (mkD (found2 ++ [w / 2]))) d = some (.dK (mkD (found2 ++ [w / 2]))) := upd_same
              generalize upd H2 d (HO.dK (mkD (found2 ++ [w / 2]))) = Ha at I3 hd3 k3 sm3 d3 ⊢
              simp_all! only [I3.ho, hd3]
              refine ⟨s, rm, en, row, F, w / 2, o, rfl, ⟨dx, w0, dd, f, ws0, kvs, fr, fs, I3, RO⟩, ho, by omega, fun q hq => ?_⟩
              have I4 := I3.same (same_new (o := HO.lst [V.int o.kind]) hq)
              simp_all! only [I4.ho]
              refine ⟨s, rm, en, row, F, w / 2, o, rfl, ⟨dx, w0, dd, f, ws0, kvs, fr, fs, I4, RO⟩, ho, fun u hu => ?_⟩
              have qu := ne_of_none upd_same hu
              refine ⟨u, rfl, _, by rw [upd_ne qu, upd_same], _, upd_same, by rw [List.length_map]; simp; omega, fun p3 h3 => ?_⟩
              have sm4 := same_trans (same_trans (same_new (o := HO.lst [V.int o.kind]) hq) (same_new (o := HO.lst (o.sl.map V.int)) hu)) (same_new (o := HO.lst ([V.int o.kind] ++ o.sl.map V.int)) h3)
              have e5 : [V.int o.kind] ++ o.sl.map V.int = (o.kind :: o.sl).map V.int := rfl
              have p3wl : p3 ≠ wl := Ne.symm (ne_of_none (same_trans (same_new (o := HO.lst [V.int o.kind]) hq) (same_new (o := HO.lst (o.sl.map V.int)) hu) _ _ hd3) h3)
              have g3 : upd (upd (upd Ha q (HO.lst [V.int o.kind])) u (HO.lst (o.sl.map V.int))) p3 (HO.lst ([V.int o.kind] ++ o.sl.map V.int)) p3 = some (.lst ((o.kind :: o.sl).map V.int)) := upd_same
              generalize upd (upd (upd Ha q (HO.lst [V.int o.kind])) u (HO.lst (o.sl.map V.int))) p3 (HO.lst ([V.int o.kind] ++ o.sl.map V.int)) = Hd at sm4 g3 ⊢
              have fn4 := fn2.take e1 e2 ho
              have few4 := fn4.few
              rw [List.length_append, List.length_singleton] at few4
              refine ⟨_, sm4 _ _ hd3, by unfold lrefs; rw [List.length_map]; omega, found2 ++ [w / 2], ws2 ++ [(p3, o.kind :: o.sl)], ⟨fun b v hb => ?_, ?_, ?_, fun y hy => ?_, fn4.perm fun z => ?_⟩, ?_, ?_⟩
              · rw [upd_ne (ne_of_none hb hwn)]
                exact sm4 _ _ (sm3 _ _ hb)
              · rw [upd_same]
                simp [lrefs]
              · rw [upd_ne (Ne.symm dwl)]
                exact sm4 _ _ d3
              · rcases List.mem_append.mp hy with hy | hy
                · obtain ⟨y1, y2, y3⟩ := C2.one y hy
                  exact ⟨by rw [upd_ne y2]; exact sm4 _ _ (k3 _ _ y1), y2, y3⟩
                · rw [List.mem_singleton] at hy
                  subst hy
                  exact ⟨by rw [upd_ne p3wl]; exact g3, p3wl, by simp; omega⟩
              · simp [lall, or_assoc]
              · rw [upd_ne x2]
                exact sm4 _ _ (k3 _ _ h2)
              · rw [List.length_append, List.length_append, List.length_singleton, List.length_singleton]
                omega
            · rw [decide_eq_false e3]
              simp! only [rIsL]
              exact ⟨found2, ws2, skip fun _ h => absurd h e3, h2, hc⟩
          · rw [decide_eq_false e1]
            simp! only [rIsL]
            exact ⟨found2, ws2, skip fun h _ => absurd h e1, h2, hc⟩
        · rintro σ' H2 ⟨found2, ws2, n5, n6, rfl, C2, h2, hc⟩
          rw [List.length_map, List.drop_length] at C2
          exact ⟨found2, ws2, _, _, _, rfl, C2, hc⟩
theorem hot_reached (T : Txt K mg A) : L2H.FnH P w K mg base CX0 3 A.f_reached A.d_reached ["store", "roots"] (sp_reached A) := by
  refine okH0 T.F_reached sc_reached (fun vs H Q E h => ?_) (fun cdv Ar outer s H vs Q E p hot hr h => ?_)
  · exact sp_reached_len h
  · have hu := hu_ofH hr
    refine ⟨_, (pss_cons (ps_asg pe_dnewK (pg_name (i := 2) sc_reached.nd rfl (Or.inl rfl)))
    (pss_cons (ps_asg (pe_lst (pa_cons (pe_callTy call_listM (by rfl) T.z_list (by decide +kernel) (pa_cons (pv 1) pa_nil)) pa_nil)) (pg_name (i := 3) sc_reached.nd rfl (Or.inl rfl)))
    (pss_cons (ps_while PassesOwn.never (pt_truth (pv 3) (by intro _; rfl)) (pss_cons (ps_asg (pe_bm0M PySem.F.slot_list_pop PySem.F.type_list_pop mt_pop (pv 3)) (pg_name (i := 4) sc_reached.nd rfl (Or.inl rfl)))
    (pss_one (L2H.ps_forH PassesOwn.never ⟨_, hot, List.mem_cons_self ..⟩ (pi_listH (pv 4)) (pg_name (i := 5) sc_reached.nd rfl (Or.inl rfl))
      (pss_cons (ps_asg (pe_op op_fdiv (pv 5) pe_int) (pg_name (i := 6) sc_reached.nd rfl (Or.inl rfl)))
    (pss_one (ps_if (PW.pt (pw_and (pt_val (pe_callHc (hot_is_ref T) (hr.mono (by decide)) ⟨_, hot, List.mem_cons_self ..⟩ (by rfl) T.g_is_ref T.k_is_ref T.b_is_ref (pa_cons (pv 5) pa_nil))) (pw_and (pt_cmpR (op_dnotinM hu) (pv 6) (pv 2) (by rfl)) (pw_and1 (pt_val (pe_methHc (pv 0) T.cl_Store T.me_Store_exists (hot_Store_exists T) (hr.mono (by decide)) ⟨_, hot, List.mem_cons_self ..⟩ T.b_Store_exists (pa_cons (pv 6) pa_nil))))))) (pss_cons (ps_asg pe_bl (pg_sub (pv 2) (pv 6) (set_dictM hu)))
    (pss_one (ps_expr (pe_bmM PySem.F.slot_list_append PySem.F.type_list_append mt_append (pv 3) (pa_cons (pe_op op_cat (pe_lst (pa_cons (pe_methHc (pv 0) T.cl_Store T.me_Store_kind (hot_Store_kind T) (hr.mono (by decide)) ⟨_, hot, List.mem_cons_self ..⟩ T.b_Store_kind (pa_cons (pv 6) pa_nil)) pa_nil)) (pe_methHc (pv 0) T.cl_Store T.me_Store_slots (hot_Store_slots T) (hr.mono (by decide)) ⟨_, hot, List.mem_cons_self ..⟩ T.b_Store_slots (pa_cons (pv 6) pa_nil))) pa_nil))))) pss_nil)))))))
    (pss_one (ps_ret (pv 2)))))), ?_⟩
    obtain ⟨s, p, rm, en, row, F, rs, rfl, S, hp, hrs, k⟩ := h
    have sz : (300000 : Nat) ≤ sizeLine := by decide
    simp! only [rIsL]
    intro d hd
    have sm0 : Same H (upd H d (.dK [])) := same_new hd
    have hd1 : upd H d (.dK []) d = some (.dK []) := upd_same
    generalize upd H d (.dK []) = H1 at sm0 hd1 ⊢
    have hp1 := sm0 _ _ hp
    simp! only [hp1]
    intro t ht
    refine ⟨by omega, fun wl hwl => ?_⟩
    have nt : ∀ (x : Addr), upd (upd H1 t (HO.lst (rs.map V.int))) wl (.lst [.ref t]) x = some (.dK []) → x = d ∨ True := fun _ _ => .inr trivial
    have t1 : upd H1 t (HO.lst (rs.map V.int)) t = some (.lst (rs.map V.int)) := upd_same
    have twl := ne_of_none t1 hwl
    have sm1 := same_trans (same_new (o := HO.lst (rs.map V.int)) ht) (same_new (o := HO.lst [.ref t]) hwl)
    have S0 : Sch H (upd (upd H1 t (HO.lst (rs.map V.int))) wl (.lst [.ref t])) wl d row rs [] [(t, rs)] [] := by
      refine ⟨same_trans sm0 sm1, upd_same, sm1 _ _ hd1, fun x hx => ?_, ?_⟩
      · rw [List.mem_singleton] at hx
        subst hx
        exact ⟨by rw [upd_ne twl]; exact t1, twl, hrs⟩
      · simp [lall]
        exact .start
    have wn : ∀ x, H x ≠ none → x ≠ wl := fun x hx e => by
      subst e
      cases q : H x with
      | none => exact hx q
      | some o =>
        have := same_new (o := HO.lst (rs.map V.int)) ht _ _ (sm0 _ _ q)
        rw [hwl] at this
        cases this
    generalize upd (upd H1 t (HO.lst (rs.map V.int))) wl (.lst [.ref t]) = H2 at S0 ⊢
    have hdn : H d = none := hd
    have hwn : H wl = none := by
      cases q : H wl with
      | none => rfl
      | some o => exact absurd rfl (wn wl (by rw [q]; simp))
    clear sm1 twl t1 nt hd1 hp1 ht hwl sm0
    obtain ⟨dx, w0, dd, f, ws0, kvs, fr, fs, I, RO⟩ := S
    have nl := nums_len (row := row)
    have rl := flat_rows row
    have rz := RO.sz
    have kz : ∀ n o, getO row n = some o → o.sl.length + 3 ≤ 100000 := fun n o ho => by
      obtain ⟨_, _, h, _⟩ := word_at ho
      omega
    refine ⟨fun m σ2 H' => ∃ (found : List Int) (ws : List (Addr × List Int)) (n4 n5 n6 : Option V), σ2 = [some (V.ref s), some (V.ref p), some (V.ref d), some (V.ref wl), n4, n5, n6] ∧ Sch H H' wl d row rs found ws [] ∧ m = (nums row).length - found.length + ws.length ∧ ws.length ≤ found.length + 1, ⟨_, [], [(t, rs)], _, _, _, rfl, S0, rfl, Nat.le_refl _⟩, ?_⟩
    rintro m σ2 H' ⟨found, ws, n4, n5, n6, rfl, C, rfl, wb⟩
    have hw := C.hw
    simp! only [hw]
    refine ⟨_, .inl ⟨_, .inl (.inl hw), rfl⟩, ?_⟩
    rcases List.eq_nil_or_concat ws with hws | ⟨ws', x, hws⟩
    · subst hws
      simp! only [lrefs, List.isEmpty_nil]
      have fn := C.fn
      simp only [lall, List.flatMap_nil, List.append_nil] at fn
      exact k H' d found C.sm hdn C.hd fn.nd fn.done
    · rw [List.concat_eq_append] at hws
      subst hws
      have ne : (lrefs (ws' ++ [x])).isEmpty = false := by
        unfold lrefs
        rw [List.map_append]
        simp
      rw [ne]
      simp! only [hw]
      have last : (lrefs (ws' ++ [x]))[(lrefs (ws' ++ [x])).length - 1]? = some (.ref x.1) := by simp [lrefs]
      have dl : (lrefs (ws' ++ [x])).dropLast = lrefs ws' := by simp [lrefs]
      rw [dl]
      obtain ⟨x1, x2, x3⟩ := C.one x (by simp)
      have few1 := C.fn.few
      rw [List.length_append, List.length_singleton] at wb
      have Cb : Sch H (upd H' wl (.lst (lrefs ws'))) wl d row rs found ws' x.2 := by
        refine ⟨fun b o hb => by rw [upd_ne (ne_of_none hb hwn)]; exact C.sm _ _ hb, upd_same, by rw [upd_ne (ne_ho C.hd C.hw (by simp))]; exact C.hd, fun y hy => ?_, C.fn.perm fun w => ?_⟩
        · obtain ⟨y1, y2, y3⟩ := C.one y (by simp [hy])
          exact ⟨by rw [upd_ne y2]; exact y1, y2, y3⟩
        · simp [lall]
          exact Or.comm
      have hx : upd H' wl (.lst (lrefs ws')) x.1 = some (.lst (x.2.map V.int)) := by rw [upd_ne x2]; exact x1
      generalize upd H' wl (.lst (lrefs ws')) = Hb at Cb hx ⊢
      refine ⟨fun σ' H2 => ∃ (found2 : List Int) (ws2 : List (Addr × List Int)) (n4 n5 n6 : Option V), σ' = [some (V.ref s), some (V.ref p), some (V.ref d), some (V.ref wl), n4, n5, n6] ∧ Sch H H2 wl d row rs found2 ws2 [] ∧ ws2.length + found.length = ws'.length + found2.length, ?_, _, last, ?_⟩
      · rintro σ' H2 ⟨found2, ws2, n4, n5, n6, rfl, C2, hc⟩
        have few2 := C2.fn.few
        exact ⟨_, by rw [List.length_append]; simp; omega, ⟨_, _, _, rfl⟩, found2, ws2, C2, rfl, by omega⟩
      · clear C hw ne last dl x1
        refine for_lst (H0 := Hb) (a := x.1) (x.2.map V.int) (fun R h => ⟨_, rfl, h⟩) (fun i σ' H2 => ∃ (found2 : List Int) (ws2 : List (Addr × List Int)) (n5 n6 : Option V), σ' = [some (V.ref s), some (V.ref p), some (V.ref d), some (V.ref wl), some (V.ref x.1), n5, n6] ∧ Sch H H2 wl d row rs found2 ws2 (x.2.drop i) ∧ H2 x.1 = some (.lst (x.2.map V.int)) ∧ ws2.length + found.length = ws'.length + found2.length) ⟨found, ws', _, _, rfl, Cb, hx, rfl⟩ ?_ ?_ ?_
        · rintro i σ' H2 _ ⟨found2, ws2, n5, n6, rfl, C2, h2, hc⟩
          exact .inl (.inl h2)
        · rintro i v σ' H2 hv ⟨found2, ws2, n5, n6, rfl, C2, h2, hc⟩
          rw [List.getElem?_map] at hv
          obtain ⟨w, hw, rfl⟩ := Option.map_eq_some_iff.mp hv
          have hlt := (List.getElem?_eq_some_iff.mp hw).1
          have dr : x.2.drop i = w :: x.2.drop (i + 1) := by rw [List.drop_eq_getElem_cons hlt, (List.getElem?_eq_some_iff.mp hw).2]
          rw [dr] at C2
          have few2 := C2.fn.few
          have fn2 := C2.fn
          rw [List.cons_append] at fn2
          have I2 := I.same C2.sm
          have skip : (w % 2 = 0 → w / 2 ∈ nums row → w / 2 ∈ found2) → Sch H H2 wl d row rs found2 ws2 (x.2.drop (i + 1)) := fun h => ⟨C2.sm, C2.hw, C2.hd, C2.one, fn2.skip h⟩
          have hd2 := C2.hd
          simp_all! only [I2.ho, hd2, mkD_val]
          refine ⟨⟨by decide, by decide⟩, w, rfl, ?_⟩
          by_cases e1 : w % 2 = 0
          · rw [decide_eq_true e1]
            simp_all! only [I2.ho, hd2, mkD_val]
            refine ite2 (fun e2 => ?_) (fun e2 => ⟨found2, ws2, skip fun _ _ => Classical.not_not.mp e2, h2, hc⟩)
            refine ⟨s, rm, en, row, F, w / 2, rfl, ⟨dx, w0, dd, f, ws0, kvs, fr, fs, I2, RO⟩, ?_⟩
            by_cases e3 : w / 2 ∈ nums row
            · rw [decide_eq_true e3]
              simp_all! only [I2.ho, hd2]
              obtain ⟨o, ho⟩ := getO_of_mem e3
              have hz := kz _ o ho
              refine ⟨by rw [mkD_len]; omega, ?_⟩
              rw [mkD_put e2]
              have dwl : wl ≠ d := ne_ho C2.hw hd2 (by simp)
              have I3 := I2.other (o := HO.dK (mkD (found2 ++ [w / 2]))) (I.part hdn) (I.out hdn)
              have hd3 : upd H2 d (HO.dK (mkD (found2 ++ [w / 2]))) wl = some (.lst (lrefs ws2)) := by rw [upd_ne dwl]; exact C2.hw
              have k3 : ∀ y L, H2 y = some (.lst L) → upd H2 d (HO.dK (mkD (found2 ++ [w / 2]))) y = some (.lst L) := fun y L hy => by rw [upd_ne (ne_ho hy hd2 (by simp))]; exact hy
              have sm3 : Same H (upd H2 d (HO.dK (mkD (found2 ++ [w / 2])))) := fun b u hb => by
                rw [upd_ne (ne_of_none hb hdn)]
                exact C2.sm _ _ hb
              have d3 : upd H2 d (HO.dK (mkD (found2 ++ [w / 2]))) d = some (.dK (mkD (found2 ++ [w / 2]))) := upd_same
              generalize upd H2 d (HO.dK (mkD (found2 ++ [w / 2]))) = Ha at I3 hd3 k3 sm3 d3 ⊢
              simp_all! only [I3.ho, hd3]
              refine ⟨s, rm, en, row, F, w / 2, o, rfl, ⟨dx, w0, dd, f, ws0, kvs, fr, fs, I3, RO⟩, ho, by omega, fun q hq => ?_⟩
              have I4 := I3.same (same_new (o := HO.lst [V.int o.kind]) hq)
              simp_all! only [I4.ho]
              refine ⟨s, rm, en, row, F, w / 2, o, rfl, ⟨dx, w0, dd, f, ws0, kvs, fr, fs, I4, RO⟩, ho, fun u hu => ?_⟩
              have qu := ne_of_none upd_same hu
              refine ⟨u, rfl, _, by rw [upd_ne qu, upd_same], _, upd_same, by rw [List.length_map]; simp; omega, fun p3 h3 => ?_⟩
              have sm4 := same_trans (same_trans (same_new (o := HO.lst [V.int o.kind]) hq) (same_new (o := HO.lst (o.sl.map V.int)) hu)) (same_new (o := HO.lst ([V.int o.kind] ++ o.sl.map V.int)) h3)
              have e5 : [V.int o.kind] ++ o.sl.map V.int = (o.kind :: o.sl).map V.int := rfl
              have p3wl : p3 ≠ wl := Ne.symm (ne_of_none (same_trans (same_new (o := HO.lst [V.int o.kind]) hq) (same_new (o := HO.lst (o.sl.map V.int)) hu) _ _ hd3) h3)
              have g3 : upd (upd (upd Ha q (HO.lst [V.int o.kind])) u (HO.lst (o.sl.map V.int))) p3 (HO.lst ([V.int o.kind] ++ o.sl.map V.int)) p3 = some (.lst ((o.kind :: o.sl).map V.int)) := upd_same
              generalize upd (upd (upd Ha q (HO.lst [V.int o.kind])) u (HO.lst (o.sl.map V.int))) p3 (HO.lst ([V.int o.kind] ++ o.sl.map V.int)) = Hd at sm4 g3 ⊢
              have fn4 := fn2.take e1 e2 ho
              have few4 := fn4.few
              rw [List.length_append, List.length_singleton] at few4
              refine ⟨_, sm4 _ _ hd3, by unfold lrefs; rw [List.length_map]; omega, found2 ++ [w / 2], ws2 ++ [(p3, o.kind :: o.sl)], ⟨fun b v hb => ?_, ?_, ?_, fun y hy => ?_, fn4.perm fun z => ?_⟩, ?_, ?_⟩
              · rw [upd_ne (ne_of_none hb hwn)]
                exact sm4 _ _ (sm3 _ _ hb)
              · rw [upd_same]
                simp [lrefs]
              · rw [upd_ne (Ne.symm dwl)]
                exact sm4 _ _ d3
              · rcases List.mem_append.mp hy with hy | hy
                · obtain ⟨y1, y2, y3⟩ := C2.one y hy
                  exact ⟨by rw [upd_ne y2]; exact sm4 _ _ (k3 _ _ y1), y2, y3⟩
                · rw [List.mem_singleton] at hy
                  subst hy
                  exact ⟨by rw [upd_ne p3wl]; exact g3, p3wl, by simp; omega⟩
              · simp [lall, or_assoc]
              · rw [upd_ne x2]
                exact sm4 _ _ (k3 _ _ h2)
              · rw [List.length_append, List.length_append, List.length_singleton, List.length_singleton]
                omega
            · rw [decide_eq_false e3]
              simp! only [rIsL]
              exact ⟨found2, ws2, skip fun _ h => absurd h e3, h2, hc⟩
          · rw [decide_eq_false e1]
            simp! only [rIsL]
            exact ⟨found2, ws2, skip fun h _ => absurd h e1, h2, hc⟩
        · rintro σ' H2 ⟨found2, ws2, n5, n6, rfl, C2, h2, hc⟩
          rw [List.length_map, List.drop_length] at C2
          exact ⟨found2, ws2, _, _, _, rfl, C2, hc⟩
end

def szO (row : List OB) (n : Int) : Int := match getO row n with
  | some o => 3 + (o.sl.length : Int)
  | none => 0
theorem szO_of {row : List OB} {n : Int} {o : OB} (h : getO row n = some o) : szO row n = 3 + (o.sl.length : Int) := by
  unfold szO
  rw [h]
def total (row : List OB) (ks : List Int) : Int := (ks.map (szO row)).sum
theorem perm_sum {xs ys : List Int} (h : xs.Perm ys) : xs.sum = ys.sum := by
  induction h with
  | nil => rfl
  | cons x _ ih => rw [List.sum_cons, List.sum_cons, ih]
  | swap x y l =>
    rw [List.sum_cons, List.sum_cons, List.sum_cons, List.sum_cons]
    omega
  | trans _ _ h1 h2 => exact h1.trans h2
theorem LcR.allF {f : Nat → V} {n ys} (h : LcR (fun _ => true) (fun i y => y = f i) n ys) : ys = (List.range n).map f := by
  have := h.map
  rw [this]
  congr 1
  exact List.filter_eq_self.mpr fun _ _ => rfl
theorem range_map (xs : List Int) (f : Int → V) : (List.range xs.length).map (fun i => f (xs.getD i 0)) = xs.map f := by
  apply List.ext_getElem
  · simp
  · intro i h1 h2
    simp at h1
    simp [List.getD_eq_getElem?_getD, h1]
theorem mkD_get : ∀ {ks : List Int} {n : Int}, n ∈ ks → valV (mkD ks) (Sum.inl n) = some (.bl true)
  | [], n, h => by cases h
  | k :: ks, n, h => by
    show valV ((Sum.inl k, V.bl true) :: mkD ks) (Sum.inl n) = _
    by_cases e : k = n
    · subst e
      rw [valV_pos rfl]
    · rw [valV_neg (fun z => e (Sum.inl.inj z))]
      rcases List.mem_cons.mp h with c | c
      · exact absurd c.symm e
      · exact mkD_get c

theorem sort_ex (l : List Int) : ∃ zs : List Int, zs.Perm l ∧ zs.Pairwise (· ≤ ·) :=
  ⟨l.mergeSort (fun a b => decide (a ≤ b)), List.mergeSort_perm _ _, by
    have h := List.pairwise_mergeSort (le := fun (a b : Int) => decide (a ≤ b)) (fun a b c h1 h2 => by simp at *; omega) (fun a b => by simp; omega) l
    exact h.imp fun h => of_decide_eq_true h⟩
def keep (row : List OB) (ks : List Int) : List OB := row.filter fun o => o.al && decide (o.num ∈ ks)
theorem drop_filter : ∀ (row : List OB) (n : Int), (dropO row n).filter (·.al) = (row.filter (·.al)).filter fun o => decide (o.num ≠ n)
  | [], _ => rfl
  | o :: r, n => by
    show (dropX n o :: dropO r n).filter (·.al) = _
    rw [List.filter_cons, List.filter_cons, drop_filter r n]
    by_cases a : o.al = true
    · by_cases e : o.num = n
      · rw [dropX_t (hasN_iff.mpr ⟨a, e⟩), if_neg (by simp), if_pos a, List.filter_cons, if_neg (by simp [e])]
      · rw [dropX_f (fun x => e (hasN_iff.mp x).2), if_pos a, if_pos a, List.filter_cons, if_pos (by simp [e])]
    · rw [dropX_f (fun x => a (hasN_iff.mp x).1), if_neg a, if_neg a]
def dropAll (row : List OB) (l : List Int) : List OB := l.foldl dropO row
theorem dropAll_filter : ∀ (l : List Int) (row : List OB), (dropAll row l).filter (·.al) = (row.filter (·.al)).filter fun o => decide (o.num ∉ l)
  | [], row => by
    show row.filter (·.al) = _
    exact (List.filter_eq_self.mpr fun _ _ => by simp).symm
  | n :: l, row => by
    show (dropAll (dropO row n) l).filter (·.al) = _
    rw [dropAll_filter l (dropO row n), drop_filter, List.filter_filter]
    congr 1
    funext o
    by_cases e : o.num = n
    · simp [e]
    · simp [e]
theorem dropAll_keep {row : List OB} {l ks : List Int} (h : ∀ n ∈ nums row, n ∉ l ↔ n ∈ ks) : (dropAll row l).filter (·.al) = keep row ks := by
  rw [dropAll_filter, List.filter_filter]
  unfold keep
  refine List.filter_congr fun o ho => ?_
  by_cases a : o.al = true
  · have := h o.num (mem_nums.mpr ⟨o, ho, hasN_iff.mpr ⟨a, rfl⟩⟩)
    by_cases b : o.num ∈ ks
    · simp [a, b, this.mpr b]
    · have : o.num ∈ l := Classical.byContradiction fun c => b (this.mp c)
      simp [b, this]
  · simp [a]
theorem keep_nums {row : List OB} {ks : List Int} : nums (keep row ks) = (nums row).filter fun n => decide (n ∈ ks) := by
  unfold nums keep
  rw [List.filter_map, List.filter_filter, List.filter_filter]
  congr 1
  refine List.filter_congr fun o _ => ?_
  show (o.al && (o.al && decide (o.num ∈ ks))) = (decide (o.num ∈ ks) && o.al)
  cases o.al <;> simp
theorem keep_get : ∀ (row : List OB) (ks : List Int) (n : Int), getO (keep row ks) n = if n ∈ ks then getO row n else none
  | [], ks, n => by simp [keep, getO]
  | o :: r, ks, n => by
    have ih := keep_get r ks n
    unfold keep at ih ⊢
    rw [List.filter_cons]
    by_cases c : (o.al && decide (o.num ∈ ks)) = true
    · rw [if_pos c, getO_cons, getO_cons, ih]
      rw [Bool.and_eq_true] at c
      have c2 := of_decide_eq_true c.2
      by_cases h : hasN n o = true
      · rw [if_pos h, if_pos h, if_pos ((hasN_iff.mp h).2 ▸ c2)]
      · rw [if_neg h, if_neg h]
    · rw [if_neg c, ih, getO_cons]
      by_cases h : hasN n o = true
      · have h2 := hasN_iff.mp h
        have : n ∉ ks := fun m => c (by rw [h2.1, h2.2, decide_eq_true m]; rfl)
        rw [if_neg this, if_neg this]
      · rw [if_neg h]
theorem keep_all {row : List OB} {ks : List Int} (h1 : ∀ o ∈ row, o.al = true) (h2 : ∀ n ∈ nums row, n ∈ ks) : keep row ks = row := by
  unfold keep
  refine List.filter_eq_self.mpr fun o ho => ?_
  rw [h1 o ho, decide_eq_true (h2 _ (mem_nums.mpr ⟨o, ho, hasN_iff.mpr ⟨h1 o ho, rfl⟩⟩))]
  rfl
theorem keep_al {row : List OB} {ks : List Int} : ∀ o ∈ keep row ks, o.al = true := fun o ho => by
  have := (List.mem_filter.mp ho).2
  rw [Bool.and_eq_true] at this
  exact this.1
theorem Rch.nums {row : List OB} {rs : List Int} {n : Int} (h : Rch row rs n) : n ∈ My.nums row := by
  cases h with
  | root _ _ h => exact h
  | step _ _ _ _ h => exact h
theorem keep_rch {row : List OB} {rs ks : List Int} (h : ∀ n, n ∈ ks ↔ Rch row rs n) (n : Int) : Rch (keep row ks) rs n ↔ Rch row rs n := by
  have mem : ∀ m, m ∈ nums (keep row ks) ↔ m ∈ nums row ∧ m ∈ ks := fun m => by
    rw [keep_nums, List.mem_filter]
    simp
  constructor
  · intro r
    induction r with
    | root hw h1 h2 => exact .root hw h1 ((mem _).mp h2).1
    | step r ho hw h1 h2 ih =>
      rw [keep_get] at ho
      split at ho
      · exact .step ih ho hw h1 ((mem _).mp h2).1
      · cases ho
  · intro r
    induction r with
    | root hw h1 h2 => exact .root hw h1 ((mem _).mpr ⟨h2, (h _).mpr (.root hw h1 h2)⟩)
    | step r ho hw h1 h2 ih =>
      refine .step ih (o := _) ?_ hw h1 ((mem _).mpr ⟨h2, (h _).mpr (.step r ho hw h1 h2)⟩)
      rw [keep_get, if_pos ((h _).mpr r)]
      exact ho

def sp_collect (A : Ad) : Sp := fun vs H Q _ => ∃ (s p : Addr) (rm en : Int) (row : List OB) (F : Hp) (rs : List Int), vs = [.ref s, .ref p] ∧ St A H s rm en row F ∧ F p = some (.lst (rs.map V.int)) ∧ rs.length ≤ 100000 ∧
  ∀ H' (ks : List Int), St A H' s rm en (keep row ks) F → ks.Nodup → (∀ n, n ∈ ks ↔ Rch row rs n) → Q (.int (((nums row).length : Int) - ks.length)) H'
theorem sp_collect_len {A vs H Q E} (h : sp_collect A vs H Q E) : vs.length = (["store", "roots"] : List Str).length := by
  obtain ⟨_, _, _, _, _, _, _, rfl, _⟩ := h
  rfl
section
variable {P : Program} {w : World} {K : PySem.W.Frag} {mg : Str → Option Value} {base : Heap} {A : Ad}
theorem ok_collect (T : Txt K mg A) : FnOk P w K mg base CX0 4 A.f_collect A.d_collect ["store", "roots"] (sp_collect A) := by
  refine Fun.ok T.F_collect sc_collect (fun vs H Q E h => ?_) (fun cdv Ar outer s H vs Q E hr h => ?_)
  · exact sp_collect_len h
  · have hu := hu_of hr
    refine ⟨_, (pss_cons (ps_asg (pe_call (ok_reached T) (hr.mono (by decide)) (by rfl) T.g_reached T.k_reached T.b_reached .nil pass0 (pa_cons (pv 0) (pa_cons (pv 1) pa_nil))) (pg_name (i := 2) sc_collect.nd rfl (Or.inr rfl)))
    (pss_cons (ps_setLc (i := 4) (own := [("number", 3)]) (g := gName 3) rfl sc_collect.nd rfl rfl (sw_true rfl rfl rfl (by decide +kernel)) (pi_list (pe_meth0 (pv 0) T.cl_Store T.me_Store_numbers (ok_Store_numbers T) (hr.mono (by decide)) T.b_Store_numbers .nil pass0)) (blkOk_by (own := [("number", 3)]) (N := ["store", "roots", "kept", "number", "lost"]) (sc := defScope s_collect) (by decide +kernel)) (fun _ _ _ _ _ => pg_name (i := 3) sc_collect.nd rfl (Or.inl rfl)) (fun _ _ _ _ _ => (pts_one (pt_cmpR (op_dnotinM hu) (pv 3) (pv 2) (by rfl)))) (fun _ _ _ _ _ => (pv 3)))
    (pss_cons (ps_for PassesOwn.never rfl (pi_list (pv 4)) (pg_name (i := 3) sc_collect.nd rfl (Or.inl rfl))
      (pss_one (ps_expr (pe_meth (pv 0) T.cl_Store T.me_Store_drop (ok_Store_drop T) (hr.mono (by decide)) T.b_Store_drop .nil pass0 (pa_cons (pv 3) pa_nil)))))
    (pss_cons (ps_expr (pe_meth0 (pv 0) T.cl_Store T.me_Store_close_up (ok_Store_close_up T) (hr.mono (by decide)) T.b_Store_close_up .nil pass0))
    (pss_one (ps_ret (pe_callB call_lenM (by rfl) T.z_len PySem.boot_len (pa_cons (pv 4) pa_nil)))))))), ?_⟩
    obtain ⟨s, p, rm, en, row, F, rs, rfl, S, hp, hrs, k⟩ := h
    simp! only [rIsL]
    refine ⟨s, p, rm, en, row, F, rs, rfl, S, S.get hp, hrs, fun H1 d ks sm hd d1 nd ch => ?_⟩
    have S1 : St A H1 s rm en row (upd F d (.dK (mkD ks))) := S.more sm fun b u hb => by
      by_cases c : b = d
      · subst c
        rw [upd_same] at hb
        exact .inr ⟨hd, by rw [d1]; exact hb⟩
      · rw [upd_ne c] at hb
        exact .inl hb
    have smF : Same F (upd F d (.dK (mkD ks))) := same_new (S.none hd)
    have hfd : upd F d (HO.dK (mkD ks)) d = some (.dK (mkD ks)) := upd_same
    generalize upd F d (HO.dK (mkD ks)) = F1 at S1 smF hfd
    have nl := nums_len (row := row)
    have rl := flat_rows row
    have bounds : (nums row).Nodup ∧ (flat row).length ≤ 100000 := by
      obtain ⟨dx, w, dd, f, ws, kvs, fr, fs, I, R⟩ := S1
      exact ⟨R.nd, R.sz⟩
    obtain ⟨ndr, rz⟩ := bounds
    obtain ⟨dx, w, dd, f, fs, ho⟩ := S1.ho
    obtain ⟨ys, h1, h1o⟩ := sort_ex (nums row)
    have yl := h1.length_eq
    simp! only [rIsL]
    refine lc_lstN (K := K) (ys.map V.int) (fun i => (ys[i]?.map fun n => decide (n ∉ ks)).getD false) (fun i y => y = (ys[i]?.map fun n => V.int n).getD .non) (fun R h => ?_) (by rw [List.length_map]; omega) (fun i x H' R hx sm h => ?_) (fun i x H' R hx _ sm h => ?_) (fun H2 lt vs sm2 hlt hy => ?_)
    · simp_all! only [ho]
      refine ⟨s, rm, en, row, F1, rfl, S1, fun zs q hz1 hz2 hq => ?_⟩
      have e := sorted_eq (hz1.trans h1.symm) hz2 h1o
      subst e
      exact h q _ (same_new hq) (.inl (.inl upd_same))
    · rw [List.getElem?_map] at hx
      obtain ⟨n, hn, e⟩ := Option.map_eq_some_iff.mp hx
      subst e
      rw [hn] at h
      have d2 := (S1.same sm).get hfd
      simp! only [d2, mkD_val]
      have e2 : (!decide (n ∈ ks)) = decide (n ∉ ks) := by by_cases c : n ∈ ks <;> simp [c]
      rw [e2]
      exact h
    · rw [List.getElem?_map] at hx
      obtain ⟨n, hn, e⟩ := Option.map_eq_some_iff.mp hx
      subst e
      simp! only [rIsL]
      exact h _ (by rw [hn]; rfl)
    · have S2 := S1.same sm2
      rw [List.length_map] at hy
      have e := hy.map
      rw [range_pick] at e
      subst e
      have S3 := S2.new (o := HO.lst ((ys.filter fun n => decide (n ∉ ks)).map V.int)) hlt
      have Fl := S2.none hlt
      have sm3 := same_trans smF (same_new (o := HO.lst ((ys.filter fun n => decide (n ∉ ks)).map V.int)) Fl)
      have fl3 : upd F1 lt (HO.lst ((ys.filter fun n => decide (n ∉ ks)).map V.int)) lt = some (.lst ((ys.filter fun n => decide (n ∉ ks)).map V.int)) := upd_same
      generalize upd F1 lt (HO.lst ((ys.filter fun n => decide (n ∉ ks)).map V.int)) = F3 at S3 sm3 fl3
      generalize upd H2 lt (HO.lst ((ys.filter fun n => decide (n ∉ ks)).map V.int)) = H3 at S3 ⊢
      have ll : ∀ n, n ∈ (ys.filter fun n => decide (n ∉ ks)) ↔ n ∈ nums row ∧ n ∉ ks := fun n => by
        rw [List.mem_filter, h1.mem_iff]
        simp
      have lnd : (ys.filter fun n => decide (n ∉ ks)).Nodup := (h1.nodup_iff.mpr ndr).filter _
      have llen : (ys.filter fun n => decide (n ∉ ks)).length + ks.length = (nums row).length := by
        have p : ((ys.filter fun n => decide (n ∉ ks)) ++ ks).Perm (nums row) := by
          refine (List.perm_ext_iff_of_nodup (List.nodup_append.mpr ⟨lnd, nd, fun x hx y hy e => ?_⟩) ndr).mpr fun n => ?_
          · subst e
            exact ((ll x).mp hx).2 hy
          · rw [List.mem_append, ll]
            constructor
            · rintro (h | h)
              · exact h.1
              · exact ((ch n).mp h).nums
            · intro h
              by_cases c : n ∈ ks
              · exact .inr c
              · exact .inl ⟨h, c⟩
        have := p.length_eq
        rw [List.length_append] at this
        exact this
      generalize hL : (ys.filter fun n => decide (n ∉ ks)) = L at fl3 ll lnd llen
      clear S2 S1
      refine for_lst (K := K) (H0 := H3) (a := lt) (L.map V.int) (fun R h => ⟨_, rfl, h⟩) (fun i σ' H' => ∃ n3 : Option V, σ' = [some (.ref s), some (.ref p), some (.ref d), n3, some (.ref lt)] ∧ St A H' s rm en (dropAll row (L.take i)) F3) ⟨_, rfl, S3⟩ ?_ ?_ ?_
      · rintro i σ' H' _ ⟨n3, rfl, S4⟩
        exact .inl (.inl (S4.get fl3))
      · rintro i x σ' H' hx ⟨n3, rfl, S4⟩
        rw [List.getElem?_map] at hx
        obtain ⟨n, hn, rfl⟩ := Option.map_eq_some_iff.mp hx
        obtain ⟨dx, w, dd, f, fs, ho⟩ := S4.ho
        simp_all! only [ho]
        have tk : L.take (i + 1) = L.take i ++ [n] := by rw [List.take_add_one, hn]; rfl
        have stay : ∀ (l : List Int) (row : List OB), n ∈ nums row → n ∉ l → n ∈ nums (dropAll row l) := by
          intro l
          induction l with
          | nil => exact fun _ h _ => h
          | cons m l ih =>
            intro row h1 h2
            refine ih (dropO row m) ?_ (fun z => h2 (List.mem_cons_of_mem _ z))
            rw [nums_drop, List.mem_filter]
            exact ⟨h1, decide_eq_true fun e => h2 (e ▸ List.mem_cons_self ..)⟩
        have nin : n ∉ L.take i := fun z => by
          obtain ⟨j, hj⟩ := List.mem_iff_getElem?.mp z
          have jl := (List.getElem?_eq_some_iff.mp hj).1
          rw [List.length_take] at jl
          rw [List.getElem?_take, if_pos (by omega)] at hj
          have l1 := List.getElem?_eq_some_iff.mp hj
          have l2 := List.getElem?_eq_some_iff.mp hn
          have := (List.getElem_inj lnd).mp (l1.2.trans l2.2.symm)
          omega
        refine ⟨s, rm, en, _, F3, n, rfl, S4, stay _ _ ((ll n).mp (List.mem_of_getElem? hn)).1 nin, fun H5 S5 => ?_⟩
        rw [tk]
        unfold dropAll at S5 ⊢
        rw [List.foldl_append]
        exact S5
      · rintro σ' H' ⟨n3, rfl, S4⟩
        rw [List.length_map, List.take_length] at S4
        obtain ⟨dx, w, dd, f, fs, ho⟩ := S4.ho
        simp_all! only [ho]
        refine ⟨s, rm, en, _, F3, rfl, S4, fun H5 S5 => ?_⟩
        have l5 := S5.get fl3
        rw [dropAll_keep (ks := ks) fun n hn => by rw [ll]; constructor <;> intro h <;> (try simp_all)] at S5
        simp! only [l5, List.length_map]
        rw [show (L.length : Int) = ((nums row).length : Int) - ks.length by omega]
        exact k H5 ks (S5.less sm3) nd ch
theorem hot_collect (T : Txt K mg A) : L2H.FnH P w K mg base CX0 4 A.f_collect A.d_collect ["store", "roots"] (sp_collect A) := by
  refine okH0 T.F_collect sc_collect (fun vs H Q E h => ?_) (fun cdv Ar outer s H vs Q E p hot hr h => ?_)
  · exact sp_collect_len h
  · have hu := hu_ofH hr
    refine ⟨_, (pss_cons (ps_asg (pe_callHc (hot_reached T) (hr.mono (by decide)) ⟨_, hot, List.mem_cons_self ..⟩ (by rfl) T.g_reached T.k_reached T.b_reached (pa_cons (pv 0) (pa_cons (pv 1) pa_nil))) (pg_name (i := 2) sc_collect.nd rfl (Or.inr rfl)))
    (pss_cons (ps_setLcH (i := 4) (own := [("number", 3)]) (g := gName 3) ⟨_, hot, List.mem_cons_self ..⟩ sc_collect.nd rfl rfl (sw_true rfl rfl rfl (by decide +kernel)) (pi_listH (pe_methHc0 (pv 0) T.cl_Store T.me_Store_numbers (hot_Store_numbers T) (hr.mono (by decide)) ⟨_, hot, List.mem_cons_self ..⟩ T.b_Store_numbers)) (blkOk_by (own := [("number", 3)]) (N := ["store", "roots", "kept", "number", "lost"]) (sc := defScope s_collect) (by decide +kernel)) (fun _ _ _ _ _ => pg_name (i := 3) sc_collect.nd rfl (Or.inl rfl)) (fun _ _ _ _ _ => (pts_one (pt_cmpR (op_dnotinM hu) (pv 3) (pv 2) (by rfl)))) (fun _ _ _ _ _ => (pv 3)))
    (pss_cons (L2H.ps_forH PassesOwn.never ⟨_, hot, List.mem_cons_self ..⟩ (pi_listH (pv 4)) (pg_name (i := 3) sc_collect.nd rfl (Or.inl rfl))
      (pss_one (ps_expr (pe_methHc (pv 0) T.cl_Store T.me_Store_drop (hot_Store_drop T) (hr.mono (by decide)) ⟨_, hot, List.mem_cons_self ..⟩ T.b_Store_drop (pa_cons (pv 3) pa_nil)))))
    (pss_cons (ps_expr (pe_methHc0 (pv 0) T.cl_Store T.me_Store_close_up (hot_Store_close_up T) (hr.mono (by decide)) ⟨_, hot, List.mem_cons_self ..⟩ T.b_Store_close_up))
    (pss_one (ps_ret (pe_callB call_lenM (by rfl) T.z_len PySem.boot_len (pa_cons (pv 4) pa_nil)))))))), ?_⟩
    obtain ⟨s, p, rm, en, row, F, rs, rfl, S, hp, hrs, k⟩ := h
    simp! only [rIsL]
    refine ⟨s, p, rm, en, row, F, rs, rfl, S, S.get hp, hrs, fun H1 d ks sm hd d1 nd ch => ?_⟩
    have S1 : St A H1 s rm en row (upd F d (.dK (mkD ks))) := S.more sm fun b u hb => by
      by_cases c : b = d
      · subst c
        rw [upd_same] at hb
        exact .inr ⟨hd, by rw [d1]; exact hb⟩
      · rw [upd_ne c] at hb
        exact .inl hb
    have smF : Same F (upd F d (.dK (mkD ks))) := same_new (S.none hd)
    have hfd : upd F d (HO.dK (mkD ks)) d = some (.dK (mkD ks)) := upd_same
    generalize upd F d (HO.dK (mkD ks)) = F1 at S1 smF hfd
    have nl := nums_len (row := row)
    have rl := flat_rows row
    have bounds : (nums row).Nodup ∧ (flat row).length ≤ 100000 := by
      obtain ⟨dx, w, dd, f, ws, kvs, fr, fs, I, R⟩ := S1
      exact ⟨R.nd, R.sz⟩
    obtain ⟨ndr, rz⟩ := bounds
    obtain ⟨dx, w, dd, f, fs, ho⟩ := S1.ho
    obtain ⟨ys, h1, h1o⟩ := sort_ex (nums row)
    have yl := h1.length_eq
    simp! only [rIsL]
    refine lc_lstN (K := K) (ys.map V.int) (fun i => (ys[i]?.map fun n => decide (n ∉ ks)).getD false) (fun i y => y = (ys[i]?.map fun n => V.int n).getD .non) (fun R h => ?_) (by rw [List.length_map]; omega) (fun i x H' R hx sm h => ?_) (fun i x H' R hx _ sm h => ?_) (fun H2 lt vs sm2 hlt hy => ?_)
    · simp_all! only [ho]
      refine ⟨s, rm, en, row, F1, rfl, S1, fun zs q hz1 hz2 hq => ?_⟩
      have e := sorted_eq (hz1.trans h1.symm) hz2 h1o
      subst e
      exact h q _ (same_new hq) (.inl (.inl upd_same))
    · rw [List.getElem?_map] at hx
      obtain ⟨n, hn, e⟩ := Option.map_eq_some_iff.mp hx
      subst e
      rw [hn] at h
      have d2 := (S1.same sm).get hfd
      simp! only [d2, mkD_val]
      have e2 : (!decide (n ∈ ks)) = decide (n ∉ ks) := by by_cases c : n ∈ ks <;> simp [c]
      rw [e2]
      exact h
    · rw [List.getElem?_map] at hx
      obtain ⟨n, hn, e⟩ := Option.map_eq_some_iff.mp hx
      subst e
      simp! only [rIsL]
      exact h _ (by rw [hn]; rfl)
    · have S2 := S1.same sm2
      rw [List.length_map] at hy
      have e := hy.map
      rw [range_pick] at e
      subst e
      have S3 := S2.new (o := HO.lst ((ys.filter fun n => decide (n ∉ ks)).map V.int)) hlt
      have Fl := S2.none hlt
      have sm3 := same_trans smF (same_new (o := HO.lst ((ys.filter fun n => decide (n ∉ ks)).map V.int)) Fl)
      have fl3 : upd F1 lt (HO.lst ((ys.filter fun n => decide (n ∉ ks)).map V.int)) lt = some (.lst ((ys.filter fun n => decide (n ∉ ks)).map V.int)) := upd_same
      generalize upd F1 lt (HO.lst ((ys.filter fun n => decide (n ∉ ks)).map V.int)) = F3 at S3 sm3 fl3
      generalize upd H2 lt (HO.lst ((ys.filter fun n => decide (n ∉ ks)).map V.int)) = H3 at S3 ⊢
      have ll : ∀ n, n ∈ (ys.filter fun n => decide (n ∉ ks)) ↔ n ∈ nums row ∧ n ∉ ks := fun n => by
        rw [List.mem_filter, h1.mem_iff]
        simp
      have lnd : (ys.filter fun n => decide (n ∉ ks)).Nodup := (h1.nodup_iff.mpr ndr).filter _
      have llen : (ys.filter fun n => decide (n ∉ ks)).length + ks.length = (nums row).length := by
        have p : ((ys.filter fun n => decide (n ∉ ks)) ++ ks).Perm (nums row) := by
          refine (List.perm_ext_iff_of_nodup (List.nodup_append.mpr ⟨lnd, nd, fun x hx y hy e => ?_⟩) ndr).mpr fun n => ?_
          · subst e
            exact ((ll x).mp hx).2 hy
          · rw [List.mem_append, ll]
            constructor
            · rintro (h | h)
              · exact h.1
              · exact ((ch n).mp h).nums
            · intro h
              by_cases c : n ∈ ks
              · exact .inr c
              · exact .inl ⟨h, c⟩
        have := p.length_eq
        rw [List.length_append] at this
        exact this
      generalize hL : (ys.filter fun n => decide (n ∉ ks)) = L at fl3 ll lnd llen
      clear S2 S1
      refine for_lst (K := K) (H0 := H3) (a := lt) (L.map V.int) (fun R h => ⟨_, rfl, h⟩) (fun i σ' H' => ∃ n3 : Option V, σ' = [some (.ref s), some (.ref p), some (.ref d), n3, some (.ref lt)] ∧ St A H' s rm en (dropAll row (L.take i)) F3) ⟨_, rfl, S3⟩ ?_ ?_ ?_
      · rintro i σ' H' _ ⟨n3, rfl, S4⟩
        exact .inl (.inl (S4.get fl3))
      · rintro i x σ' H' hx ⟨n3, rfl, S4⟩
        rw [List.getElem?_map] at hx
        obtain ⟨n, hn, rfl⟩ := Option.map_eq_some_iff.mp hx
        obtain ⟨dx, w, dd, f, fs, ho⟩ := S4.ho
        simp_all! only [ho]
        have tk : L.take (i + 1) = L.take i ++ [n] := by rw [List.take_add_one, hn]; rfl
        have stay : ∀ (l : List Int) (row : List OB), n ∈ nums row → n ∉ l → n ∈ nums (dropAll row l) := by
          intro l
          induction l with
          | nil => exact fun _ h _ => h
          | cons m l ih =>
            intro row h1 h2
            refine ih (dropO row m) ?_ (fun z => h2 (List.mem_cons_of_mem _ z))
            rw [nums_drop, List.mem_filter]
            exact ⟨h1, decide_eq_true fun e => h2 (e ▸ List.mem_cons_self ..)⟩
        have nin : n ∉ L.take i := fun z => by
          obtain ⟨j, hj⟩ := List.mem_iff_getElem?.mp z
          have jl := (List.getElem?_eq_some_iff.mp hj).1
          rw [List.length_take] at jl
          rw [List.getElem?_take, if_pos (by omega)] at hj
          have l1 := List.getElem?_eq_some_iff.mp hj
          have l2 := List.getElem?_eq_some_iff.mp hn
          have := (List.getElem_inj lnd).mp (l1.2.trans l2.2.symm)
          omega
        refine ⟨s, rm, en, _, F3, n, rfl, S4, stay _ _ ((ll n).mp (List.mem_of_getElem? hn)).1 nin, fun H5 S5 => ?_⟩
        rw [tk]
        unfold dropAll at S5 ⊢
        rw [List.foldl_append]
        exact S5
      · rintro σ' H' ⟨n3, rfl, S4⟩
        rw [List.length_map, List.take_length] at S4
        obtain ⟨dx, w, dd, f, fs, ho⟩ := S4.ho
        simp_all! only [ho]
        refine ⟨s, rm, en, _, F3, rfl, S4, fun H5 S5 => ?_⟩
        have l5 := S5.get fl3
        rw [dropAll_keep (ks := ks) fun n hn => by rw [ll]; constructor <;> intro h <;> (try simp_all)] at S5
        simp! only [l5, List.length_map]
        rw [show (L.length : Int) = ((nums row).length : Int) - ks.length by omega]
        exact k H5 ks (S5.less sm3) nd ch
end

theorem store_new {A : Ad} {H : Hp} {rm en : Int} {R : Addr → Hp → Prop} (h0 : 0 ≤ en) (h1 : en ≤ 100000) (h : ∀ s H', St A H' s rm en [] H → R s H') :
    ∀ x dx, H x = none → H dx = none → dx ≠ x → sp_mk A.C_Store [.ref x, .int rm, .int en] (upd (upd H dx (.own x)) x (.ins A.C_Store dx [])) (fun v H2 => v = .non ∧ R x H2) E0 := by
  intro x dx hx hdx ne
  refine ⟨x, dx, rm, en, rfl, upd_same, fun w d f H' hw hd hf wf ha h2 h3 h4 fr => ⟨rfl, h x H' ?_⟩⟩
  have out : ∀ b, upd (upd H dx (.own x)) x (.ins A.C_Store dx []) b = none → b ≠ x ∧ b ≠ dx ∧ H b = none := fun b hb => by
    have n1 : x ≠ b := ne_of_none upd_same hb
    have n2 : dx ≠ b := ne_of_none (by rw [upd_ne ne, upd_same]) hb
    rw [upd_ne (Ne.symm n1), upd_ne (Ne.symm n2)] at hb
    exact ⟨Ne.symm n1, Ne.symm n2, hb⟩
  obtain ⟨_, _, w3⟩ := out w hw
  obtain ⟨_, _, d3⟩ := out d hd
  obtain ⟨_, _, f3⟩ := out f hf
  refine ⟨dx, w, d, f, [], [], [], 0, ⟨ha, h2, h3, h4, wf, fun b o hb => ?_⟩, RowOk.mk0 h0 h1⟩
  have b1 := ne_of_none hb hx
  have b2 := ne_of_none hb w3
  have b3 := ne_of_none hb d3
  have b4 := ne_of_none hb f3
  refine ⟨?_, b1, b2, b3, b4⟩
  rw [fr b b1 b2 b3 b4, upd_ne b1, upd_ne (ne_of_none hb hdx)]
  exact hb

def sp_wordsD (A : Ad) : Sp := fun vs H Q _ => ∃ (s p : Addr) (rm en : Int) (row : List OB) (F : Hp) (ks : List Int), vs = [.ref s, .ref p] ∧ St A H s rm en row F ∧ F p = some (.dK (mkD ks)) ∧ ks.length ≤ 100000 ∧ (∀ n ∈ ks, n ∈ nums row) ∧ ∀ H', Same H H' → Q (.int (total row ks)) H'
theorem sp_wordsD_len {A vs H Q E} (h : sp_wordsD A vs H Q E) : vs.length = (["store", "numbers"] : List Str).length := by
  obtain ⟨_, _, _, _, _, _, _, rfl, _⟩ := h
  rfl
section
variable {P : Program} {w : World} {K : PySem.W.Frag} {mg : Str → Option Value} {base : Heap} {A : Ad}
theorem ok_words_of_D (T : Txt K mg A) : FnOk P w K mg base CX0 2 A.f_words_of A.d_words_of ["store", "numbers"] (sp_wordsD A) := by
  refine Fun.ok T.F_words_of sc_words_of (fun vs H Q E h => ?_) (fun cdv Ar outer s H vs Q E hr h => ?_)
  · exact sp_wordsD_len h
  · have hu := hu_of hr
    refine ⟨_, (pss_one (ps_lock (ps_ret (pe_callB (call_sumM rfl) (by rfl) T.z_sum (by decide +kernel) (pa_cons (pe_lc (own := [("number", 2)]) (g := gName 2) rfl sc_words_of.nd (pi_keys (pv 1)) (blkOk_by (own := [("number", 2)]) (N := ["store", "numbers", "number"]) (sc := defScope s_words_of) (by decide +kernel)) (fun _ _ _ _ _ => pg_name (i := 2) sc_words_of.nd rfl (Or.inl rfl)) (fun _ _ _ _ _ => pts_nil) (fun _ _ _ _ _ => (pe_op op_add (pe_glob (v := .int (3)) (by rfl) T.c_HEADER ⟨_, rfl⟩) (pe_meth (pv 0) T.cl_Store T.me_Store_size (ok_Store_size T) (hr.mono (by decide)) T.b_Store_size .nil pass0 (pa_cons (pv 2) pa_nil))))) pa_nil))))), ?_⟩
    obtain ⟨s, p, rm, en, row, F, ks, rfl, S, hp, hl, hk, k⟩ := h
    have hpH := S.get hp
    refine ⟨p, .dK (mkD ks), hpH, trivial, fun od => ?_⟩
    have S1 := S.set (o := HO.frz od (.dK (mkD ks))) hp
    have hp1 : upd H p (HO.frz od (.dK (mkD ks))) p = some (.frz od (.dK (mkD ks))) := upd_same
    simp! only [rIsL]
    refine lc_keysI (od := od) (mkD ks) (fun _ => true) (fun i y => y = V.int (szO row (ks.getD i 0))) (fun R h => ⟨_, rfl, h⟩) hp1 (by rw [mkD_len]; exact hl) (fun i key v H' R hx sm h => h) (fun i key v H' R hx _ sm h => ?_) (fun D ys hD hy => ?_)
    · have hx2 : (ks.map Sum.inl)[i]? = some key := by rw [← mkD_keys, List.getElem?_map, hx]; rfl
      rw [List.getElem?_map] at hx2
      obtain ⟨n, hn, rfl⟩ := Option.map_eq_some_iff.mp hx2
      obtain ⟨o, ho⟩ := getO_of_mem (hk n (List.mem_of_getElem? hn))
      have S2 := S1.same sm
      obtain ⟨dx, w, d, f, fs, hs⟩ := (show ∃ dx w d f fs, H' s = some (.ins A.C_Store dx (stF rm en w d f fs)) from by
        obtain ⟨dx, w, d, f, ws, kvs, fr, fs, I, R⟩ := S2
        exact ⟨dx, w, d, f, fs, I.ho⟩)
      simp_all! only [hs, kV]
      refine ⟨s, rm, en, row, _, n, o, rfl, S2, ho, ?_⟩
      simp! only [rIsL]
      refine h _ ?_
      rw [List.getD_eq_getElem?_getD, hn, Option.getD_some, szO_of ho]
    · rw [mkD_len] at hy
      have e := hy.allF
      rw [range_map ks (fun n => V.int (szO row n))] at e
      subst e
      have pD := ne_of_none hp1 hD
      simp! only [upd_same]
      refine ⟨ks.map (szO row), by rw [List.map_map]; rfl, by rw [upd_ne pD]; exact hp1, k _ fun b u hb => ?_⟩
      by_cases c : b = p
      · subst c
        rw [upd_same, ← hpH]
        exact hb.symm ▸ rfl
      · have h1 : upd H p (HO.frz od (.dK (mkD ks))) b = some u := by rw [upd_ne c]; exact hb
        rw [upd_ne c, upd_ne (ne_of_none h1 hD)]
        exact h1
end

/-! ### the space on the heap -/
def spF (s : Addr) (al : Bool) (pr : Addr) (na nc : Int) (rt hl mo : Addr) (wk : V) : List (Str × V) := [("store", .ref s), ("always", .bl al), ("pressure", .ref pr), ("allocations", .int na), ("collections", .int nc), ("_roots", .ref rt), ("_held", .ref hl), ("_moments", .ref mo), ("_work", wk)]
theorem spF_store {s al pr na nc rt hl mo wk} : List.lookup ("store" : Str) (spF s al pr na nc rt hl mo wk) = some (V.ref s) := rfl
theorem spF_always {s al pr na nc rt hl mo wk} : List.lookup ("always" : Str) (spF s al pr na nc rt hl mo wk) = some (V.bl al) := rfl
theorem spF_press {s al pr na nc rt hl mo wk} : List.lookup ("pressure" : Str) (spF s al pr na nc rt hl mo wk) = some (V.ref pr) := rfl
theorem spF_alloc {s al pr na nc rt hl mo wk} : List.lookup ("allocations" : Str) (spF s al pr na nc rt hl mo wk) = some (V.int na) := rfl
theorem spF_coll {s al pr na nc rt hl mo wk} : List.lookup ("collections" : Str) (spF s al pr na nc rt hl mo wk) = some (V.int nc) := rfl
theorem spF_roots {s al pr na nc rt hl mo wk} : List.lookup ("_roots" : Str) (spF s al pr na nc rt hl mo wk) = some (V.ref rt) := rfl
theorem spF_held {s al pr na nc rt hl mo wk} : List.lookup ("_held" : Str) (spF s al pr na nc rt hl mo wk) = some (V.ref hl) := rfl
theorem spF_mom {s al pr na nc rt hl mo wk} : List.lookup ("_moments" : Str) (spF s al pr na nc rt hl mo wk) = some (V.ref mo) := rfl
theorem spF_work {s al pr na nc rt hl mo wk} : List.lookup ("_work" : Str) (spF s al pr na nc rt hl mo wk) = some (wk) := rfl
theorem spF_mset {s al pr na nc rt hl mo wk} : List.lookup ("set_root" : Str) (spF s al pr na nc rt hl mo wk) = none := rfl
theorem spF_mhold {s al pr na nc rt hl mo wk} : List.lookup ("hold" : Str) (spF s al pr na nc rt hl mo wk) = none := rfl
theorem spF_mall {s al pr na nc rt hl mo wk} : List.lookup ("all_roots" : Str) (spF s al pr na nc rt hl mo wk) = none := rfl
theorem spF_mcoll {s al pr na nc rt hl mo wk} : List.lookup ("collect" : Str) (spF s al pr na nc rt hl mo wk) = none := rfl
theorem spF_mbes {s al pr na nc rt hl mo wk} : List.lookup ("_collect_beside" : Str) (spF s al pr na nc rt hl mo wk) = none := rfl
theorem spF_mnew {s al pr na nc rt hl mo wk} : List.lookup ("new" : Str) (spF s al pr na nc rt hl mo wk) = none := rfl
theorem spF_mroot {s al pr na nc rt hl mo wk} : List.lookup ("root" : Str) (spF s al pr na nc rt hl mo wk) = none := rfl
theorem spF_mdrop {s al pr na nc rt hl mo wk} : List.lookup ("drop" : Str) (spF s al pr na nc rt hl mo wk) = none := rfl
theorem spF_mheld {s al pr na nc rt hl mo wk} : List.lookup ("held" : Str) (spF s al pr na nc rt hl mo wk) = none := rfl
theorem spF_mlive {s al pr na nc rt hl mo wk} : List.lookup ("live_words" : Str) (spF s al pr na nc rt hl mo wk) = none := rfl
theorem spF_mpress {s al pr na nc rt hl mo wk} : List.lookup ("press" : Str) (spF s al pr na nc rt hl mo wk) = none := rfl
theorem spF_mbegin {s al pr na nc rt hl mo wk} : List.lookup ("begin" : Str) (spF s al pr na nc rt hl mo wk) = none := rfl
theorem spF_mcommit {s al pr na nc rt hl mo wk} : List.lookup ("commit" : Str) (spF s al pr na nc rt hl mo wk) = none := rfl
theorem spF_mabort {s al pr na nc rt hl mo wk} : List.lookup ("abort" : Str) (spF s al pr na nc rt hl mo wk) = none := rfl
theorem spF_len {s al pr na nc rt hl mo wk} : (spF s al pr na nc rt hl mo wk).length = 9 := rfl
theorem spF_pal {s al pr na nc rt hl mo wk} {z : Int} : putF "allocations" (.int z) (spF s al pr na nc rt hl mo wk) = spF s al pr z nc rt hl mo wk := rfl
theorem spF_mdr {s al pr na nc rt hl mo wk} : List.lookup ("_x" : Str) (spF s al pr na nc rt hl mo wk) = none := rfl
theorem spF_pwk {s al pr na nc rt hl mo wk} {z : V} : putF "_work" z (spF s al pr na nc rt hl mo wk) = spF s al pr na nc rt hl mo z := rfl
theorem spF_prt {s al pr na nc rt hl mo wk} {z : Addr} : putF "_roots" (.ref z) (spF s al pr na nc rt hl mo wk) = spF s al pr na nc z hl mo wk := rfl
theorem spF_phl {s al pr na nc rt hl mo wk} {z : Addr} : putF "_held" (.ref z) (spF s al pr na nc rt hl mo wk) = spF s al pr na nc rt z mo wk := rfl
theorem spF_pco {s al pr na nc rt hl mo wk} {z : Int} : putF "collections" (.int z) (spF s al pr na nc rt hl mo wk) = spF s al pr na z rt hl mo wk := rfl
/-- what stands for the space a beside its store s; F: what stands beside both -/
structure SpR (A : Ad) (F1 : Hp) (a dx s pr rt hl mo : Addr) (al : Bool × V) (mom : List Int) (na nc : Int) (roots held : List Int) (F : Hp) : Prop where
  ho : F1 a = some (.ins A.C_Space dx (spF s al.1 pr na nc rt hl mo al.2))
  hr : F1 rt = some (.lst (roots.map V.int))
  hh : F1 hl = some (.lst (held.map V.int))
  hm : ∃ kvs : List (Key × V), F1 mo = some (.dK kvs) ∧ ∀ n : Int, (valV kvs (Sum.inl n)).isSome = decide (n ∈ mom)
  ne : rt ≠ hl
  fr : ∀ p o, F p = some o → F1 p = some o ∧ p ≠ a ∧ p ≠ rt ∧ p ≠ hl ∧ p ≠ mo
structure Sq (A : Ad) (H : Hp) (a : Addr) (rm en : Int) (row : List OB) (al : Bool × V) (mom : List Int) (na nc : Int) (roots held : List Int) (F : Hp) (dx s pr rt hl mo : Addr) (F1 : Hp) : Prop where
  st : St A H s rm en row F1
  sp : SpR A F1 a dx s pr rt hl mo al mom na nc roots held F
/-- .. its parts left out -/
def SQ (A : Ad) (H : Hp) (a : Addr) (rm en : Int) (row : List OB) (al : Bool × V) (mom : List Int) (na nc : Int) (roots held : List Int) (F : Hp) : Prop := ∃ dx s pr rt hl mo F1, Sq A H a rm en row al mom na nc roots held F dx s pr rt hl mo F1
section
variable {A : Ad} {H H' : Hp} {a : Addr} {rm en : Int} {row : List OB} {al : Bool × V} {mom : List Int} {na nc : Int} {roots held : List Int} {F F' : Hp} {dx s pr rt hl mo : Addr} {F1 : Hp}
theorem Sq.ho (Z : Sq A H a rm en row al mom na nc roots held F dx s pr rt hl mo F1) : H a = some (.ins A.C_Space dx (spF s al.1 pr na nc rt hl mo al.2)) := Z.st.get Z.sp.ho
theorem Sq.hr (Z : Sq A H a rm en row al mom na nc roots held F dx s pr rt hl mo F1) : H rt = some (.lst (roots.map V.int)) := Z.st.get Z.sp.hr
theorem Sq.hh (Z : Sq A H a rm en row al mom na nc roots held F dx s pr rt hl mo F1) : H hl = some (.lst (held.map V.int)) := Z.st.get Z.sp.hh
theorem Sq.same (Z : Sq A H a rm en row al mom na nc roots held F dx s pr rt hl mo F1) (e : Same H H') : Sq A H' a rm en row al mom na nc roots held F dx s pr rt hl mo F1 := ⟨Z.st.same e, Z.sp⟩
theorem Sq.get (Z : Sq A H a rm en row al mom na nc roots held F dx s pr rt hl mo F1) {p : Addr} {o : HO} (e : F p = some o) : H p = some o := Z.st.get (Z.sp.fr p o e).1
theorem SQ.same (Z : SQ A H a rm en row al mom na nc roots held F) (e : Same H H') : SQ A H' a rm en row al mom na nc roots held F := by
  obtain ⟨dx, s, pr, rt, hl, mo, F1, Z⟩ := Z
  exact ⟨dx, s, pr, rt, hl, mo, F1, Z.same e⟩
theorem SQ.get (Z : SQ A H a rm en row al mom na nc roots held F) {p : Addr} {o : HO} (e : F p = some o) : H p = some o := by
  obtain ⟨dx, s, pr, rt, hl, mo, F1, Z⟩ := Z
  exact Z.get e
theorem SQ.less (Z : SQ A H a rm en row al mom na nc roots held F) (e : Same F' F) : SQ A H a rm en row al mom na nc roots held F' := by
  obtain ⟨dx, s, pr, rt, hl, mo, F1, S, R⟩ := Z
  exact ⟨dx, s, pr, rt, hl, mo, F1, S, R.ho, R.hr, R.hh, R.hm, R.ne, fun p o h => R.fr p o (e p o h)⟩
theorem SQ.out (Z : SQ A H a rm en row al mom na nc roots held F) {p : Addr} (e : H p = none) : F p = none := by
  cases q : F p with
  | none => rfl
  | some o =>
    rw [Z.get q] at e
    cases e
theorem SQ.nd (Z : SQ A H a rm en row al mom na nc roots held F) : (nums row).Nodup := by
  obtain ⟨dx, s, pr, rt, hl, mo, F1, ⟨_, _, _, _, _, _, _, _, I, R⟩, _⟩ := Z
  exact R.nd
theorem SQ.sz (Z : SQ A H a rm en row al mom na nc roots held F) : (flat row).length ≤ 100000 := by
  obtain ⟨dx, s, pr, rt, hl, mo, F1, ⟨_, _, _, _, _, _, _, _, I, R⟩, _⟩ := Z
  exact R.sz
theorem SpR.up {F1 F1' : Hp} (R : SpR A F1 a dx s pr rt hl mo al mom na nc roots held F) (e : Same F1 F1') (n : ∀ p o, F' p = some o → F p = some o ∨ (F1 p = none ∧ F1' p = some o)) : SpR A F1' a dx s pr rt hl mo al mom na nc roots held F' := by
  obtain ⟨kvs, m1, m2⟩ := R.hm
  refine ⟨e _ _ R.ho, e _ _ R.hr, e _ _ R.hh, ⟨kvs, e _ _ m1, m2⟩, R.ne, fun p o h => ?_⟩
  rcases n p o h with h | ⟨h1, h2⟩
  · obtain ⟨q1, q2⟩ := R.fr p o h
    exact ⟨e _ _ q1, q2⟩
  · exact ⟨h2, Ne.symm (ne_of_none R.ho h1), Ne.symm (ne_of_none R.hr h1), Ne.symm (ne_of_none R.hh h1), Ne.symm (ne_of_none m1 h1)⟩
/-- new objects beside the space, all at once -/
theorem SQ.more (Z : SQ A H a rm en row al mom na nc roots held F) (e : Same H H') (n : ∀ b o, F' b = some o → F b = some o ∨ (H b = none ∧ H' b = some o)) : SQ A H' a rm en row al mom na nc roots held F' := by
  obtain ⟨dx, s, pr, rt, hl, mo, F1, S, R⟩ := Z
  classical
  let F2 : Hp := fun b => if F1 b = none ∧ H b = none ∧ F' b ≠ none then F' b else F1 b
  have e2 : Same F1 F2 := fun b o h => by
    show (if F1 b = none ∧ H b = none ∧ F' b ≠ none then F' b else F1 b) = some o
    rw [if_neg (fun c => by rw [h] at c; cases c.1)]
    exact h
  refine ⟨dx, s, pr, rt, hl, mo, F2, S.more e fun b o h => ?_, R.up e2 fun p o h => ?_⟩
  · have h : (if F1 b = none ∧ H b = none ∧ F' b ≠ none then F' b else F1 b) = some o := h
    split at h
    · rename_i c
      rcases n b o h with q | q
      · rw [(R.fr b o q).1] at c
        cases c.1
      · exact .inr q
    · exact .inl h
  · rcases n p o h with q | q
    · exact .inl q
    · have f1 := S.none q.1
      refine .inr ⟨f1, ?_⟩
      show (if F1 p = none ∧ H p = none ∧ F' p ≠ none then F' p else F1 p) = some o
      rw [if_pos ⟨f1, q.1, by rw [h]; simp⟩]
      exact h
theorem SQ.new (Z : SQ A H a rm en row al mom na nc roots held F) {p : Addr} {o : HO} (e : H p = none) : SQ A (upd H p o) a rm en row al mom na nc roots held (upd F p o) :=
  Z.more (same_new e) fun b u h => by
    by_cases c : b = p
    · subst c
      rw [upd_same] at h
      exact .inr ⟨e, by rw [upd_same]; exact h⟩
    · rw [upd_ne c] at h
      exact .inl h
/-- an object beside the space changes -/
theorem SQ.set (Z : SQ A H a rm en row al mom na nc roots held F) {p : Addr} {o u : HO} (e : F p = some u) : SQ A (upd H p o) a rm en row al mom na nc roots held (upd F p o) := by
  obtain ⟨dx, s, pr, rt, hl, mo, F1, S, R⟩ := Z
  obtain ⟨f1, pa, pr1, ph, pm⟩ := R.fr p u e
  obtain ⟨kvs, m1, m2⟩ := R.hm
  refine ⟨dx, s, pr, rt, hl, mo, _, S.set f1, by rw [upd_ne (Ne.symm pa)]; exact R.ho, by rw [upd_ne (Ne.symm pr1)]; exact R.hr, by rw [upd_ne (Ne.symm ph)]; exact R.hh, ⟨kvs, by rw [upd_ne (Ne.symm pm)]; exact m1, m2⟩, R.ne, fun q v h => ?_⟩
  by_cases c : q = p
  · subst c
    rw [upd_same] at h
    exact ⟨by rw [upd_same]; exact h, pa, pr1, ph, pm⟩
  · rw [upd_ne c] at h ⊢
    exact R.fr q v h
theorem Sq.setroots (Z : Sq A H a rm en row al mom na nc roots held F dx s pr rt hl mo F1) (xs : List Int) : SQ A (upd H rt (.lst (xs.map V.int))) a rm en row al mom na nc xs held F := by
  obtain ⟨S, R⟩ := Z
  obtain ⟨kvs, m1, m2⟩ := R.hm
  have n1 : a ≠ rt := ne_ho R.ho R.hr (by simp)
  have n2 : mo ≠ rt := ne_ho m1 R.hr (by simp)
  exact ⟨dx, s, pr, rt, hl, mo, _, S.set R.hr, by rw [upd_ne n1]; exact R.ho, upd_same, by rw [upd_ne (Ne.symm R.ne)]; exact R.hh, ⟨kvs, by rw [upd_ne n2]; exact m1, m2⟩, R.ne, fun p o h => by
    obtain ⟨h1, h2, h3, h4, h5⟩ := R.fr p o h
    exact ⟨by rw [upd_ne h3]; exact h1, h2, h3, h4, h5⟩⟩
theorem Sq.setheld (Z : Sq A H a rm en row al mom na nc roots held F dx s pr rt hl mo F1) (xs : List Int) : SQ A (upd H hl (.lst (xs.map V.int))) a rm en row al mom na nc roots xs F := by
  obtain ⟨S, R⟩ := Z
  obtain ⟨kvs, m1, m2⟩ := R.hm
  have n1 : a ≠ hl := ne_ho R.ho R.hh (by simp)
  have n2 : mo ≠ hl := ne_ho m1 R.hh (by simp)
  exact ⟨dx, s, pr, rt, hl, mo, _, S.set R.hh, by rw [upd_ne n1]; exact R.ho, by rw [upd_ne R.ne]; exact R.hr, upd_same, ⟨kvs, by rw [upd_ne n2]; exact m1, m2⟩, R.ne, fun p o h => by
    obtain ⟨h1, h2, h3, h4, h5⟩ := R.fr p o h
    exact ⟨by rw [upd_ne h4]; exact h1, h2, h3, h4, h5⟩⟩
theorem Sq.counts (Z : Sq A H a rm en row al mom na nc roots held F dx s pr rt hl mo F1) (na' nc' : Int) : Sq A (upd H a (.ins A.C_Space dx (spF s al.1 pr na' nc' rt hl mo al.2))) a rm en row al mom na' nc' roots held F dx s pr rt hl mo (upd F1 a (.ins A.C_Space dx (spF s al.1 pr na' nc' rt hl mo al.2))) := by
  obtain ⟨S, R⟩ := Z
  obtain ⟨kvs, m1, m2⟩ := R.hm
  have n1 : rt ≠ a := ne_ho R.hr R.ho (by simp)
  have n2 : hl ≠ a := ne_ho R.hh R.ho (by simp)
  have n3 : mo ≠ a := ne_ho m1 R.ho (by simp)
  exact ⟨S.set R.ho, upd_same, by rw [upd_ne n1]; exact R.hr, by rw [upd_ne n2]; exact R.hh, ⟨kvs, by rw [upd_ne n3]; exact m1, m2⟩, R.ne, fun p o h => by
    obtain ⟨h1, h2, h3, h4, h5⟩ := R.fr p o h
    exact ⟨by rw [upd_ne h2]; exact h1, h2, h3, h4, h5⟩⟩
end

/-- a space that is being made at a, behind its store s -/
structure Bld (A : Ad) (H : Hp) (s : Addr) (rm en : Int) (F : Hp) (a dx : Addr) (fs : List (Str × V)) (H0 : Hp) : Prop where
  st : St A H s rm en [] F
  at_ : F a = some (.ins A.C_Space dx fs)
  old : ∀ p o, H0 p = some o → p ≠ a → F p = some o
theorem Bld.ha {A H s rm en F a dx fs H0} (B : Bld A H s rm en F a dx fs H0) : H a = some (.ins A.C_Space dx fs) := B.st.get B.at_
theorem Bld.set {A H s rm en F a dx fs H0} (B : Bld A H s rm en F a dx fs H0) (fs' : List (Str × V)) : Bld A (upd H a (.ins A.C_Space dx fs')) s rm en (upd F a (.ins A.C_Space dx fs')) a dx fs' H0 :=
  ⟨B.st.set B.at_, upd_same, fun p o h n => by rw [upd_ne n]; exact B.old p o h n⟩
theorem Bld.new {A H s rm en F a dx fs H0} (B : Bld A H s rm en F a dx fs H0) {p : Addr} {o : HO} (h : H p = none) : Bld A (upd H p o) s rm en (upd F p o) a dx fs H0 :=
  ⟨B.st.new h, by rw [upd_ne (ne_of_none B.ha h)]; exact B.at_, fun q u e n => by
    have := B.old q u e n
    rw [upd_ne (ne_of_none (B.st.get this) h)]
    exact this⟩
theorem Bld.out {A H s rm en F a dx fs H0} (B : Bld A H s rm en F a dx fs H0) {p : Addr} (h : H p = none) : H0 p = none := by
  cases q : H0 p with
  | none => rfl
  | some o =>
    have n : p ≠ a := Ne.symm (ne_of_none B.ha h)
    rw [B.st.get (B.old p o q n)] at h
    cases h
theorem none_of {H H' : Hp} (s : Same H H') {p : Addr} (h : H' p = none) : H p = none := by
  cases q : H p with
  | none => rfl
  | some o =>
    rw [s _ _ q] at h
    cases h

def sp_mks (A : Ad) : Sp := fun vs H Q _ => ∃ (a dx : Addr) (rm en : Int), vs = [.ref a, .int rm, .int en] ∧ 0 ≤ en ∧ en ≤ 100000 ∧ H a = some (.ins A.C_Space dx []) ∧ ∀ H', (∀ F : Hp, (∀ p o, F p = some o → H p = some o ∧ p ≠ a) → SQ A H' a rm en [] (false, .non) [] 0 0 (List.replicate 16 0) [] F) → Q .non H'
theorem sp_mks_len {A vs H Q E} (h : sp_mks A vs H Q E) : vs.length = (["self", "room", "entries"] : List Str).length := by
  obtain ⟨_, _, _, _, rfl, _⟩ := h
  rfl
section
variable {P : Program} {w : World} {K : PySem.W.Frag} {mg : Str → Option Value} {base : Heap} {A : Ad}
theorem ok_Space___init__ (T : Txt K mg A) : FnOk P w K mg base CX0 3 A.f_Space___init__ A.d_Space___init__ ["self", "room", "entries"] (sp_mks A) := by
  refine Fun.ok T.F_Space___init__ sc_Space___init__ (fun vs H Q E h => ?_) (fun cdv Ar outer s H vs Q E hr h => ?_)
  · exact sp_mks_len h
  · have hu := hu_of hr
    refine ⟨_, (pss_cons (ps_fld (pv 0) (pe_make T.mk_Store (ok_Store___init__ T) (hr.mono (by decide)) (by rfl) T.m_Store T.b_Store___init__ .nil pass0 (pa_cons (pv 1) (pa_cons (pv 2) pa_nil))) rfl)
    (pss_cons (ps_fld (pv 0) pe_bl rfl)
    (pss_cons (ps_fld (pv 0) (pe_lst pa_nil) rfl)
    (pss_cons (ps_fld (pv 0) pe_int rfl)
    (pss_cons (ps_fld (pv 0) pe_int rfl)
    (pss_cons (ps_fld (pv 0) (pe_op op_rep (pe_lst (pa_cons (pe_glob (v := .int (0)) (by rfl) T.c_NIL ⟨_, rfl⟩) pa_nil)) (pe_glob (v := .int (16)) (by rfl) T.c_ROOTS ⟨_, rfl⟩)) rfl)
    (pss_cons (ps_fld (pv 0) (pe_lst pa_nil) rfl)
    (pss_cons (ps_fld (pv 0) pe_dnewK rfl)
    (pss_one (ps_fld (pv 0) pe_non rfl)))))))))), ?_⟩
    obtain ⟨a, dx, rm, en, rfl, e0, e1, ha, k⟩ := h
    dsimp! only [ha]
    refine store_new e0 e1 fun s H2 S0 => ?_
    have B0 : Bld A H2 s rm en H a dx [] H := ⟨S0, ha, fun p o h _ => h⟩
    refine ⟨_, _, _, B0.ha, T.cl_Space, T.no_Space_store, by show 0 < 1000; omega, T.cl_Space, T.no_Space_always, by show 1 < 1000; omega, by decide, fun pr hpr => ?_⟩
    have B1 := B0.set (putF (Str.ofString "always") (V.bl false) (putF (Str.ofString "store") (V.ref s) []))
    have B2 := B1.new (o := .lst []) hpr
    generalize upd (upd H2 a (HO.ins A.C_Space dx (putF (Str.ofString "always") (V.bl false) (putF (Str.ofString "store") (V.ref s) [])))) pr (HO.lst []) = H3 at B2 ⊢
    clear B1 B0 hpr
    refine ⟨_, _, _, B2.ha, T.cl_Space, T.no_Space_pressure, by show 2 < 1000; omega, T.cl_Space, T.no_Space_allocations, by show 3 < 1000; omega, T.cl_Space, T.no_Space_collections, by show 4 < 1000; omega, by decide, fun z hz => ⟨by decide, by decide, by decide, fun rt hrt => ?_⟩⟩
    have B3 := (B2.set (putF (Str.ofString "collections") (V.int 0) (putF (Str.ofString "allocations") (V.int 0) (putF (Str.ofString "pressure") (V.ref pr) (putF (Str.ofString "always") (V.bl false) (putF (Str.ofString "store") (V.ref s) [])))))).new (o := .lst [V.int 0]) hz
    generalize upd (upd H3 a (HO.ins A.C_Space dx (putF (Str.ofString "collections") (V.int 0) (putF (Str.ofString "allocations") (V.int 0) (putF (Str.ofString "pressure") (V.ref pr) (putF (Str.ofString "always") (V.bl false) (putF (Str.ofString "store") (V.ref s) []))))))) z (HO.lst [V.int 0]) = H4 at B3 hrt ⊢
    have ort := B3.out hrt
    have B4 := B3.new (o := .lst ((List.replicate 16 (0 : Int)).map V.int)) hrt
    rw [show (List.replicate (Int.toNat 16) [V.int 0]).flatten = (List.replicate 16 (0 : Int)).map V.int from rep0 16]
    have g4 : ∀ G : Hp, upd G rt (HO.lst ((List.replicate 16 (0 : Int)).map V.int)) rt = some (.lst ((List.replicate 16 (0 : Int)).map V.int)) := fun _ => upd_same
    obtain ⟨F4, B4, f4⟩ : ∃ F4, Bld A (upd H4 rt (HO.lst ((List.replicate 16 (0 : Int)).map V.int))) s rm en F4 a dx (putF (Str.ofString "collections") (V.int 0) (putF (Str.ofString "allocations") (V.int 0) (putF (Str.ofString "pressure") (V.ref pr) (putF (Str.ofString "always") (V.bl false) (putF (Str.ofString "store") (V.ref s) []))))) H ∧ F4 rt = some (.lst ((List.replicate 16 (0 : Int)).map V.int)) := ⟨_, B4, g4 _⟩
    generalize upd H4 rt (HO.lst ((List.replicate 16 (0 : Int)).map V.int)) = H5 at B4 ⊢
    have art := ne_ho B4.at_ f4 (by simp)
    refine ⟨_, _, _, B4.ha, T.cl_Space, T.no_Space__roots, by show 5 < 1000; omega, by decide, fun hl hhl => ?_⟩
    have B5 := B4.set (putF (Str.ofString "_roots") (V.ref rt) (putF (Str.ofString "collections") (V.int 0) (putF (Str.ofString "allocations") (V.int 0) (putF (Str.ofString "pressure") (V.ref pr) (putF (Str.ofString "always") (V.bl false) (putF (Str.ofString "store") (V.ref s) []))))))
    have ohl := B5.out hhl
    have f5 : upd F4 a (HO.ins A.C_Space dx (putF (Str.ofString "_roots") (V.ref rt) (putF (Str.ofString "collections") (V.int 0) (putF (Str.ofString "allocations") (V.int 0) (putF (Str.ofString "pressure") (V.ref pr) (putF (Str.ofString "always") (V.bl false) (putF (Str.ofString "store") (V.ref s) []))))))) rt = some (.lst ((List.replicate 16 (0 : Int)).map V.int)) := by rw [upd_ne (Ne.symm art)]; exact f4
    have nhl := ne_of_none (B5.st.get f5) hhl
    obtain ⟨F6, B6, f6, h6⟩ : ∃ F6, Bld A (upd (upd H5 a (HO.ins A.C_Space dx (putF (Str.ofString "_roots") (V.ref rt) (putF (Str.ofString "collections") (V.int 0) (putF (Str.ofString "allocations") (V.int 0) (putF (Str.ofString "pressure") (V.ref pr) (putF (Str.ofString "always") (V.bl false) (putF (Str.ofString "store") (V.ref s) [])))))))) hl (HO.lst [])) s rm en F6 a dx (putF (Str.ofString "_roots") (V.ref rt) (putF (Str.ofString "collections") (V.int 0) (putF (Str.ofString "allocations") (V.int 0) (putF (Str.ofString "pressure") (V.ref pr) (putF (Str.ofString "always") (V.bl false) (putF (Str.ofString "store") (V.ref s) [])))))) H ∧ F6 rt = some (.lst ((List.replicate 16 (0 : Int)).map V.int)) ∧ F6 hl = some (.lst []) := ⟨_, B5.new hhl, by rw [upd_ne nhl]; exact f5, upd_same⟩
    generalize upd (upd H5 a (HO.ins A.C_Space dx (putF (Str.ofString "_roots") (V.ref rt) (putF (Str.ofString "collections") (V.int 0) (putF (Str.ofString "allocations") (V.int 0) (putF (Str.ofString "pressure") (V.ref pr) (putF (Str.ofString "always") (V.bl false) (putF (Str.ofString "store") (V.ref s) [])))))))) hl (HO.lst []) = H6 at B6 ⊢
    have ahl := ne_ho B6.at_ h6 (by simp)
    refine ⟨_, _, _, B6.ha, T.cl_Space, T.no_Space__held, by show 6 < 1000; omega, ?_⟩
    obtain ⟨F7, B7, f7, h7⟩ : ∃ F7, Bld A (upd H6 a (HO.ins A.C_Space dx (putF (Str.ofString "_held") (V.ref hl) (putF (Str.ofString "_roots") (V.ref rt) (putF (Str.ofString "collections") (V.int 0) (putF (Str.ofString "allocations") (V.int 0) (putF (Str.ofString "pressure") (V.ref pr) (putF (Str.ofString "always") (V.bl false) (putF (Str.ofString "store") (V.ref s) []))))))))) s rm en F7 a dx (putF (Str.ofString "_held") (V.ref hl) (putF (Str.ofString "_roots") (V.ref rt) (putF (Str.ofString "collections") (V.int 0) (putF (Str.ofString "allocations") (V.int 0) (putF (Str.ofString "pressure") (V.ref pr) (putF (Str.ofString "always") (V.bl false) (putF (Str.ofString "store") (V.ref s) []))))))) H ∧ F7 rt = some (.lst ((List.replicate 16 (0 : Int)).map V.int)) ∧ F7 hl = some (.lst []) := ⟨_, B6.set _, by rw [upd_ne (Ne.symm art)]; exact f6, by rw [upd_ne (Ne.symm ahl)]; exact h6⟩
    generalize upd H6 a (HO.ins A.C_Space dx (putF (Str.ofString "_held") (V.ref hl) (putF (Str.ofString "_roots") (V.ref rt) (putF (Str.ofString "collections") (V.int 0) (putF (Str.ofString "allocations") (V.int 0) (putF (Str.ofString "pressure") (V.ref pr) (putF (Str.ofString "always") (V.bl false) (putF (Str.ofString "store") (V.ref s) [])))))))) = H7 at B7 ⊢
    intro mo hmo
    have omo := B7.out hmo
    have nm1 := ne_of_none (B7.st.get f7) hmo
    have nm2 := ne_of_none (B7.st.get h7) hmo
    obtain ⟨F8, B8, f8, h8, m8⟩ : ∃ F8, Bld A (upd H7 mo (HO.dK [])) s rm en F8 a dx (putF (Str.ofString "_held") (V.ref hl) (putF (Str.ofString "_roots") (V.ref rt) (putF (Str.ofString "collections") (V.int 0) (putF (Str.ofString "allocations") (V.int 0) (putF (Str.ofString "pressure") (V.ref pr) (putF (Str.ofString "always") (V.bl false) (putF (Str.ofString "store") (V.ref s) []))))))) H ∧ F8 rt = some (.lst ((List.replicate 16 (0 : Int)).map V.int)) ∧ F8 hl = some (.lst []) ∧ F8 mo = some (.dK []) := ⟨_, B7.new hmo, by rw [upd_ne nm1]; exact f7, by rw [upd_ne nm2]; exact h7, upd_same⟩
    generalize upd H7 mo (HO.dK []) = H8 at B8 ⊢
    have amo := ne_ho B8.at_ m8 (by simp)
    refine ⟨_, _, _, B8.ha, T.cl_Space, T.no_Space__moments, by show 7 < 1000; omega, T.cl_Space, T.no_Space__work, by show 8 < 1000; omega, ?_⟩
    have B9 := B8.set (putF (Str.ofString "_work") (V.non) (putF (Str.ofString "_moments") (V.ref mo) (putF (Str.ofString "_held") (V.ref hl) (putF (Str.ofString "_roots") (V.ref rt) (putF (Str.ofString "collections") (V.int 0) (putF (Str.ofString "allocations") (V.int 0) (putF (Str.ofString "pressure") (V.ref pr) (putF (Str.ofString "always") (V.bl false) (putF (Str.ofString "store") (V.ref s) [])))))))))
    refine k _ fun F hF => ⟨dx, s, pr, rt, hl, mo, _, B9.st, upd_same, by rw [upd_ne (Ne.symm art)]; exact f8, by rw [upd_ne (Ne.symm ahl)]; exact h8, ⟨[], by rw [upd_ne (Ne.symm amo)]; exact m8, fun n => rfl⟩, nhl, fun p o e => ?_⟩
    obtain ⟨e2, pa⟩ := hF p o e
    exact ⟨B9.old p o e2 pa, pa, ne_of_none e2 ort, ne_of_none e2 ohl, ne_of_none e2 omo⟩
end

def sp_setroot (A : Ad) : Sp := fun vs H Q _ => ∃ (a : Addr) (rm en : Int) (row : List OB) (al : Bool × V) (mom : List Int) (na nc : Int) (roots held : List Int) (F : Hp) (j : Nat) (w : Int), vs = [.ref a, .int (j : Int), .int w] ∧ SQ A H a rm en row al mom na nc roots held F ∧ j < roots.length ∧ ∀ H', SQ A H' a rm en row al mom na nc (roots.set j w) held F → Q .non H'
theorem sp_setroot_len {A vs H Q E} (h : sp_setroot A vs H Q E) : vs.length = (["self", "k", "word"] : List Str).length := by
  obtain ⟨_, _, _, _, _, _, _, _, _, _, _, _, _, rfl, _⟩ := h
  rfl
section
variable {P : Program} {w : World} {K : PySem.W.Frag} {mg : Str → Option Value} {base : Heap} {A : Ad}
theorem ok_Space_set_root (T : Txt K mg A) : FnOk P w K mg base CX0 1 A.f_Space_set_root A.d_Space_set_root ["self", "k", "word"] (sp_setroot A) := by
  refine Fun.ok T.F_Space_set_root sc_Space_set_root (fun vs H Q E h => ?_) (fun cdv Ar outer s H vs Q E hr h => ?_)
  · exact sp_setroot_len h
  · have hu := hu_of hr
    refine ⟨_, (pss_one (ps_asg (pv 2) (pg_sub (pe_fld (pv 0) rfl) (pv 1) set_lstM))), ?_⟩
    obtain ⟨a, rm, en, row, al, mom, na, nc, roots, held, F, j, w, rfl, ⟨dx, s, pr, rt, hl, mo, F1, Z⟩, hj, k⟩ := h
    have ho := Z.ho
    have hr := Z.hr
    have st : setI (roots.map V.int) (j : Int) (.int w) = some ((roots.set j w).map V.int) := by
      rw [setI_nat (by rw [List.length_map]; exact hj), List.map_set]
    dsimp! only [ho, hr, st]
    exact k _ (Z.setroots _)
end

def sp_hold (A : Ad) : Sp := fun vs H Q _ => ∃ (a : Addr) (rm en : Int) (row : List OB) (al : Bool × V) (mom : List Int) (na nc : Int) (roots held : List Int) (F : Hp) (w : Int), vs = [.ref a, .int w] ∧ SQ A H a rm en row al mom na nc roots held F ∧ held.length ≤ 10000 ∧ ∀ H', SQ A H' a rm en row al mom na nc roots (held ++ [w]) F → Q (.int w) H'
theorem sp_hold_len {A vs H Q E} (h : sp_hold A vs H Q E) : vs.length = (["self", "word"] : List Str).length := by
  obtain ⟨_, _, _, _, _, _, _, _, _, _, _, _, rfl, _⟩ := h
  rfl
section
variable {P : Program} {w : World} {K : PySem.W.Frag} {mg : Str → Option Value} {base : Heap} {A : Ad}
theorem ok_Space_hold (T : Txt K mg A) : FnOk P w K mg base CX0 1 A.f_Space_hold A.d_Space_hold ["self", "word"] (sp_hold A) := by
  refine Fun.ok T.F_Space_hold sc_Space_hold (fun vs H Q E h => ?_) (fun cdv Ar outer s H vs Q E hr h => ?_)
  · exact sp_hold_len h
  · have hu := hu_of hr
    refine ⟨_, (pss_cons (ps_expr (pe_bmM PySem.F.slot_list_append PySem.F.type_list_append mt_append (pe_fld (pv 0) rfl) (pa_cons (pv 1) pa_nil)))
    (pss_one (ps_ret (pv 1)))), ?_⟩
    obtain ⟨a, rm, en, row, al, mom, na, nc, roots, held, F, w, rfl, ⟨dx, s, pr, rt, hl, mo, F1, Z⟩, hj, k⟩ := h
    have sz : (300000 : Nat) ≤ sizeLine := by decide
    have ho := Z.ho
    have hh := Z.hh
    dsimp! only [ho, hh, List.length_map]
    refine ⟨by omega, ?_⟩
    have Z2 := Z.setheld (held ++ [w])
    rw [List.map_append] at Z2
    exact k _ Z2
end

def sp_allroots (A : Ad) : Sp := fun vs H Q _ => ∃ (a : Addr) (rm en : Int) (row : List OB) (al : Bool × V) (mom : List Int) (na nc : Int) (roots held : List Int) (F : Hp), vs = [.ref a] ∧ SQ A H a rm en row al mom na nc roots held F ∧ roots.length + held.length ≤ 20000 ∧ ∀ H' p, Same H H' → H p = none → H' p = some (.lst ((0 :: (roots ++ held)).map V.int)) → Q (.ref p) H'
theorem sp_allroots_len {A vs H Q E} (h : sp_allroots A vs H Q E) : vs.length = (["self"] : List Str).length := by
  obtain ⟨_, _, _, _, _, _, _, _, _, _, _, rfl, _⟩ := h
  rfl
section
variable {P : Program} {w : World} {K : PySem.W.Frag} {mg : Str → Option Value} {base : Heap} {A : Ad}
theorem ok_Space_all_roots (T : Txt K mg A) : FnOk P w K mg base CX0 1 A.f_Space_all_roots A.d_Space_all_roots ["self"] (sp_allroots A) := by
  refine Fun.ok T.F_Space_all_roots sc_Space_all_roots (fun vs H Q E h => ?_) (fun cdv Ar outer s H vs Q E hr h => ?_)
  · exact sp_allroots_len h
  · have hu := hu_of hr
    refine ⟨_, (pss_one (ps_ret (pe_op op_cat (pe_op op_cat (pe_lst (pa_cons (pe_glob (v := .int (0)) (by rfl) T.c_NIL ⟨_, rfl⟩) pa_nil)) (pe_fld (pv 0) rfl)) (pe_fld (pv 0) rfl)))), ?_⟩
    obtain ⟨a, rm, en, row, al, mom, na, nc, roots, held, F, rfl, ⟨dx, s, pr, rt, hl, mo, F1, Z⟩, hl2, k⟩ := h
    have sz : (300000 : Nat) ≤ sizeLine := by decide
    have ho := Z.ho
    have hr := Z.hr
    have hh := Z.hh
    dsimp! only [ho, hr, hh, List.length_map]
    refine ⟨by decide, fun p hp => ?_⟩
    have Z2 := Z.same (same_new (o := HO.lst [V.int 0]) hp)
    refine ⟨_, _, _, Z2.ho, T.cl_Space, T.no_Space__roots, _, spF_roots, rt, rfl, _, Z2.hr, by rw [List.length_map]; omega, fun p1 hp1 => ?_⟩
    have Z3 := Z2.same (same_new (o := HO.lst (V.int 0 :: roots.map V.int)) hp1)
    refine ⟨_, _, _, Z3.ho, T.cl_Space, T.no_Space__held, _, spF_held, hl, rfl, _, Z3.hh, by rw [List.length_map, List.length_map]; omega, fun p2 hp2 => ?_⟩
    have sm := same_trans (same_new (o := HO.lst [V.int 0]) hp) (same_new (o := HO.lst (V.int 0 :: roots.map V.int)) hp1)
    refine k _ p2 (same_trans sm (same_new hp2)) (none_of sm hp2) ?_
    rw [upd_same, List.map_cons, List.map_append]
theorem hot_Space_all_roots (T : Txt K mg A) : L2H.FnH P w K mg base CX0 1 A.f_Space_all_roots A.d_Space_all_roots ["self"] (sp_allroots A) := by
  refine okH0 T.F_Space_all_roots sc_Space_all_roots (fun vs H Q E h => ?_) (fun cdv Ar outer s H vs Q E p hot hr h => ?_)
  · exact sp_allroots_len h
  · have hu := hu_ofH hr
    refine ⟨_, (pss_one (ps_ret (pe_op op_cat (pe_op op_cat (pe_lst (pa_cons (pe_glob (v := .int (0)) (by rfl) T.c_NIL ⟨_, rfl⟩) pa_nil)) (pe_fld (pv 0) rfl)) (pe_fld (pv 0) rfl)))), ?_⟩
    obtain ⟨a, rm, en, row, al, mom, na, nc, roots, held, F, rfl, ⟨dx, s, pr, rt, hl, mo, F1, Z⟩, hl2, k⟩ := h
    have sz : (300000 : Nat) ≤ sizeLine := by decide
    have ho := Z.ho
    have hr := Z.hr
    have hh := Z.hh
    dsimp! only [ho, hr, hh, List.length_map]
    refine ⟨by decide, fun p hp => ?_⟩
    have Z2 := Z.same (same_new (o := HO.lst [V.int 0]) hp)
    refine ⟨_, _, _, Z2.ho, T.cl_Space, T.no_Space__roots, _, spF_roots, rt, rfl, _, Z2.hr, by rw [List.length_map]; omega, fun p1 hp1 => ?_⟩
    have Z3 := Z2.same (same_new (o := HO.lst (V.int 0 :: roots.map V.int)) hp1)
    refine ⟨_, _, _, Z3.ho, T.cl_Space, T.no_Space__held, _, spF_held, hl, rfl, _, Z3.hh, by rw [List.length_map, List.length_map]; omega, fun p2 hp2 => ?_⟩
    have sm := same_trans (same_new (o := HO.lst [V.int 0]) hp) (same_new (o := HO.lst (V.int 0 :: roots.map V.int)) hp1)
    refine k _ p2 (same_trans sm (same_new hp2)) (none_of sm hp2) ?_
    rw [upd_same, List.map_cons, List.map_append]
end

def sp_beside (A : Ad) : Sp := fun vs H Q _ => ∃ (a q : Addr) (rm en : Int) (row : List OB) (al : Bool × V) (mom : List Int) (na nc : Int) (roots held : List Int) (F : Hp) (ws : List Int), vs = [.ref a, .ref q] ∧ SQ A H a rm en row al mom na nc roots held F ∧ F q = some (.lst (ws.map V.int)) ∧ roots.length + held.length + ws.length ≤ 20000 ∧
  ∀ H' ks, SQ A H' a rm en (keep row ks) al mom na (nc + 1) roots held F → ks.Nodup → (∀ n, n ∈ ks ↔ Rch row (0 :: (roots ++ held ++ ws)) n) → Q (.int (((nums row).length : Int) - ks.length)) H'
theorem sp_beside_len {A vs H Q E} (h : sp_beside A vs H Q E) : vs.length = (["self", "words"] : List Str).length := by
  obtain ⟨_, _, _, _, _, _, _, _, _, _, _, _, _, rfl, _⟩ := h
  rfl
section
variable {P : Program} {w : World} {K : PySem.W.Frag} {mg : Str → Option Value} {base : Heap} {A : Ad}
theorem ok_Space__collect_beside (T : Txt K mg A) : FnOk P w K mg base CX0 5 A.f_Space__collect_beside A.d_Space__collect_beside ["self", "words"] (sp_beside A) := by
  refine Fun.ok T.F_Space__collect_beside sc_Space__collect_beside (fun vs H Q E h => ?_) (fun cdv Ar outer s H vs Q E hr h => ?_)
  · exact sp_beside_len h
  · have hu := hu_of hr
    refine ⟨_, (pss_cons (ps_fld (pv 0) (pe_op op_add (pe_fld (pv 0) rfl) pe_int) rfl)
    (pss_one (ps_ret (pe_call (ok_collect T) (hr.mono (by decide)) (by rfl) T.al_collect_collecting T.k_collect T.b_collect .nil pass0 (pa_cons (pe_fld (pv 0) rfl) (pa_cons (pe_op op_cat (pe_meth0 (pv 0) T.cl_Space T.me_Space_all_roots (ok_Space_all_roots T) (hr.mono (by decide)) T.b_Space_all_roots .nil pass0) (pv 1)) pa_nil)))))), ?_⟩
    obtain ⟨a, q, rm, en, row, al, mom, na, nc, roots, held, F, ws, rfl, ⟨dx, s, pr, rt, hl, mo, F1, Z⟩, hq, hl2, k⟩ := h
    have sz : (300000 : Nat) ≤ sizeLine := by decide
    have ho := Z.ho
    dsimp! only [ho]
    refine ⟨by decide, ?_⟩
    have Z2 := Z.counts na (nc + 1)
    generalize upd H a (HO.ins A.C_Space dx (spF s al.1 pr na (nc + 1) rt hl mo al.2)) = H2 at Z2 ⊢
    refine ⟨a, rm, en, row, al, mom, na, nc + 1, roots, held, F, rfl, ⟨dx, s, pr, rt, hl, mo, _, Z2⟩, by omega, fun H3 p sm hp gp => ?_⟩
    have Z3 := Z2.same sm
    have hq3 := Z3.get hq
    simp! only [gp, hq3, List.length_map]
    refine ⟨by rw [List.length_append]; omega, fun pc hpc => ?_⟩
    have e : V.int 0 :: (List.map V.int (roots ++ held) ++ List.map V.int ws) = (0 :: (roots ++ held ++ ws)).map V.int := by simp
    rw [e]
    have S4 := Z3.st.new (o := HO.lst ((0 :: (roots ++ held ++ ws)).map V.int)) hpc
    exact ⟨s, pc, rm, en, row, _, 0 :: (roots ++ held ++ ws), rfl, S4, upd_same, by simp; omega, fun H5 ks S5 nd ch => k H5 ks ⟨dx, s, pr, rt, hl, mo, _, S5.less (same_new (Z3.st.none hpc)), Z3.sp⟩ nd ch⟩
theorem hot_Space__collect_beside (T : Txt K mg A) : L2H.FnH P w K mg base CX0 5 A.f_Space__collect_beside A.d_Space__collect_beside ["self", "words"] (sp_beside A) := by
  refine okH0 T.F_Space__collect_beside sc_Space__collect_beside (fun vs H Q E h => ?_) (fun cdv Ar outer s H vs Q E p hot hr h => ?_)
  · exact sp_beside_len h
  · have hu := hu_ofH hr
    refine ⟨_, (pss_cons (ps_fld (pv 0) (pe_op op_add (pe_fld (pv 0) rfl) pe_int) rfl)
    (pss_one (ps_ret (pe_callHc (hot_collect T) (hr.mono (by decide)) ⟨_, hot, List.mem_cons_self ..⟩ (by rfl) T.al_collect_collecting T.k_collect T.b_collect (pa_cons (pe_fld (pv 0) rfl) (pa_cons (pe_op op_cat (pe_methHc0 (pv 0) T.cl_Space T.me_Space_all_roots (hot_Space_all_roots T) (hr.mono (by decide)) ⟨_, hot, List.mem_cons_self ..⟩ T.b_Space_all_roots) (pv 1)) pa_nil)))))), ?_⟩
    obtain ⟨a, q, rm, en, row, al, mom, na, nc, roots, held, F, ws, rfl, ⟨dx, s, pr, rt, hl, mo, F1, Z⟩, hq, hl2, k⟩ := h
    have sz : (300000 : Nat) ≤ sizeLine := by decide
    have ho := Z.ho
    dsimp! only [ho]
    refine ⟨by decide, ?_⟩
    have Z2 := Z.counts na (nc + 1)
    generalize upd H a (HO.ins A.C_Space dx (spF s al.1 pr na (nc + 1) rt hl mo al.2)) = H2 at Z2 ⊢
    refine ⟨a, rm, en, row, al, mom, na, nc + 1, roots, held, F, rfl, ⟨dx, s, pr, rt, hl, mo, _, Z2⟩, by omega, fun H3 p sm hp gp => ?_⟩
    have Z3 := Z2.same sm
    have hq3 := Z3.get hq
    simp! only [gp, hq3, List.length_map]
    refine ⟨by rw [List.length_append]; omega, fun pc hpc => ?_⟩
    have e : V.int 0 :: (List.map V.int (roots ++ held) ++ List.map V.int ws) = (0 :: (roots ++ held ++ ws)).map V.int := by simp
    rw [e]
    have S4 := Z3.st.new (o := HO.lst ((0 :: (roots ++ held ++ ws)).map V.int)) hpc
    exact ⟨s, pc, rm, en, row, _, 0 :: (roots ++ held ++ ws), rfl, S4, upd_same, by simp; omega, fun H5 ks S5 nd ch => k H5 ks ⟨dx, s, pr, rt, hl, mo, _, S5.less (same_new (Z3.st.none hpc)), Z3.sp⟩ nd ch⟩
end

/-- what the roots, the held words and one word more reach -/
def Live (row : List OB) (ws : List Int) (ks : List Int) : Prop := ks.Nodup ∧ ∀ n, n ∈ ks ↔ Rch row (0 :: ws) n
theorem Live.again {row : List OB} {ws ks ks2 : List Int} (h : Live row ws ks) (h2 : Live (keep row ks) ws ks2) : Live row ws ks2 ∧ keep (keep row ks) ks2 = keep row ks2 := by
  have e : ∀ n, n ∈ ks2 ↔ n ∈ ks := fun n => by rw [h2.2, keep_rch h.2, h.2]
  refine ⟨⟨h2.1, fun n => by rw [e, h.2]⟩, ?_⟩
  unfold keep
  rw [List.filter_filter]
  refine List.filter_congr fun o _ => ?_
  by_cases c : o.num ∈ ks2
  · have := (e _).mp c
    simp [c, this]
  · have : o.num ∉ ks := fun z => c ((e _).mpr z)
    simp [c, this]
/-- the row and the count of collections where new tries first -/
def Tries (row : List OB) (ws : List Int) (forced : Prop) (nc : Int) (row1 : List OB) (nc1 : Int) : Prop := (¬ forced ∧ row1 = row ∧ nc1 = nc) ∨ (forced ∧ nc1 = nc + 1 ∧ ∃ ks, Live row ws ks ∧ row1 = keep row ks)
def NoFit (row : List OB) (rm en : Int) (m : Nat) : Prop := rm < ((flat row).length : Int) + (3 + (m : Int)) ∨ (((flat row).length : Int) + (3 + (m : Int)) ≤ rm ∧ ∀ n, IsFree row n → en ≤ n)
theorem keep_flat_le (row : List OB) (ks : List Int) : (flat (keep row ks)).length ≤ (flat row).length := by
  unfold keep
  induction row with
  | nil => exact Nat.le_refl _
  | cons o r ih =>
    rw [List.filter_cons]
    split
    · rw [flat, flat, List.length_append, List.length_append]
      omega
    · rw [flat, List.length_append]
      omega

def sp_newF0 (A : Ad) : Sp := fun vs H Q E => ∃ (a : Addr) (rm en : Int) (row : List OB) (al : Bool × V) (mom : List Int) (na nc : Int) (roots held : List Int) (F : Hp) (kd : Int) (m : Nat), vs = [.ref a, .int kd, .int (m : Int)] ∧ al.2 = .non ∧ SQ A H a rm en row al mom na nc roots held F ∧ (flat row).length + (3 + m) ≤ 100000 ∧ roots.length + held.length ≤ 10000 ∧
  ∀ row1 nc1, Tries row (roots ++ held ++ [kd]) (al.1 = true ∨ na + 1 ∈ mom) nc row1 nc1 →
    (((flat row1).length : Int) + (3 + (m : Int)) ≤ rm → ∀ n, IsFree row1 n → n < en → ∀ H', SQ A H' a rm en (row1 ++ [⟨n, kd, List.replicate m 0, true⟩]) al mom (na + 1) nc1 roots held F → Q (.int n) H') ∧
    (NoFit row1 rm en m → ∀ ks, Live row (roots ++ held ++ [kd]) ks →
      (rm < ((flat (keep row ks)).length : Int) + (3 + (m : Int)) → ∀ H' dd, H' dd = none → SQ A H' a rm en (keep row ks) al mom (na + 1) (nc1 + 1) roots held F → E (.ref A.C_NoRoom) (some dd) (upd H' dd (.xd [("need", .int (3 + (m : Int)))]))) ∧
      (((flat (keep row ks)).length : Int) + (3 + (m : Int)) ≤ rm → ∀ n, IsFree (keep row ks) n →
        (en ≤ n → ∀ H' dd, H' dd = none → SQ A H' a rm en (keep row ks) al mom (na + 1) (nc1 + 1) roots held F → E (.ref A.C_NoNumber) (some dd) (upd H' dd (.xd [("limit", .int en)]))) ∧
        (n < en → ∀ H', SQ A H' a rm en (keep row ks ++ [⟨n, kd, List.replicate m 0, true⟩]) al mom (na + 1) (nc1 + 1) roots held F → Q (.int n) H')))
/-- .. while a piece of work is open -/
def sp_newF1 (A : Ad) : Sp := fun vs H Q E => ∃ (a : Addr) (rm en : Int) (row : List OB) (al : Bool × V) (mom : List Int) (na nc : Int) (roots held : List Int) (F : Hp) (kd : Int) (m : Nat), vs = [.ref a, .int kd, .int (m : Int)] ∧ (∃ tk, al.2 = .ref tk) ∧ SQ A H a rm en row al mom na nc roots held F ∧ (flat row).length + (3 + m) ≤ 100000 ∧
  (rm < ((flat row).length : Int) + (3 + (m : Int)) → ∀ H' dd, H' dd = none → SQ A H' a rm en row al mom (na + 1) nc roots held F → E (.ref A.C_NoRoom) (some dd) (upd H' dd (.xd [("need", .int (3 + (m : Int)))]))) ∧
  (((flat row).length : Int) + (3 + (m : Int)) ≤ rm → ∀ n, IsFree row n →
    (en ≤ n → ∀ H' dd, H' dd = none → SQ A H' a rm en row al mom (na + 1) nc roots held F → E (.ref A.C_NoNumber) (some dd) (upd H' dd (.xd [("limit", .int en)]))) ∧
    (n < en → ∀ H', SQ A H' a rm en (row ++ [⟨n, kd, List.replicate m 0, true⟩]) al mom (na + 1) nc roots held F → Q (.int n) H'))
def sp_newF (A : Ad) : Sp := fun vs H Q E => sp_newF0 A vs H Q E ∨ sp_newF1 A vs H Q E
theorem sp_newF_len {A vs H Q E} (h : sp_newF A vs H Q E) : vs.length = (["self", "kind", "size"] : List Str).length := by
  rcases h with ⟨_, _, _, _, _, _, _, _, _, _, _, _, _, rfl, _⟩ | ⟨_, _, _, _, _, _, _, _, _, _, _, _, _, rfl, _⟩ <;> rfl
section
variable {P : Program} {w : World} {K : PySem.W.Frag} {mg : Str → Option Value} {base : Heap} {A : Ad}
theorem ok_Space_new (T : Txt K mg A) : FnOk P w K mg base (L2N.CX P w) 6 A.f_Space_new A.d_Space_new ["self", "kind", "size"] (sp_newF A) := by
  refine okN T.F_Space_new sc_Space_new (fun vs H Q E h => ?_) (fun cdv Ar outer s H vs Q E hr h => ?_)
  · exact sp_newF_len h
  · have hu := hu_of hr
    refine ⟨_, (pss_cons (ps_fld (pv 0) (pe_op op_add (pe_fld (pv 0) rfl) pe_int) rfl)
    (Evl.pss_cut (ps_if (pt_cmpR op_isN (pe_fld (pv 0) rfl) pe_non (nomark _)) (Evl.pss_cut (ps_if (PW.pt (pw_or (pt_val (pe_fld (pv 0) rfl)) (pw_or1 (pt_cmpR (op_dinM hu) (pe_fld (pv 0) rfl) (pe_fld (pv 0) rfl) (by rfl))))) (pss_one (ps_expr (pe_meth (pv 0) T.cl_Space T.me_Space__collect_beside (ok_Space__collect_beside T) (hr.mono (by decide)) T.b_Space__collect_beside .nil pass0 (pa_cons (pe_lst (pa_cons (pv 1) pa_nil)) pa_nil)))) pss_nil)
    (pss_one (ps_try_pair rfl rfl ⟨rfl, by decide, Or.inl T.m_NoRoom⟩ ⟨rfl, by decide, Or.inl T.m_NoNumber⟩ takesN (fun W pn xe tk _ => (pss_one (ps_ret (pe_methE (pe_fldK (K' := K) rfl (pv 0) rfl) T.cl_Store T.me_Store_allocate (ok_Store_allocate T) (hr.mono (by decide)) T.b_Store_allocate (fun σ => L2N.passAt tk σ) (pa_cons (pv 1) (pa_cons (pv 2) pa_nil))))))
      (fun a oe cls d pn hz hf => (pss_one (ps_expr (pe_methHc (pv 0) T.cl_Space T.me_Space__collect_beside (hot_Space__collect_beside T) (roomH_suite (hr.mono (by decide))) (hotC_suite hz hf) T.b_Space__collect_beside (pa_cons (pe_lst (pa_cons (pv 1) pa_nil)) pa_nil)))))))) pss_nil)
    (pss_one (ps_ret (pe_methE (pe_fld (pv 0) rfl) T.cl_Store T.me_Store_allocate (ok_Store_allocate T) (hr.mono (by decide)) T.b_Store_allocate (fun σ => L2N.passAt (L2N.takes_of rfl rfl rfl rfl) σ) (pa_cons (pv 1) (pa_cons (pv 2) pa_nil))))))), ?_⟩
    rcases h with h | h
    · obtain ⟨a, rm, en, row, al, mom, na, nc, roots, held, F, kd, m, rfl, hwk, ⟨dx, s, pr, rt, hl, mo, F1, Z⟩, z1, z2, k⟩ := h
      have ho := Z.ho
      rw [hwk] at ho
      dsimp! only [ho]
      refine ⟨by decide, ?_⟩
      have Z2 := Z.counts (na + 1) nc
      rw [hwk] at Z2
      generalize upd H a (HO.ins A.C_Space dx (spF s al.1 pr (na + 1) nc rt hl mo V.non)) = H2 at Z2 ⊢
      have ho2 := Z2.ho
      rw [hwk] at ho2
      obtain ⟨kvs, m1, m2⟩ := Z2.sp.hm
      have hm2 := Z2.st.get m1
      have sq2 : SQ A H2 a rm en row al mom (na + 1) nc roots held F := ⟨dx, s, pr, rt, hl, mo, _, Z2⟩
      have two : ∀ row1 nc1 ks, Tries row (roots ++ held ++ [kd]) (al.1 = true ∨ na + 1 ∈ mom) nc row1 nc1 → Live row1 (roots ++ held ++ [kd]) ks → Live row (roots ++ held ++ [kd]) ks ∧ keep row1 ks = keep row ks := fun row1 nc1 ks h l => by
        rcases h with ⟨_, e, _⟩ | ⟨_, _, ks0, l0, e⟩
        · subst e
          exact ⟨l, rfl⟩
        · subst e
          exact l0.again l
      have sz1 : ∀ row1 nc1, Tries row (roots ++ held ++ [kd]) (al.1 = true ∨ na + 1 ∈ mom) nc row1 nc1 → (flat row1).length + (3 + m) ≤ 100000 := fun row1 nc1 h => by
        rcases h with ⟨_, e, _⟩ | ⟨_, _, ks0, l0, e⟩
        · rw [e]
          exact z1
        · have := keep_flat_le row ks0
          rw [e]
          omega
      refine ⟨fun σ3 H3 => σ3 = [some (V.ref a), some (V.int kd), some (V.int m)] ∧ ∃ row1 nc1 ks, Tries row (roots ++ held ++ [kd]) (al.1 = true ∨ na + 1 ∈ mom) nc row1 nc1 ∧ NoFit row1 rm en m ∧ Live row (roots ++ held ++ [kd]) ks ∧ SQ A H3 a rm en (keep row ks) al mom (na + 1) (nc1 + 1) roots held F, ?_, ?_⟩
      · dsimp! only [ho2]
        refine ⟨fun σ2 H3 => σ2 = [some (V.ref a), some (V.int kd), some (V.int m)] ∧ ∃ row1 nc1, Tries row (roots ++ held ++ [kd]) (al.1 = true ∨ na + 1 ∈ mom) nc row1 nc1 ∧ SQ A H3 a rm en row1 al mom (na + 1) nc1 roots held F, ?_, ?_⟩
        · dsimp! only [ho2, hm2, m2]
          have forced : (al.1 = true ∨ na + 1 ∈ mom) → ∀ p, H2 p = none → sp_beside A [V.ref a, V.ref p] (upd H2 p (HO.lst [V.int kd])) (fun x H1 => ∃ row1 nc1, Tries row (roots ++ held ++ [kd]) (al.1 = true ∨ na + 1 ∈ mom) nc row1 nc1 ∧ SQ A H1 a rm en row1 al mom (na + 1) nc1 roots held F) E0 := fun c p hp =>
            ⟨a, p, rm, en, row, al, mom, na + 1, nc, roots, held, _, [kd], rfl, sq2.new hp, upd_same, by simp; omega, fun H' ks Z' nd ch => ⟨keep row ks, nc + 1, .inr ⟨c, rfl, ks, ⟨nd, ch⟩, rfl⟩, Z'.less (same_new (sq2.out hp))⟩⟩
          exact ite2 (fun c => ⟨by decide, forced (.inl c)⟩) (fun c => ite2 (fun c2 => ⟨by decide, forced (.inr c2)⟩) (fun c2 => ⟨row, nc, .inl ⟨fun h => h.elim c c2, rfl, rfl⟩, sq2⟩))
        · rintro σ2 H3 ⟨rfl, row1, nc1, hT, Z3⟩
          have Z30 := Z3
          obtain ⟨dx3, s3, pr3, rt3, hl3, mo3, F3, Z3⟩ := Z3
          have ho3 := Z3.ho
          rw [hwk] at ho3
          obtain ⟨_, _, _, _, _, hs3⟩ := Z3.st.ho
          dsimp! only [ho3, hs3, T.cl_Store, T.no_Store_room, T.no_Store_entries, T.no_Store_words, T.no_Store__places, T.no_Store__free, T.no_Store__fresh, stF_room, stF_entries, stF_words, stF_places, stF_free, stF_fresh, stF_mused, stF_mexists, stF_mnumbers, stF_mfree, stF_malloc, stF_msize, stF_mkind, stF_mskind, stF_mget, stF_mput, stF_mslots, stF_mdrop, stF_mclose, stF_msnap, stF_mrest, stF_mexch, stF_len, stF_pf, stF_pd, stF_pl]
          have redo : ∀ H4, SQ A H4 a rm en row1 al mom (na + 1) nc1 roots held F → NoFit row1 rm en m → ∀ p, H4 p = none → sp_beside A [V.ref a, V.ref p] (upd H4 p (HO.lst [V.int kd])) (fun x H1 => ∃ row1 nc1, Tries row (roots ++ held ++ [kd]) (al.1 = true ∨ na + 1 ∈ mom) nc row1 nc1 ∧ NoFit row1 rm en m ∧ ∃ x, Live row (roots ++ held ++ [kd]) x ∧ SQ A H1 a rm en (keep row x) al mom (na + 1) (nc1 + 1) roots held F) E0 := fun H4 Z4 hN p hp =>
            ⟨a, p, rm, en, row1, al, mom, na + 1, nc1, roots, held, _, [kd], rfl, Z4.new hp, upd_same, by simp; omega, fun H' ks Z' nd ch => by
              obtain ⟨L, e⟩ := two row1 nc1 ks hT ⟨nd, ch⟩
              refine ⟨row1, nc1, hT, hN, ks, L, ?_⟩
              rw [← e]
              exact Z'.less (same_new (Z4.out hp))⟩
          refine ⟨s3, rm, en, row1, _, kd, m, rfl, Z3.st, sz1 _ _ hT, fun c dd hdd => ?_, fun c n hn => ⟨fun c2 dd hdd => ?_, fun c2 H4 S4 => (k row1 nc1 hT).1 c n hn c2 H4 ⟨dx3, s3, pr3, rt3, hl3, mo3, _, S4, Z3.sp⟩⟩⟩
          · show wPair K _ _ _ _ _ (.ref A.C_NoRoom) (some dd) _ _
            unfold wPair
            refine ⟨true, false, T.ex_NoRoom_NoRoom, T.ex_NoRoom_NoNumber, fun _ x hx => ?_, fun z => absurd z (by decide)⟩
            have Z4 := Z30.same (same_new (o := HO.xd [("need", V.int (3 + (m : Int)))]) hdd)
            generalize upd H3 dd (HO.xd [("need", V.int (3 + (m : Int)))]) = H4 at Z4 ⊢
            obtain ⟨dx4, s4, pr4, rt4, hl4, mo4, F4, Z5⟩ := id Z4
            have ho4 := Z5.ho
            rw [hwk] at ho4
            dsimp! only [ho4]
            exact ⟨by decide, redo H4 Z4 (.inl c)⟩
          · show wPair K _ _ _ _ _ (.ref A.C_NoNumber) (some dd) _ _
            unfold wPair
            refine ⟨false, true, T.ex_NoNumber_NoRoom, T.ex_NoNumber_NoNumber, fun _ x hx => ?_, fun z => absurd z (by decide)⟩
            have Z4 := Z30.same (same_new (o := HO.xd [("limit", V.int en)]) hdd)
            generalize upd H3 dd (HO.xd [("limit", V.int en)]) = H4 at Z4 ⊢
            obtain ⟨dx4, s4, pr4, rt4, hl4, mo4, F4, Z5⟩ := id Z4
            have ho4 := Z5.ho
            rw [hwk] at ho4
            dsimp! only [ho4]
            exact ⟨by decide, redo H4 Z4 (.inr ⟨c, fun n' hn' => by rw [hn'.uniq hn]; exact c2⟩)⟩
      · rintro σ3 H3 ⟨rfl, row1, nc1, ks, hT, hN, hL, Z3⟩
        have Z30 := Z3
        obtain ⟨dx3, s3, pr3, rt3, hl3, mo3, F3, Z3⟩ := Z3
        have ho3 := Z3.ho
        rw [hwk] at ho3
        obtain ⟨_, _, _, _, _, hs3⟩ := Z3.st.ho
        dsimp! only [ho3, hs3, T.cl_Store, T.no_Store_room, T.no_Store_entries, T.no_Store_words, T.no_Store__places, T.no_Store__free, T.no_Store__fresh, stF_room, stF_entries, stF_words, stF_places, stF_free, stF_fresh, stF_mused, stF_mexists, stF_mnumbers, stF_mfree, stF_malloc, stF_msize, stF_mkind, stF_mskind, stF_mget, stF_mput, stF_mslots, stF_mdrop, stF_mclose, stF_msnap, stF_mrest, stF_mexch, stF_len, stF_pf, stF_pd, stF_pl]
        have kz := keep_flat_le row ks
        refine ⟨s3, rm, en, keep row ks, _, kd, m, rfl, Z3.st, by omega, fun c dd hdd => ((k row1 nc1 hT).2 hN ks hL).1 c H3 dd hdd Z30, fun c n hn => ⟨fun c2 dd hdd => (((k row1 nc1 hT).2 hN ks hL).2 c n hn).1 c2 H3 dd hdd Z30, fun c2 H4 S4 => (((k row1 nc1 hT).2 hN ks hL).2 c n hn).2 c2 H4 ⟨dx3, s3, pr3, rt3, hl3, mo3, _, S4, Z3.sp⟩⟩⟩
    · obtain ⟨a, rm, en, row, al, mom, na, nc, roots, held, F, kd, m, rfl, ⟨tk, hwk⟩, ⟨dx, s, pr, rt, hl, mo, F1, Z⟩, z1, k1, k2⟩ := h
      have ho := Z.ho
      rw [hwk] at ho
      dsimp! only [ho]
      refine ⟨by decide, ?_⟩
      have Z2 := Z.counts (na + 1) nc
      rw [hwk] at Z2
      generalize upd H a (HO.ins A.C_Space dx (spF s al.1 pr (na + 1) nc rt hl mo (V.ref tk))) = H2 at Z2 ⊢
      have ho2 := Z2.ho
      rw [hwk] at ho2
      obtain ⟨_, _, _, _, _, hs2⟩ := Z2.st.ho
      refine ⟨fun σ3 H3 => σ3 = [some (V.ref a), some (V.int kd), some (V.int m)] ∧ H3 = H2, ?_, ?_⟩
      · dsimp! only [ho2]
      · rintro σ3 H3 ⟨rfl, rfl⟩
        dsimp! only [ho2, hs2, T.cl_Store, T.no_Store_room, T.no_Store_entries, T.no_Store_words, T.no_Store__places, T.no_Store__free, T.no_Store__fresh, stF_room, stF_entries, stF_words, stF_places, stF_free, stF_fresh, stF_mused, stF_mexists, stF_mnumbers, stF_mfree, stF_malloc, stF_msize, stF_mkind, stF_mskind, stF_mget, stF_mput, stF_mslots, stF_mdrop, stF_mclose, stF_msnap, stF_mrest, stF_mexch, stF_len, stF_pf, stF_pd, stF_pl]
        exact ⟨s, rm, en, row, _, kd, m, rfl, Z2.st, z1, fun c dd hdd => k1 c H3 dd hdd ⟨dx, s, pr, rt, hl, mo, _, Z2⟩, fun c n hn => ⟨fun c2 dd hdd => (k2 c n hn).1 c2 H3 dd hdd ⟨dx, s, pr, rt, hl, mo, _, Z2⟩, fun c2 H4 S4 => (k2 c n hn).2 c2 H4 ⟨dx, s, pr, rt, hl, mo, _, S4, Z2.sp⟩⟩⟩
end

section
variable {A : Ad} {H H' : Hp} {a : Addr} {rm en : Int} {row : List OB} {al : Bool × V} {mom : List Int} {na nc : Int} {roots held : List Int} {F F' : Hp} {dx s pr rt hl mo : Addr} {F1 : Hp}
theorem Sq.setwork (Z : Sq A H a rm en row al mom na nc roots held F dx s pr rt hl mo F1) (wk : V) : SQ A (upd H a (.ins A.C_Space dx (spF s al.1 pr na nc rt hl mo wk))) a rm en row (al.1, wk) mom na nc roots held F := by
  obtain ⟨S, R⟩ := Z
  obtain ⟨kvs, m1, m2⟩ := R.hm
  have n1 : rt ≠ a := ne_ho R.hr R.ho (by simp)
  have n2 : hl ≠ a := ne_ho R.hh R.ho (by simp)
  have n3 : mo ≠ a := ne_ho m1 R.ho (by simp)
  exact ⟨dx, s, pr, rt, hl, mo, _, S.set R.ho, upd_same, by rw [upd_ne n1]; exact R.hr, by rw [upd_ne n2]; exact R.hh, ⟨kvs, by rw [upd_ne n3]; exact m1, m2⟩, R.ne, fun p o h => by
    obtain ⟨h1, h2, h3, h4, h5⟩ := R.fr p o h
    exact ⟨by rw [upd_ne h2]; exact h1, h2, h3, h4, h5⟩⟩
theorem uni_cases {D F : Hp} {b : Addr} {o : HO} (h : uni D F b = some o) : D b = some o ∨ (D b = none ∧ F b = some o) := by
  unfold uni at h
  split at h
  · rename_i o' q
    exact .inl (q.trans h)
  · rename_i q
    exact .inr ⟨q, h⟩
theorem uni_none {D F : Hp} {b : Addr} (h : uni D F b = none) : D b = none ∧ F b = none := by
  unfold uni at h
  split at h
  · cases h
  · rename_i q
    exact ⟨q, h⟩
theorem uni_right {D F : Hp} {b : Addr} (h : D b = none) : uni D F b = F b := by
  unfold uni
  rw [h]
def Wk (W : Hp) (tk : Addr) (en : Int) (row : List OB) (roots held : List Int) : Prop := ∃ sn rt hl, W tk = some (.tup [.ref sn, .ref rt, .ref hl]) ∧ W rt = some (.lst (roots.map V.int)) ∧ W hl = some (.lst (held.map V.int)) ∧ rt ≠ hl ∧ Sn W sn en row
theorem Sq.hwork (Z : Sq A H a rm en row al mom na nc roots held F dx s pr rt hl mo F1) : H a = some (.ins A.C_Space dx (spF s al.1 pr na nc rt hl mo al.2)) := Z.ho
end

def sp_collW (A : Ad) : Sp := fun vs H Q E => ∃ (a : Addr) (rm en : Int) (row : List OB) (al : Bool × V) (mom : List Int) (na nc : Int) (roots held : List Int) (F : Hp), vs = [.ref a] ∧ SQ A H a rm en row al mom na nc roots held F ∧ roots.length + held.length ≤ 10000 ∧
  ((al.2 = .non ∧ ∀ H' ks, SQ A H' a rm en (keep row ks) al mom na (nc + 1) roots held F → ks.Nodup → (∀ n, n ∈ ks ↔ Rch row (0 :: (roots ++ held)) n) → Q (.int (((nums row).length : Int) - ks.length)) H') ∨
   (∃ tk, al.2 = .ref tk ∧ ∀ dd, H dd = none → E (.ref A.C_Wrong) (some dd) (upd H dd (.xd [("why", .str "open")]))))
theorem sp_collW_len {A vs H Q E} (h : sp_collW A vs H Q E) : vs.length = (["self"] : List Str).length := by
  obtain ⟨_, _, _, _, _, _, _, _, _, _, _, rfl, _⟩ := h
  rfl
section
variable {P : Program} {w : World} {K : PySem.W.Frag} {mg : Str → Option Value} {base : Heap} {A : Ad}
theorem ok_Space_collect (T : Txt K mg A) : FnOk P w K mg base (L2N.CX P w) 6 A.f_Space_collect A.d_Space_collect ["self"] (sp_collW A) := by
  refine okN T.F_Space_collect sc_Space_collect (fun vs H Q E h => ?_) (fun cdv Ar outer s H vs Q E hr h => ?_)
  · exact sp_collW_len h
  · have hu := hu_of hr
    refine ⟨_, (pss_cons (ps_if (pt_cmpR op_notN (pe_fld (pv 0) rfl) pe_non (nomark _)) (pss_one (ps_rz1 rfl T.x_Wrong (ok_Wrong___init__ T) (hr.mono (by decide)) T.b_Wrong___init__ (L2N.takes_of rfl rfl rfl rfl) (by rfl) T.m_Wrong (pa_cons pe_str pa_nil))) pss_nil)
    (pss_one (ps_ret (pe_meth (pv 0) T.cl_Space T.me_Space__collect_beside (ok_Space__collect_beside T) (hr.mono (by decide)) T.b_Space__collect_beside .nil pass0 (pa_cons (pe_lst pa_nil) pa_nil))))), ?_⟩
    obtain ⟨a, rm, en, row, al, mom, na, nc, roots, held, F, rfl, Z, hl2, k⟩ := h
    have Z0 := Z
    obtain ⟨dx, s, pr, rt, hl, mo, F1, Z⟩ := Z
    have ho := Z.ho
    rcases k with ⟨hn, k⟩ | ⟨tk, hn, k⟩
    · rw [hn] at ho
      dsimp! only [ho]
      refine ⟨by decide, fun p hp => ?_⟩
      have ZN := Z0.new (o := HO.lst []) hp
      exact ⟨a, p, rm, en, row, al, mom, na, nc, roots, held, _, [], rfl, ZN, upd_same, by simp; omega, fun H' ks Z' nd ch => k H' ks (Z'.less (same_new (Z0.out hp))) nd (by rw [List.append_nil] at ch; exact ch)⟩
    · rw [hn] at ho
      dsimp! only [ho]
      exact k
end

def sp_begin (A : Ad) : Sp := fun vs H Q E => ∃ (a : Addr) (rm en : Int) (row : List OB) (al : Bool × V) (mom : List Int) (na nc : Int) (roots held : List Int) (F : Hp), vs = [.ref a] ∧ SQ A H a rm en row al mom na nc roots held F ∧ roots.length + held.length ≤ 10000 ∧
  ((al.2 = .non ∧ ∀ H' W ks tk, SQ A H' a rm en (keep row ks) (al.1, .ref tk) mom na (nc + 1) roots held (My.uni W F) → Live row (roots ++ held) ks → Wk W tk en (keep row ks) roots held → (∀ p o, W p = some o → F p = none) → Q .non H') ∨
   (∃ tk, al.2 = .ref tk ∧ ∀ dd, H dd = none → E (.ref A.C_Wrong) (some dd) (upd H dd (.xd [("why", .str "open")]))))
theorem sp_begin_len {A vs H Q E} (h : sp_begin A vs H Q E) : vs.length = (["self"] : List Str).length := by
  obtain ⟨_, _, _, _, _, _, _, _, _, _, _, rfl, _⟩ := h
  rfl
section
variable {P : Program} {w : World} {K : PySem.W.Frag} {mg : Str → Option Value} {base : Heap} {A : Ad}
theorem ok_Space_begin (T : Txt K mg A) : FnOk P w K mg base (L2N.CX P w) 6 A.f_Space_begin A.d_Space_begin ["self"] (sp_begin A) := by
  refine okN T.F_Space_begin sc_Space_begin (fun vs H Q E h => ?_) (fun cdv Ar outer s H vs Q E hr h => ?_)
  · exact sp_begin_len h
  · have hu := hu_of hr
    refine ⟨_, (pss_cons (ps_if (pt_cmpR op_notN (pe_fld (pv 0) rfl) pe_non (nomark _)) (pss_one (ps_rz1 rfl T.x_Wrong (ok_Wrong___init__ T) (hr.mono (by decide)) T.b_Wrong___init__ (L2N.takes_of rfl rfl rfl rfl) (by rfl) T.m_Wrong (pa_cons pe_str pa_nil))) pss_nil)
    (pss_cons (ps_expr (pe_meth (pv 0) T.cl_Space T.me_Space__collect_beside (ok_Space__collect_beside T) (hr.mono (by decide)) T.b_Space__collect_beside .nil pass0 (pa_cons (pe_lst pa_nil) pa_nil)))
    (pss_one (ps_fld (pv 0) (pe_tup (pa_cons (pe_meth0 (pe_fld (pv 0) rfl) T.cl_Store T.me_Store_snapshot (ok_Store_snapshot T) (hr.mono (by decide)) T.b_Store_snapshot .nil pass0) (pa_cons (pe_callTy call_listM (by rfl) T.z_list (by decide +kernel) (pa_cons (pe_fld (pv 0) rfl) pa_nil)) (pa_cons (pe_callTy call_listM (by rfl) T.z_list (by decide +kernel) (pa_cons (pe_fld (pv 0) rfl) pa_nil)) pa_nil)))) rfl)))), ?_⟩
    obtain ⟨a, rm, en, row, al, mom, na, nc, roots, held, F, rfl, Z0, hl2, k⟩ := h
    obtain ⟨dx, s, pr, rt, hl, mo, F1, Z⟩ := id Z0
    have ho := Z.ho
    rcases k with ⟨hn, k⟩ | ⟨tk, hn, k⟩
    · rw [hn] at ho
      dsimp! only [ho]
      refine ⟨by omega, fun p hp => ?_⟩
      have ZN := Z0.new (o := HO.lst []) hp
      refine ⟨a, p, rm, en, row, al, mom, na, nc, roots, held, _, [], rfl, ZN, upd_same, by simp; omega, fun H1 ks Z1 nd ch => ?_⟩
      rw [List.append_nil] at ch
      have Z1 := Z1.less (same_new (Z0.out hp))
      clear ZN hp
      obtain ⟨dx1, s1, pr1, rt1, hl1, mo1, F2, Y1⟩ := id Z1
      obtain ⟨_, _, _, _, _, hs1⟩ := Y1.st.ho
      refine ⟨_, _, _, Y1.ho, T.cl_Space, T.no_Space_store, _, spF_store, s1, rfl, _, _, hs1, stF_msnap, s1, rm, en, _, _, rfl, Y1.st, fun H2 ts D sm2 fr2 sn2 => ?_⟩
      have Y2 := Y1.same sm2
      refine ⟨_, _, _, Y2.ho, T.cl_Space, T.no_Space__roots, _, spF_roots, rt1, rfl, ?_⟩
      rw [Y2.hr]
      intro l1 h1
      have fr3 := fr2.new (o := HO.lst (roots.map V.int)) sm2 h1
      have sm3 := same_trans sm2 (same_new (o := HO.lst (roots.map V.int)) h1)
      have g1 : upd H2 l1 (HO.lst (roots.map V.int)) l1 = some (.lst (roots.map V.int)) := upd_same
      have sn3 := sn2.same (same_new (o := HO.lst (roots.map V.int)) (show D l1 = none from by
        cases q : D l1 with
        | none => rfl
        | some u =>
          have := (fr2 _ _ q).2
          rw [h1] at this
          cases this))
      have d1 : upd D l1 (HO.lst (roots.map V.int)) l1 = some (.lst (roots.map V.int)) := upd_same
      generalize upd D l1 (HO.lst (roots.map V.int)) = D3 at fr3 sn3 d1
      generalize upd H2 l1 (HO.lst (roots.map V.int)) = H3 at fr3 sm3 g1 ⊢
      have Y3 := Y1.same sm3
      refine ⟨_, _, _, Y3.ho, T.cl_Space, T.no_Space__held, _, spF_held, hl1, rfl, ?_⟩
      rw [Y3.hh]
      intro l2 h2
      have fr4 := fr3.new (o := HO.lst (held.map V.int)) sm3 h2
      have sm4 := same_trans sm3 (same_new (o := HO.lst (held.map V.int)) h2)
      have n12 : l1 ≠ l2 := ne_of_none g1 h2
      have dn2 : D3 l2 = none := by
        cases q : D3 l2 with
        | none => rfl
        | some u =>
          have := (fr3 _ _ q).2
          rw [h2] at this
          cases this
      have sn4 := sn3.same (same_new (o := HO.lst (held.map V.int)) dn2)
      have d14 := same_new (o := HO.lst (held.map V.int)) dn2 _ _ d1
      have d2 : upd D3 l2 (HO.lst (held.map V.int)) l2 = some (.lst (held.map V.int)) := upd_same
      generalize upd D3 l2 (HO.lst (held.map V.int)) = D4 at fr4 sn4 d14 d2
      generalize upd H3 l2 (HO.lst (held.map V.int)) = H4 at fr4 sm4 ⊢
      refine ⟨by decide, fun tk h3 => ?_⟩
      have fr5 := fr4.new (o := HO.tup [.ref ts, .ref l1, .ref l2]) sm4 h3
      have sm5 := same_trans sm4 (same_new (o := HO.tup [.ref ts, .ref l1, .ref l2]) h3)
      have dn3 : D4 tk = none := by
        cases q : D4 tk with
        | none => rfl
        | some u =>
          have := (fr4 _ _ q).2
          rw [h3] at this
          cases this
      have s5 := same_new (o := HO.tup [.ref ts, .ref l1, .ref l2]) dn3
      have wkk : Wk (upd D4 tk (HO.tup [.ref ts, .ref l1, .ref l2])) tk en (keep row ks) roots held := ⟨ts, l1, l2, upd_same, s5 _ _ d14, s5 _ _ d2, n12, sn4.same s5⟩
      generalize upd D4 tk (HO.tup [.ref ts, .ref l1, .ref l2]) = W at fr5 wkk
      generalize upd H4 tk (HO.tup [.ref ts, .ref l1, .ref l2]) = H5 at fr5 sm5 ⊢
      have Z5 : SQ A H5 a rm en (keep row ks) al mom na (nc + 1) roots held (My.uni W F) := Z1.more sm5 fun b o e => by
        rcases uni_cases e with e | ⟨_, e⟩
        · exact .inr (fr5 _ _ e)
        · exact .inl e
      have wf : ∀ p o, W p = some o → F p = none := fun p o e => Z1.out (fr5 _ _ e).1
      obtain ⟨dx5, s5, pr5, rt5, hl5, mo5, F5, Y5⟩ := Z5
      refine ⟨_, _, _, Y5.ho, T.cl_Space, T.no_Space__work, by show 9 < 1000; omega, ?_⟩
      rw [spF_pwk]
      exact k _ W ks tk (Y5.setwork _) ⟨nd, ch⟩ wkk wf
    · rw [hn] at ho
      dsimp! only [ho]
      exact k
end

def sp_commit (A : Ad) : Sp := fun vs H Q E => ∃ (a : Addr) (rm en : Int) (row : List OB) (al : Bool × V) (mom : List Int) (na nc : Int) (roots held : List Int) (F : Hp), vs = [.ref a] ∧ SQ A H a rm en row al mom na nc roots held F ∧
  ((∃ tk, al.2 = .ref tk ∧ ∀ H', SQ A H' a rm en row (al.1, .non) mom na nc roots held F → Q .non H') ∨
   (al.2 = .non ∧ ∀ dd, H dd = none → E (.ref A.C_Wrong) (some dd) (upd H dd (.xd [("why", .str "closed")]))))
theorem sp_commit_len {A vs H Q E} (h : sp_commit A vs H Q E) : vs.length = (["self"] : List Str).length := by
  obtain ⟨_, _, _, _, _, _, _, _, _, _, _, rfl, _⟩ := h
  rfl
section
variable {P : Program} {w : World} {K : PySem.W.Frag} {mg : Str → Option Value} {base : Heap} {A : Ad}
theorem ok_Space_commit (T : Txt K mg A) : FnOk P w K mg base (L2N.CX P w) 3 A.f_Space_commit A.d_Space_commit ["self"] (sp_commit A) := by
  refine okN T.F_Space_commit sc_Space_commit (fun vs H Q E h => ?_) (fun cdv Ar outer s H vs Q E hr h => ?_)
  · exact sp_commit_len h
  · have hu := hu_of hr
    refine ⟨_, (pss_cons (ps_if (pt_cmpR op_isN (pe_fld (pv 0) rfl) pe_non (nomark _)) (pss_one (ps_rz1 rfl T.x_Wrong (ok_Wrong___init__ T) (hr.mono (by decide)) T.b_Wrong___init__ (L2N.takes_of rfl rfl rfl rfl) (by rfl) T.m_Wrong (pa_cons pe_str pa_nil))) pss_nil)
    (pss_one (ps_fld (pv 0) pe_non rfl))), ?_⟩
    obtain ⟨a, rm, en, row, al, mom, na, nc, roots, held, F, rfl, Z0, k⟩ := h
    obtain ⟨dx, s, pr, rt, hl, mo, F1, Z⟩ := id Z0
    have ho := Z.ho
    rcases k with ⟨tk, hn, k⟩ | ⟨hn, k⟩
    · rw [hn] at ho
      dsimp! only [ho]
      refine ⟨by decide, ?_⟩
      rw [spF_pwk]
      exact k _ (Z.setwork _)
    · rw [hn] at ho
      dsimp! only [ho]
      exact k
end

def sp_abort (A : Ad) : Sp := fun vs H Q E => ∃ (a : Addr) (rm en : Int) (row : List OB) (al : Bool × V) (mom : List Int) (na nc : Int) (roots held : List Int) (F : Hp), vs = [.ref a] ∧ SQ A H a rm en row al mom na nc roots held F ∧
  ((∃ W G tk row0 roots0 held0, al.2 = .ref tk ∧ F = My.uni W G ∧ Wk W tk en row0 roots0 held0 ∧ (∀ p o, W p = some o → G p = none) ∧
      ∀ H', SQ A H' a rm en row0 (al.1, .non) mom na nc roots0 held0 G → Q .non H') ∨
   (al.2 = .non ∧ ∀ dd, H dd = none → E (.ref A.C_Wrong) (some dd) (upd H dd (.xd [("why", .str "closed")]))))
theorem sp_abort_len {A vs H Q E} (h : sp_abort A vs H Q E) : vs.length = (["self"] : List Str).length := by
  obtain ⟨_, _, _, _, _, _, _, _, _, _, _, rfl, _⟩ := h
  rfl
section
variable {P : Program} {w : World} {K : PySem.W.Frag} {mg : Str → Option Value} {base : Heap} {A : Ad}
theorem ok_Space_abort (T : Txt K mg A) : FnOk P w K mg base (L2N.CX P w) 3 A.f_Space_abort A.d_Space_abort ["self"] (sp_abort A) := by
  refine okN T.F_Space_abort sc_Space_abort (fun vs H Q E h => ?_) (fun cdv Ar outer s H vs Q E hr h => ?_)
  · exact sp_abort_len h
  · have hu := hu_of hr
    refine ⟨_, (pss_cons (ps_if (pt_cmpR op_isN (pe_fld (pv 0) rfl) pe_non (nomark _)) (pss_one (ps_rz1 rfl T.x_Wrong (ok_Wrong___init__ T) (hr.mono (by decide)) T.b_Wrong___init__ (L2N.takes_of rfl rfl rfl rfl) (by rfl) T.m_Wrong (pa_cons pe_str pa_nil))) pss_nil)
    (pss_cons (ps_asg (pe_fld (pv 0) rfl) (pg_tup (by rfl) (pgs_cons (pg_name (i := 1) sc_Space_abort.nd rfl (Or.inl rfl)) (pgs_cons (pg_name (i := 2) sc_Space_abort.nd rfl (Or.inl rfl)) (pgs_cons (pg_name (i := 3) sc_Space_abort.nd rfl (Or.inl rfl)) pgs_nil)))))
    (pss_cons (ps_expr (pe_meth (pe_fld (pv 0) rfl) T.cl_Store T.me_Store_restore (ok_Store_restore T) (hr.mono (by decide)) T.b_Store_restore .nil pass0 (pa_cons (pv 1) pa_nil)))
    (pss_cons (ps_fld (pv 0) (pv 2) rfl)
    (pss_cons (ps_fld (pv 0) (pv 3) rfl)
    (pss_one (ps_fld (pv 0) pe_non rfl))))))), ?_⟩
    obtain ⟨a, rm, en, row, al, mom, na, nc, roots, held, F, rfl, Z0, k⟩ := h
    obtain ⟨dx, s, pr, rt, hl, mo, F1, Z⟩ := id Z0
    have ho := Z.ho
    rcases k with ⟨W, G, tk, row0, roots0, held0, hn, eF, ⟨sn, rt0, hl0, w1, w2, w3, w4, w5⟩, wg, k⟩ | ⟨hn, k⟩
    · rw [hn] at ho
      dsimp! only [ho]
      subst eF
      have u1 : ∀ p o, W p = some o → My.uni W G p = some o := fun p o e => uni_l _ _ e
      have htk := Z0.get (u1 _ _ w1)
      refine ⟨_, .inl (.inl htk), rfl, .ref sn, _, rfl, .ref rt0, _, rfl, .ref hl0, _, rfl, rfl, ?_⟩
      obtain ⟨_, _, _, _, _, hs⟩ := Z.st.ho
      obtain ⟨r1, r2, r3, r4, r5⟩ := Z.sp.fr _ _ (u1 _ _ w2)
      obtain ⟨q1, q2, q3, q4, q5⟩ := Z.sp.fr _ _ (u1 _ _ w3)
      refine ⟨_, _, hs, stF_mrest, s, rm, en, row, row0, F1, sn, rfl, Z.st, (w5.same uni_l).same (fun p o e => (Z.sp.fr p o e).1), fun H1 S1 => ?_⟩
      have ho1 := S1.get Z.sp.ho
      refine ⟨_, _, _, ho1, T.cl_Space, T.no_Space__roots, by show 9 < 1000; omega, T.cl_Space, T.no_Space__held, by show 9 < 1000; omega, T.cl_Space, T.no_Space__work, by show 9 < 1000; omega, ?_⟩
      rw [spF_prt, spF_phl, spF_pwk]
      obtain ⟨kvs, m1, m2⟩ := Z.sp.hm
      have n3 : mo ≠ a := ne_ho m1 Z.sp.ho (by simp)
      refine k _ ⟨dx, s, pr, rt0, hl0, mo, _, S1.set Z.sp.ho, upd_same, by rw [upd_ne r2]; exact r1, by rw [upd_ne q2]; exact q1, ⟨kvs, by rw [upd_ne n3]; exact m1, m2⟩, w4, fun p o e => ?_⟩
      have wp : W p = none := by
        cases z : W p with
        | none => rfl
        | some v =>
          have := wg p v z
          rw [e] at this
          cases this
      obtain ⟨y1, y2, _, _, y5⟩ := Z.sp.fr p o (by rw [uni_right wp]; exact e)
      refine ⟨by rw [upd_ne y2]; exact y1, y2, ?_, ?_, y5⟩
      · intro c
        rw [c, w2] at wp
        cases wp
      · intro c
        rw [c, w3] at wp
        cases wp
    · rw [hn] at ho
      dsimp! only [ho]
      exact k
end

theorem Live.few {row : List OB} {ws ks : List Int} (h : Live row ws ks) : ks.length ≤ (nums row).length :=
  (show Fnd row (0 :: ws) ks [] from ⟨fun n hn => ⟨(h.2 n).mp hn, ((h.2 n).mp hn).nums⟩, h.1, by simp, fun w hw h1 h2 => .inl ((h.2 _).mpr (.root hw h1 h2)), fun n hn o ho w hw h1 h2 => .inl ((h.2 _).mpr (.step ((h.2 n).mp hn) ho hw h1 h2))⟩).few

def sp_root (A : Ad) : Sp := fun vs H Q _ => ∃ (a : Addr) (rm en : Int) (row : List OB) (al : Bool × V) (mom : List Int) (na nc : Int) (roots held : List Int) (F : Hp) (j : Nat) (w : Int), vs = [.ref a, .int (j : Int)] ∧ SQ A H a rm en row al mom na nc roots held F ∧ roots[j]? = some w ∧ Q (.int w) H
theorem sp_root_len {A vs H Q E} (h : sp_root A vs H Q E) : vs.length = (["self", "k"] : List Str).length := by
  obtain ⟨_, _, _, _, _, _, _, _, _, _, _, _, _, rfl, _⟩ := h
  rfl
section
variable {P : Program} {w : World} {K : PySem.W.Frag} {mg : Str → Option Value} {base : Heap} {A : Ad}
theorem ok_Space_root (T : Txt K mg A) : FnOk P w K mg base CX0 1 A.f_Space_root A.d_Space_root ["self", "k"] (sp_root A) := by
  refine Fun.ok T.F_Space_root sc_Space_root (fun vs H Q E h => ?_) (fun cdv Ar outer s H vs Q E hr h => ?_)
  · exact sp_root_len h
  · have hu := hu_of hr
    refine ⟨_, (pss_one (ps_ret (pe_ix ix_lstM (pe_fld (pv 0) rfl) (pv 1) (fun _ _ => rfl)))), ?_⟩
    obtain ⟨a, rm, en, row, al, mom, na, nc, roots, held, F, j, w, rfl, ⟨dx, s, pr, rt, hl, mo, F1, Z⟩, hj, k⟩ := h
    have ho := Z.ho
    have hr := Z.hr
    have at1 : atI (roots.map V.int) (j : Int) = some (.int w) := atI_nat (by rw [List.getElem?_map, hj]; rfl)
    dsimp! only [ho, hr, at1]
    exact k
end

def sp_held (A : Ad) : Sp := fun vs H Q _ => ∃ (a : Addr) (rm en : Int) (row : List OB) (al : Bool × V) (mom : List Int) (na nc : Int) (roots held : List Int) (F : Hp), vs = [.ref a] ∧ SQ A H a rm en row al mom na nc roots held F ∧ Q (.int held.length) H
theorem sp_held_len {A vs H Q E} (h : sp_held A vs H Q E) : vs.length = (["self"] : List Str).length := by
  obtain ⟨_, _, _, _, _, _, _, _, _, _, _, rfl, _⟩ := h
  rfl
section
variable {P : Program} {w : World} {K : PySem.W.Frag} {mg : Str → Option Value} {base : Heap} {A : Ad}
theorem ok_Space_held (T : Txt K mg A) : FnOk P w K mg base CX0 1 A.f_Space_held A.d_Space_held ["self"] (sp_held A) := by
  refine Fun.ok T.F_Space_held sc_Space_held (fun vs H Q E h => ?_) (fun cdv Ar outer s H vs Q E hr h => ?_)
  · exact sp_held_len h
  · have hu := hu_of hr
    refine ⟨_, (pss_one (ps_ret (pe_callB call_lenM (by rfl) T.z_len PySem.boot_len (pa_cons (pe_fld (pv 0) rfl) pa_nil)))), ?_⟩
    obtain ⟨a, rm, en, row, al, mom, na, nc, roots, held, F, rfl, ⟨dx, s, pr, rt, hl, mo, F1, Z⟩, k⟩ := h
    have ho := Z.ho
    have hh := Z.hh
    dsimp! only [ho, hh, List.length_map]
    exact k
end

def sp_sdrop (A : Ad) : Sp := fun vs H Q _ => ∃ (a : Addr) (rm en : Int) (row : List OB) (al : Bool × V) (mom : List Int) (na nc : Int) (roots held : List Int) (F : Hp) (c : Nat), vs = [.ref a, .int (c : Int)] ∧ SQ A H a rm en row al mom na nc roots held F ∧ c ≤ held.length ∧ ∀ H', SQ A H' a rm en row al mom na nc roots (held.take (held.length - c)) F → Q .non H'
theorem sp_sdrop_len {A vs H Q E} (h : sp_sdrop A vs H Q E) : vs.length = (["self", "count"] : List Str).length := by
  obtain ⟨_, _, _, _, _, _, _, _, _, _, _, _, rfl, _⟩ := h
  rfl
section
variable {P : Program} {w : World} {K : PySem.W.Frag} {mg : Str → Option Value} {base : Heap} {A : Ad}
theorem ok_Space_drop (T : Txt K mg A) : FnOk P w K mg base CX0 1 A.f_Space_drop A.d_Space_drop ["self", "count"] (sp_sdrop A) := by
  refine Fun.ok T.F_Space_drop sc_Space_drop (fun vs H Q E h => ?_) (fun cdv Ar outer s H vs Q E hr h => ?_)
  · exact sp_sdrop_len h
  · have hu := hu_of hr
    refine ⟨_, (pss_one (ps_delT (pe_fld (pv 0) rfl) (pe_op op_sub (pe_callB call_lenM (by rfl) T.z_len PySem.boot_len (pa_cons (pe_fld (pv 0) rfl) pa_nil)) (pv 1)))), ?_⟩
    obtain ⟨a, rm, en, row, al, mom, na, nc, roots, held, F, c, rfl, ⟨dx, s, pr, rt, hl, mo, F1, Z⟩, hc, k⟩ := h
    have ho := Z.ho
    have hh := Z.hh
    dsimp! only [ho, hh, List.length_map]
    refine ⟨held.map V.int, held.length - c, by omega, rfl, by rw [List.length_map]; omega, ?_⟩
    have Z2 := Z.setheld (held.take (held.length - c))
    rw [List.map_take] at Z2
    exact k _ Z2
end

def sp_livew (A : Ad) : Sp := fun vs H Q _ => ∃ (a : Addr) (rm en : Int) (row : List OB) (al : Bool × V) (mom : List Int) (na nc : Int) (roots held : List Int) (F : Hp), vs = [.ref a] ∧ SQ A H a rm en row al mom na nc roots held F ∧ roots.length + held.length ≤ 10000 ∧ ∀ H' ks, Same H H' → Live row (roots ++ held) ks → Q (.int (total row ks)) H'
theorem sp_livew_len {A vs H Q E} (h : sp_livew A vs H Q E) : vs.length = (["self"] : List Str).length := by
  obtain ⟨_, _, _, _, _, _, _, _, _, _, _, rfl, _⟩ := h
  rfl
section
variable {P : Program} {w : World} {K : PySem.W.Frag} {mg : Str → Option Value} {base : Heap} {A : Ad}
theorem ok_Space_live_words (T : Txt K mg A) : FnOk P w K mg base CX0 4 A.f_Space_live_words A.d_Space_live_words ["self"] (sp_livew A) := by
  refine Fun.ok T.F_Space_live_words sc_Space_live_words (fun vs H Q E h => ?_) (fun cdv Ar outer s H vs Q E hr h => ?_)
  · exact sp_livew_len h
  · have hu := hu_of hr
    refine ⟨_, (pss_one (ps_ret (pe_call (ok_words_of_D T) (hr.mono (by decide)) (by rfl) T.g_words_of T.k_words_of T.b_words_of .nil pass0 (pa_cons (pe_fld (pv 0) rfl) (pa_cons (pe_call (ok_reached T) (hr.mono (by decide)) (by rfl) T.g_reached T.k_reached T.b_reached .nil pass0 (pa_cons (pe_fld (pv 0) rfl) (pa_cons (pe_meth0 (pv 0) T.cl_Space T.me_Space_all_roots (ok_Space_all_roots T) (hr.mono (by decide)) T.b_Space_all_roots .nil pass0) pa_nil))) pa_nil))))), ?_⟩
    obtain ⟨a, rm, en, row, al, mom, na, nc, roots, held, F, rfl, Z0, hl2, k⟩ := h
    obtain ⟨dx, s, pr, rt, hl, mo, F1, Z⟩ := id Z0
    have ho := Z.ho
    dsimp! only [ho]
    refine ⟨a, rm, en, row, al, mom, na, nc, roots, held, F, rfl, Z0, by omega, fun H1 p sm1 hp gp => ?_⟩
    have Z1 := Z.same sm1
    have ho1 := Z1.ho
    dsimp! only [ho1]
    refine ⟨s, p, rm, en, row, F1, 0 :: (roots ++ held), rfl, Z1.st, gp, by simp; omega, fun H2 d ks sm2 hd gd nd ch => ?_⟩
    have L : Live row (roots ++ held) ks := ⟨nd, ch⟩
    have few := L.few
    have nl := nums_len (row := row)
    have rl := flat_rows row
    have rz := Z0.sz
    have S2 : St A H2 s rm en row (upd F1 d (.dK (mkD ks))) := Z1.st.more sm2 fun b u hb => by
      by_cases c : b = d
      · subst c
        rw [upd_same] at hb
        exact .inr ⟨hd, by rw [gd]; exact hb⟩
      · rw [upd_ne c] at hb
        exact .inl hb
    exact ⟨s, d, rm, en, row, _, ks, rfl, S2, upd_same, by omega, fun n hn => ((ch n).mp hn).nums, fun H3 sm3 => k H3 ks (same_trans (same_trans sm1 sm2) sm3) L⟩
end

def sp_press (A : Ad) : Sp := fun vs H Q _ => ∃ (a q : Addr) (rm en : Int) (row : List OB) (al : Bool × V) (mom : List Int) (na nc : Int) (roots held : List Int) (F : Hp) (al2 : Bool) (ms : List Int), vs = [.ref a, .ref q, .bl al2] ∧ SQ A H a rm en row al mom na nc roots held F ∧ F q = some (.lst (ms.map V.int)) ∧ ms.length ≤ 1000 ∧
  ∀ H' pr, H pr = none → (∃ dx s rt hl mo F1, Sq A H' a rm en row (al2, al.2) ms na nc roots held (upd F pr (.lst (ms.map V.int))) dx s pr rt hl mo F1) → Q .non H'
theorem sp_press_len {A vs H Q E} (h : sp_press A vs H Q E) : vs.length = (["self", "moments", "always"] : List Str).length := by
  obtain ⟨_, _, _, _, _, _, _, _, _, _, _, _, _, _, rfl, _⟩ := h
  rfl
section
variable {P : Program} {w : World} {K : PySem.W.Frag} {mg : Str → Option Value} {base : Heap} {A : Ad}
theorem ok_Space_press (T : Txt K mg A) : FnOk P w K mg base CX0 1 A.f_Space_press A.d_Space_press ["self", "moments", "always"] (sp_press A) := by
  refine FunD.ok T.F_Space_press sc_Space_press (fun vs H Q E h => ?_) (fun cdv Ar outer s H vs Q E hr h => ?_)
  · exact sp_press_len h
  · have hu := hu_of hr
    refine ⟨_, (pss_cons (ps_fld (pv 0) (pe_callTy call_listM (by rfl) T.z_list (by decide +kernel) (pa_cons (pv 1) pa_nil)) rfl)
    (pss_cons (ps_fld (pv 0) (pv 2) rfl)
    (pss_one (ps_fld (pv 0) (pe_dc (own := [("moment", 3)]) (g := gName 3) rfl sc_Space_press.nd (pi_list (pv 1)) (blkOk_by (own := [("moment", 3)]) (N := ["self", "moments", "always", "moment"]) (sc := defScope s_Space_press) (by decide +kernel)) (fun _ _ _ _ _ => pg_name (i := 3) sc_Space_press.nd rfl (Or.inl rfl)) (fun _ _ _ _ _ => pts_nil) (fun _ _ _ _ _ => (pv 3)) (fun _ _ _ _ _ => pe_bl)) rfl)))), ?_⟩
    obtain ⟨a, q, rm, en, row, al, mom, na, nc, roots, held, F, al2, ms, rfl, Z0, hq, hms, k⟩ := h
    obtain ⟨dx, s, pr, rt, hl, mo, F1, Z⟩ := id Z0
    have ho := Z.ho
    have hqH := Z.get hq
    have sz : (300000 : Nat) ≤ sizeLine := by decide
    dsimp! only [ho, hqH]
    intro l hl2
    have Z2 := Z.same (same_new (o := HO.lst (ms.map V.int)) hl2)
    refine ⟨_, _, _, Z2.ho, T.cl_Space, T.no_Space_pressure, by show 9 < 1000; omega, T.cl_Space, T.no_Space_always, by show 9 < 1000; omega, ?_⟩
    obtain ⟨kvs, m1, m2⟩ := Z.sp.hm
    have al_ : a ≠ l := ne_of_none Z.ho hl2
    have S3 := (Z.st.new (o := HO.lst (ms.map V.int)) hl2).set (p := a) (o := HO.ins A.C_Space dx (spF s al2 l na nc rt hl mo al.2)) (by rw [upd_ne al_]; exact Z.sp.ho)
    have Fl := Z.st.none hl2
    have hq3 : upd (upd H l (HO.lst (ms.map V.int))) a (HO.ins A.C_Space dx (spF s al2 l na nc rt hl mo al.2)) q = some (.lst (ms.map V.int)) := by
      rw [upd_ne (Z.sp.fr _ _ hq).2.1]
      exact same_new hl2 _ _ hqH
    have hl3 : upd (upd H l (HO.lst (ms.map V.int))) a (HO.ins A.C_Space dx (spF s al2 l na nc rt hl mo al.2)) l = some (.lst (ms.map V.int)) := by
      rw [upd_ne (Ne.symm al_), upd_same]
    show tDc _ _ _ _ _ _ _ (upd (upd H l (HO.lst (ms.map V.int))) a (HO.ins A.C_Space dx (spF s al2 l na nc rt hl mo al.2))) _
    generalize upd (upd H l (HO.lst (ms.map V.int))) a (HO.ins A.C_Space dx (spF s al2 l na nc rt hl mo al.2)) = H3 at S3 hq3 hl3 ⊢
    refine dc_ints ms (fun R h => ⟨_, rfl, h⟩) hq3 (by show 3 < 4; decide) (by omega) (fun mo2 hmo2 => ?_)
    have F3a : upd (upd F1 l (HO.lst (ms.map V.int))) a (HO.ins A.C_Space dx (spF s al2 l na nc rt hl mo al.2)) a = some (HO.ins A.C_Space dx (spF s al2 l na nc rt hl mo al.2)) := upd_same
    have am : a ≠ mo2 := ne_of_none (S3.get F3a) hmo2
    have lm : l ≠ mo2 := ne_of_none hl3 hmo2
    have S4 := (S3.new (o := HO.dK (mkF ms)) hmo2).set (p := a) (o := HO.ins A.C_Space dx (spF s al2 l na nc rt hl mo2 al.2)) (by rw [upd_ne am]; exact F3a)
    have ho4 : upd H3 mo2 (HO.dK (mkF ms)) a = some (HO.ins A.C_Space dx (spF s al2 l na nc rt hl mo al.2)) := by
      rw [upd_ne am]
      exact S3.get F3a
    refine ⟨_, _, _, ho4, T.cl_Space, T.no_Space__moments, by show 9 < 1000; omega, ?_⟩
    have old : ∀ b o, F1 b = some o → b ≠ a → upd (upd (upd (upd F1 l (HO.lst (ms.map V.int))) a (HO.ins A.C_Space dx (spF s al2 l na nc rt hl mo al.2))) mo2 (HO.dK (mkF ms))) a (HO.ins A.C_Space dx (spF s al2 l na nc rt hl mo2 al.2)) b = some o ∧ b ≠ mo2 ∧ b ≠ l := fun b o e n => by
      have nl : b ≠ l := ne_of_none e Fl
      have e3 : upd (upd F1 l (HO.lst (ms.map V.int))) a (HO.ins A.C_Space dx (spF s al2 l na nc rt hl mo al.2)) b = some o := by
        rw [upd_ne n, upd_ne nl]
        exact e
      have nm : b ≠ mo2 := ne_of_none (S3.get e3) hmo2
      exact ⟨by rw [upd_ne n, upd_ne nm]; exact e3, nm, nl⟩
    have r1 := old _ _ Z.sp.hr (ne_ho Z.sp.hr Z.sp.ho (by simp))
    have r2 := old _ _ Z.sp.hh (ne_ho Z.sp.hh Z.sp.ho (by simp))
    refine k _ l hl2 ⟨dx, s, rt, hl, mo2, _, S4, upd_same, r1.1, r2.1, ⟨mkF ms, by rw [upd_ne (Ne.symm am), upd_same], fun n => mkF_some ms n⟩, Z.sp.ne, fun p o e => ?_⟩
    by_cases c : p = l
    · subst c
      rw [upd_same] at e
      have e2 := Option.some.inj e
      subst e2
      exact ⟨by rw [upd_ne (Ne.symm al_), upd_ne lm, upd_ne (Ne.symm al_), upd_same], Ne.symm al_, Ne.symm r1.2.2, Ne.symm r2.2.2, lm⟩
    · rw [upd_ne c] at e
      obtain ⟨q1, q2, q3, q4, q5⟩ := Z.sp.fr p o e
      have := old _ _ q1 q2
      exact ⟨this.1, q2, q3, q4, this.2.1⟩
end

/-! ### what the law finds: a dict of pairs -/
structure FB where
  p : Addr
  q : Addr
  o : OB
def fdL (fs : List FB) : List (Key × V) := fs.map fun b => (Sum.inl b.o.num, V.ref b.p)
def fks (fs : List FB) : List Int := fs.map (·.o.num)
structure FBs (H : Hp) (row : List OB) (fs : List FB) : Prop where
  at_ : ∀ b ∈ fs, H b.p = some (.lst [.int b.o.kind, .ref b.q]) ∧ H b.q = some (.lst (b.o.sl.map V.int))
  nd : (fks fs).Nodup
  get : ∀ b ∈ fs, getO row b.o.num = some b.o
theorem FBs.same {H H' : Hp} {row fs} (h : FBs H row fs) (s : Same H H') : FBs H' row fs := ⟨fun b hb => ⟨s _ _ (h.at_ b hb).1, s _ _ (h.at_ b hb).2⟩, h.nd, h.get⟩
theorem fdL_keys {fs : List FB} : (fdL fs).map (·.1) = (fks fs).map Sum.inl := by
  unfold fdL fks
  rw [List.map_map, List.map_map]
  rfl
theorem fdL_len {fs : List FB} : (fdL fs).length = fs.length := by
  unfold fdL
  rw [List.length_map]
theorem fks_len {fs : List FB} : (fks fs).length = fs.length := by
  unfold fks
  rw [List.length_map]
theorem fdL_none {fs : List FB} {n : Int} (h : n ∉ fks fs) : valV (fdL fs) (Sum.inl n) = none := by
  unfold valV
  rw [Option.map_eq_none_iff, List.find?_eq_none]
  intro p hp
  rw [decide_eq_true_eq]
  intro e
  unfold fdL at hp
  obtain ⟨b, hb, rfl⟩ := List.mem_map.mp hp
  exact h (List.mem_map.mpr ⟨b, hb, Sum.inl.inj e⟩)
theorem fdL_get : ∀ {fs : List FB} {b : FB}, (fks fs).Nodup → b ∈ fs → valV (fdL fs) (Sum.inl b.o.num) = some (.ref b.p)
  | [], b, _, h => by cases h
  | c :: fs, b, nd, h => by
    show valV ((Sum.inl c.o.num, V.ref c.p) :: fdL fs) (Sum.inl b.o.num) = _
    have n2 := List.nodup_cons.mp (show (c.o.num :: fks fs).Nodup from nd)
    rcases List.mem_cons.mp h with rfl | h
    · rw [valV_pos rfl]
    · rw [valV_neg (fun z => n2.1 (by rw [Sum.inl.inj z]; exact List.mem_map.mpr ⟨b, h, rfl⟩))]
      exact fdL_get n2.2 h
theorem fdL_some {fs : List FB} {n : Int} (nd : (fks fs).Nodup) : (valV (fdL fs) (Sum.inl n)).isSome = decide (n ∈ fks fs) := by
  by_cases c : n ∈ fks fs
  · obtain ⟨b, hb, e⟩ := List.mem_map.mp c
    rw [decide_eq_true c, ← e, fdL_get nd hb]
    rfl
  · rw [decide_eq_false c, fdL_none c]
    rfl
theorem fdL_put {fs : List FB} {p q : Addr} {o : OB} (h : o.num ∉ fks fs) : putK (fdL fs) (Sum.inl o.num) (.ref p) = fdL (fs ++ [⟨p, q, o⟩]) := by
  rw [putK_new _ (fdL_none h)]
  unfold fdL
  rw [List.map_append]
  rfl
/-! ### sizes -/
theorem flat_sum : ∀ row : List OB, ((flat row).length : Int) = (row.map fun o => 3 + (o.sl.length : Int)).sum
  | [] => rfl
  | o :: r => by
    rw [flat, List.length_append, flatO_len, List.map_cons, List.sum_cons, ← flat_sum r]
    omega
theorem total_perm {row : List OB} {ks ls : List Int} (h : ks.Perm ls) : total row ks = total row ls := perm_sum (h.map _)
theorem keep_perm {row : List OB} {ks : List Int} (nr : (nums row).Nodup) (nd : ks.Nodup) (h : ∀ n ∈ ks, n ∈ nums row) : (nums (keep row ks)).Perm ks := by
  rw [keep_nums]
  refine (List.perm_ext_iff_of_nodup (nr.filter _) nd).mpr fun n => ?_
  rw [List.mem_filter]
  simp
  exact h n
theorem total_keep {row : List OB} {ks : List Int} (nr : (nums row).Nodup) (nd : ks.Nodup) (h : ∀ n ∈ ks, n ∈ nums row) : total row ks = ((flat (keep row ks)).length : Int) := by
  rw [← total_perm (keep_perm nr nd h), flat_sum]
  unfold total nums
  have e : (keep row ks).filter (·.al) = keep row ks := List.filter_eq_self.mpr fun o ho => keep_al o ho
  rw [e, List.map_map]
  congr 1
  refine List.map_congr_left fun o ho => ?_
  show szO row o.num = _
  have mem := (List.mem_filter.mp ho).1
  obtain ⟨i, hi⟩ := List.mem_iff_getElem?.mp mem
  exact szO_of (getO_at nr hi (keep_al o ho))
theorem total_le {row : List OB} {ks : List Int} (nr : (nums row).Nodup) (nd : ks.Nodup) (h : ∀ n ∈ ks, n ∈ nums row) : total row ks ≤ ((flat row).length : Int) := by
  have := keep_flat_le row ks
  rw [total_keep nr nd h]
  omega
def fsum (fs : List FB) : Int := (fs.map fun b => 3 + (b.o.sl.length : Int)).sum
theorem fsum_total {H row fs} (h : FBs H row fs) : fsum fs = total row (fks fs) := by
  unfold fsum total fks
  rw [List.map_map]
  congr 1
  exact List.map_congr_left fun b hb => (szO_of (h.get b hb)).symm
theorem FBs.mem {H row fs} (h : FBs H row fs) : ∀ n ∈ fks fs, n ∈ nums row := fun n hn => by
  obtain ⟨b, hb, e⟩ := List.mem_map.mp hn
  rw [← e]
  exact getO_nums (h.get b hb)
theorem Fnd.sub {row : List OB} {roots found todo todo' : List Int} (h : Fnd row roots found todo) (h1 : ∀ w ∈ todo', w ∈ todo) (h2 : ∀ w ∈ todo, w % 2 = 0 → w ∈ todo') : Fnd row roots found todo' :=
  ⟨h.ok, h.nd, fun w hw => h.td w (h1 w hw), fun w hw e1 e2 => (h.rt w hw e1 e2).imp id fun z => h2 w z e1, fun n hn o ho w hw e1 e2 => (h.cl n hn o ho w hw e1 e2).imp id fun z => h2 w z e1⟩
/-- the numbers that the words of a list tell, and back -/
def halves (ws : List Int) : List Int := (ws.filter fun w => decide (w % 2 = 0)).map fun w => w / 2
theorem halves_back {ws : List Int} {w : Int} : w ∈ (halves ws).map (fun n => 2 * n) ↔ w ∈ ws ∧ w % 2 = 0 := by
  unfold halves
  rw [List.map_map, List.mem_map]
  constructor
  · rintro ⟨x, hx, e⟩
    rw [List.mem_filter, decide_eq_true_eq] at hx
    have : w = x := by
      have : 2 * (x / 2) = w := e
      omega
    rw [this]
    exact hx
  · rintro ⟨h1, h2⟩
    refine ⟨w, List.mem_filter.mpr ⟨h1, decide_eq_true h2⟩, ?_⟩
    show 2 * (w / 2) = w
    omega
theorem halves_len (ws : List Int) : (halves ws).length ≤ ws.length := by
  unfold halves
  rw [List.length_map]
  exact List.length_filter_le ..
/-! ### room -/
structure Ok (rm en : Int) (row : List OB) : Prop where
  al : ∀ o ∈ row, o.al = true
  sz : ((flat row).length : Int) ≤ rm
  lt : ∀ n ∈ nums row, 0 ≤ n ∧ n < en
  nd : (nums row).Nodup
theorem IsFree.ex (row : List OB) : ∃ n, IsFree row n := by
  have h : ∀ k : Nat, (∀ m : Int, 0 ≤ m → m < k → m ∈ nums row) ∨ ∃ n, IsFree row n := by
    intro k
    induction k with
    | zero => exact .inl fun m a b => by omega
    | succ k ih =>
      rcases ih with ih | ih
      · by_cases c : (k : Int) ∈ nums row
        · refine .inl fun m a b => ?_
          by_cases e : m = (k : Int)
          · rw [e]
            exact c
          · exact ih m a (by omega)
        · exact .inr ⟨(k : Int), by omega, c, fun m a b => ih m a (by omega)⟩
      · exact .inr ih
  rcases h ((nums row).length + 1) with h | h
  · have := all_below ((nums row).length + 1) (nums row) h
    omega
  · exact h
theorem free_iff {rm en : Int} {row : List OB} (O : Ok rm en row) (he : 0 ≤ en) {n : Int} (h : IsFree row n) : n < en ↔ ((nums row).length : Int) < en := by
  have up := nodup_le en.toNat (nums row) O.nd fun x hx => by
    have := O.lt x hx
    omega
  constructor
  · intro c
    refine Classical.byContradiction fun z => ?_
    -- all numbers below en are used, and n, too
    have h2 := nodup_le en.toNat (n :: nums row) (List.nodup_cons.mpr ⟨h.2.1, O.nd⟩) fun x hx => by
      rcases List.mem_cons.mp hx with e | hx
      · have := h.1
        omega
      · have := O.lt x hx
        omega
    rw [List.length_cons] at h2
    omega
  · intro c
    refine Classical.byContradiction fun z => ?_
    have := all_below en.toNat (nums row) fun m m0 m1 => h.2.2 m m0 (by omega)
    omega
theorem nofit_iff {rm en : Int} {row : List OB} {m : Nat} (O : Ok rm en row) (he : 0 ≤ en) : NoFit row rm en m ↔ (rm < ((flat row).length : Int) + (3 + (m : Int)) ∨ en ≤ ((nums row).length : Int)) := by
  obtain ⟨n, hn⟩ := IsFree.ex row
  have f := free_iff O he hn
  unfold NoFit
  constructor
  · rintro (h | ⟨h1, h2⟩)
    · exact .inl h
    · have := h2 n hn
      exact .inr (by omega)
  · rintro (h | h)
    · exact .inl h
    · by_cases c : rm < ((flat row).length : Int) + (3 + (m : Int))
      · exact .inl c
      · exact .inr ⟨by omega, fun k hk => by
          have := (free_iff O he hk)
          omega⟩
theorem Ok.keep {rm en : Int} {row : List OB} (O : Ok rm en row) (ks : List Int) : Ok rm en (My.keep row ks) := by
  have := keep_flat_le row ks
  have := O.sz
  refine ⟨keep_al, by omega, fun n hn => ?_, ?_⟩
  · rw [keep_nums, List.mem_filter] at hn
    exact O.lt n hn.1
  · rw [keep_nums]
    exact O.nd.filter _
theorem Ok.add {rm en : Int} {row : List OB} {n kd : Int} {m : Nat} (O : Ok rm en row) (h : IsFree row n) (h2 : n < en) (h3 : ((flat row).length : Int) + (3 + (m : Int)) ≤ rm) : Ok rm en (row ++ [⟨n, kd, List.replicate m 0, true⟩]) := by
  refine ⟨fun o ho => ?_, ?_, fun k hk => ?_, ?_⟩
  · rcases List.mem_append.mp ho with ho | ho
    · exact O.al o ho
    · rw [List.mem_singleton] at ho
      rw [ho]
  · rw [flat_app, flat_one, List.length_append, flatO_len, List.length_replicate]
    omega
  · rw [nums_app] at hk
    rcases List.mem_append.mp hk with hk | hk
    · exact O.lt k hk
    · rw [nums_cons, if_pos rfl] at hk
      have e : k = n := by simpa [nums] using hk
      rw [e]
      exact ⟨h.1, h2⟩
  · rw [nums_app, nums_cons, if_pos rfl]
    refine List.nodup_append.mpr ⟨O.nd, by simp [nums], fun x hx y hy e => ?_⟩
    have e2 : y = n := by simpa [nums] using hy
    rw [e, e2] at hx
    exact h.2.1 hx
theorem getO_add {row : List OB} {k : Int} {o q : OB} (h : getO row k = some o) : getO (row ++ [q]) k = some o := by
  unfold getO at h ⊢
  rw [List.find?_append, h]
  rfl
theorem getO_last {row : List OB} {q : OB} (h : q.num ∉ nums row) (ha : q.al = true) : getO (row ++ [q]) q.num = some q := by
  have e : getO row q.num = none := by
    cases z : getO row q.num with
    | none => rfl
    | some o => exact absurd (getO_nums z) h
  unfold getO at e ⊢
  rw [List.find?_append, e]
  show (List.find? (hasN q.num) [q]) = _
  rw [List.find?_cons_of_pos (hasN_iff.mpr ⟨ha, rfl⟩)]
theorem nums_add {row : List OB} {q : OB} (ha : q.al = true) : nums (row ++ [q]) = nums row ++ [q.num] := by
  rw [nums_app, nums_cons, if_pos ha]
  rfl
theorem Ok.put {rm en : Int} {row : List OB} (O : Ok rm en row) (n : Int) (j : Nat) (v : Int) : Ok rm en (putO row n j v) := by
  have M := (Mild.put j v).set n
  refine ⟨fun o ho => ?_, ?_, fun k hk => ?_, ?_⟩
  · obtain ⟨q, hq, e⟩ := List.mem_map.mp ho
    rw [← e]
    unfold setO
    split
    · exact O.al q hq
    · exact O.al q hq
  · rw [show (flat (putO row n j v)).length = (flat row).length from M.flat row]
    exact O.sz
  · rw [show nums (putO row n j v) = nums row from M.nums row] at hk
    exact O.lt k hk
  · rw [show nums (putO row n j v) = nums row from M.nums row]
    exact O.nd
theorem Ok.nil {rm en : Int} (h : 0 ≤ rm) : Ok rm en [] := ⟨by simp, h, by simp [nums], by simp [nums]⟩
def csum (fs : List FB) : Int := (fs.map fun b => 1 + (b.o.sl.length : Int)).sum
theorem csum_le (fs : List FB) : csum fs ≤ fsum fs := by
  unfold csum fsum
  induction fs with
  | nil => exact Int.le_refl _
  | cons b fs ih =>
    rw [List.map_cons, List.map_cons, List.sum_cons, List.sum_cons]
    omega
theorem csum_snoc (fs : List FB) (b : FB) : csum (fs ++ [b]) = csum fs + (1 + (b.o.sl.length : Int)) := by
  unfold csum
  rw [List.map_append, List.sum_append]
  simp
theorem lc_halves {K : PySem.W.Frag} {tl : TE} {tt : TT} {te : TE} {c : Nat} {σ : L2.St} {H : Hp} {Q : VK} {a : Addr} (ns : List Int) (htl : ∀ R : V → Hp → Prop, R (.ref a) H → tl σ H R) (ha : H a = some (.lst (ns.map V.int))) (hn : ns.length ≤ 100000)
    (hb : ∀ w H' (R : Bool → Hp → Prop), R (decide (w % 2 = 0)) H' → tt ((σ.set c none).set c (some (.int w))) H' R) (he : ∀ w H' (R : VK), R (.int (w / 2)) H' → te ((σ.set c none).set c (some (.int w))) H' R)
    (k : ∀ D, H D = none → Q (.ref D) (upd H D (.lst ((halves ns).map V.int)))) : tLc (iList K tl) (gName c) tt te [c] σ H Q := by
  refine lc_lstI (K := K) (a := a) (ns.map V.int) (fun i => (ns[i]?.map fun w => decide (w % 2 = 0)).getD false) (fun i y => y = (ns[i]?.map fun w => V.int (w / 2)).getD .non) htl (.inl (.inl ha)) (by rw [List.length_map]; exact hn) (fun i x H' R hx _ h => ?_) (fun i x H' R hx _ _ h => ?_) (fun D ys hD hy => ?_)
  · rw [List.getElem?_map] at hx
    obtain ⟨w, hw, rfl⟩ := Option.map_eq_some_iff.mp hx
    rw [hw] at h
    exact hb w H' R h
  · rw [List.getElem?_map] at hx
    obtain ⟨w, hw, rfl⟩ := Option.map_eq_some_iff.mp hx
    exact he w H' R (h _ (by rw [hw]; rfl))
  · have e := hy.map
    rw [List.length_map, range_pick (fun w => decide (w % 2 = 0)) (fun w => V.int (w / 2)) ns] at e
    subst e
    have := k D hD
    unfold halves at this
    rw [List.map_map] at this
    exact this
theorem lc_frz {td : TE} {g : TG} {tt : TT} {te : TE} {vs : List Nat} {σ : L2.St} {H : Hp} {Q : VK} {d : Addr} {u : HO} (hd : H d = some u) (mu : Mut (some u)) (htd : ∀ R : V → Hp → Prop, R (.ref d) H → td σ H R)
    (h : ∀ od, tLc (iKeys fun _ H Q => Q (.ref d) H) g tt te vs σ (upd H d (.frz od u)) Q) : tLc (iKeys (tFrz td)) g tt te vs σ H Q :=
  htd _ ⟨d, rfl, .inl ⟨u, hd, mu, fun od => h od⟩⟩
theorem fdL_at {fs : List FB} {i : Nat} {kk : Key} {v : V} (h : (fdL fs)[i]? = some (kk, v)) : ∃ b, fs[i]? = some b ∧ kk = Sum.inl b.o.num ∧ v = .ref b.p := by
  unfold fdL at h
  rw [List.getElem?_map] at h
  obtain ⟨b, hb, e⟩ := Option.map_eq_some_iff.mp h
  cases e
  exact ⟨b, hb, rfl, rfl⟩

/-- the frame with all that is new -/
def grow (F H H' : Hp) : Hp := fun b => match H b with
  | none => H' b
  | some _ => F b
theorem grow_new {F H H' : Hp} {p : Addr} {o : HO} (h : H p = none) (e : H' p = some o) : grow F H H' p = some o := by
  unfold grow
  rw [h]
  exact e
theorem SQ.grow {A H H' a rm en row al mom na nc roots held F} (Z : SQ A H a rm en row al mom na nc roots held F) (s : Same H H') : SQ A H' a rm en row al mom na nc roots held (My.grow F H H') := Z.more s fun b o e => by
  unfold My.grow at e
  split at e
  · rename_i q
    exact .inr ⟨q, e⟩
  · exact .inl e
theorem SQ.grow_old {A H H' a rm en row al mom na nc roots held F} (Z : SQ A H a rm en row al mom na nc roots held F) : Same F (My.grow F H H') := fun b o e => by
  unfold My.grow
  rw [Z.get e]
  exact e
theorem keep_congr {row : List OB} {ks ls : List Int} (h : ∀ n, n ∈ ks ↔ n ∈ ls) : keep row ks = keep row ls := by
  unfold keep
  refine List.filter_congr fun o _ => ?_
  by_cases c : o.num ∈ ks
  · simp [c, (h _).mp c]
  · have : o.num ∉ ls := fun z => c ((h _).mpr z)
    simp [c, this]
theorem Live.same {row : List OB} {ws ks ls : List Int} (h : Live row ws ks) (g : Live row ws ls) : keep row ks = keep row ls := keep_congr fun n => by rw [h.2, g.2]
/-- what comes of a call of new: a word and a number, the objects then, the count of collections -/
def Res (rm en : Int) (row : List OB) (ws : List Int) (forced : Prop) (nc kd : Int) (m : Nat) (tag : Str) (val : Int) (row' : List OB) (nc' : Int) : Prop :=
  ∃ row1 nc1, Tries row ws forced nc row1 nc1 ∧
    ((((flat row1).length : Int) + (3 + (m : Int)) ≤ rm ∧ IsFree row1 val ∧ val < en ∧ tag = "made" ∧ row' = row1 ++ [⟨val, kd, List.replicate m 0, true⟩] ∧ nc' = nc1) ∨
     (NoFit row1 rm en m ∧ ∃ ks, Live row ws ks ∧ nc' = nc1 + 1 ∧
       ((rm < ((flat (keep row ks)).length : Int) + (3 + (m : Int)) ∧ tag = "room" ∧ val = 3 + (m : Int) ∧ row' = keep row ks) ∨
        (((flat (keep row ks)).length : Int) + (3 + (m : Int)) ≤ rm ∧ ∃ n, IsFree (keep row ks) n ∧
          ((en ≤ n ∧ tag = "number" ∧ val = en ∧ row' = keep row ks) ∨ (n < en ∧ tag = "made" ∧ val = n ∧ row' = keep row ks ++ [⟨n, kd, List.replicate m 0, true⟩]))))))

/-! ### the law's own plain things -/
structure TH where
  p : Addr
  q : Addr
  k : Int
  sl : List Int
def prowF : Nat → List TH → List OB
  | _, [] => []
  | n, t :: ts => ⟨(n : Int), t.k, t.sl, true⟩ :: prowF (n + 1) ts
def prow (ts : List TH) : List OB := prowF 0 ts
theorem prowF_get : ∀ (n : Nat) (ts : List TH) (z : Int), getO (prowF n ts) z = if (n : Int) ≤ z then (ts[(z - n).toNat]?).map fun t => ⟨z, t.k, t.sl, true⟩ else none
  | n, [], z => by
    rw [prowF]
    simp [getO]
  | n, t :: ts, z => by
    rw [prowF, getO_cons, prowF_get (n + 1) ts z]
    by_cases c : (n : Int) = z
    · subst c
      rw [if_pos (show hasN (n : Int) ⟨(n : Int), t.k, t.sl, true⟩ = true from hasN_iff.mpr ⟨rfl, rfl⟩), if_pos (Int.le_refl _), Int.sub_self]
      rfl
    · rw [if_neg (fun h => c (hasN_iff.mp h).2)]
      by_cases d : (n : Int) ≤ z
      · rw [if_pos (by omega), if_pos d, show (z - (n : Int)).toNat = (z - ((n + 1 : Nat) : Int)).toNat + 1 by omega, List.getElem?_cons_succ]
      · rw [if_neg (by omega), if_neg d]
theorem prow_get (ts : List TH) (z : Int) : getO (prow ts) z = if 0 ≤ z then (ts[z.toNat]?).map fun t => ⟨z, t.k, t.sl, true⟩ else none := by
  have := prowF_get 0 ts z
  rw [show prow ts = prowF 0 ts from rfl, this]
  simp
theorem prow_at {ts : List TH} {j : Nat} {t : TH} (h : ts[j]? = some t) : getO (prow ts) (j : Int) = some ⟨(j : Int), t.k, t.sl, true⟩ := by
  rw [prow_get, if_pos (by omega), Int.toNat_natCast, h]
  rfl
theorem prow_of {ts : List TH} {z : Int} {o : OB} (h : getO (prow ts) z = some o) : ∃ (j : Nat) (t : TH), z = (j : Int) ∧ ts[j]? = some t ∧ o = ⟨(j : Int), t.k, t.sl, true⟩ := by
  rw [prow_get] at h
  split at h
  · rename_i c
    obtain ⟨t, ht, e⟩ := Option.map_eq_some_iff.mp h
    have e2 : ((z.toNat : Nat) : Int) = z := Int.toNat_of_nonneg c
    exact ⟨z.toNat, t, e2.symm, ht, by rw [e2]; exact e.symm⟩
  · cases h
theorem prow_nums {ts : List TH} {z : Int} : z ∈ nums (prow ts) ↔ 0 ≤ z ∧ z < ts.length := by
  constructor
  · intro h
    obtain ⟨o, ho⟩ := getO_of_mem h
    obtain ⟨j, t, rfl, ht, _⟩ := prow_of ho
    obtain ⟨hj, _⟩ := List.getElem?_eq_some_iff.mp ht
    omega
  · rintro ⟨h1, h2⟩
    have hlt : z.toNat < ts.length := by omega
    have := prow_at (List.getElem?_eq_getElem hlt)
    rw [Int.toNat_of_nonneg h1] at this
    exact getO_nums this
theorem prowF_nums : ∀ (n : Nat) (ts : List TH), nums (prowF n ts) = (List.range' n ts.length).map fun k : Nat => (k : Int)
  | n, [] => rfl
  | n, t :: ts => by
    rw [prowF, nums_cons, if_pos rfl, prowF_nums (n + 1) ts, List.length_cons, List.range'_succ, List.map_cons]
theorem prow_nd {ts : List TH} : (nums (prow ts)).Nodup := by
  rw [show prow ts = prowF 0 ts from rfl, prowF_nums]
  exact List.pairwise_map.mpr (List.Pairwise.imp (fun {a b} h e => h (by have : (a : Int) = (b : Int) := e; omega)) List.nodup_range')
theorem prow_len {ts : List TH} : (nums (prow ts)).length = ts.length := by
  rw [show prow ts = prowF 0 ts from rfl, prowF_nums, List.length_map, List.length_range']
/-- the number that stands for a thing, and the word for a word -/
def nu (ns : List Int) (i : Int) : Int := (ns[i.toNat]?).getD 0
def rl (ns : List Int) (w : Int) : Int := if w % 2 = 0 then 2 * nu ns (w / 2) else w
def Vw (N : Nat) (w : Int) : Prop := w % 2 = 0 → 0 ≤ w / 2 ∧ w / 2 < (N : Int)
theorem rl_even {ns : List Int} {w : Int} (h : w % 2 = 0) : rl ns w = 2 * nu ns (w / 2) := if_pos h
theorem rl_odd {ns : List Int} {w : Int} (h : ¬ w % 2 = 0) : rl ns w = w := if_neg h
theorem rl_par {ns : List Int} {w : Int} : rl ns w % 2 = 0 ↔ w % 2 = 0 := by
  by_cases c : w % 2 = 0
  · rw [rl_even c]
    omega
  · rw [rl_odd c]
theorem rl_half {ns : List Int} {w : Int} (h : w % 2 = 0) : rl ns w / 2 = nu ns (w / 2) := by
  rw [rl_even h]
  omega
structure Agr (ts : List TH) (ns : List Int) (row : List OB) (ws : List Int) : Prop where
  ln : ns.length = ts.length
  vt : ∀ t ∈ ts, ∀ w ∈ t.k :: t.sl, Vw ts.length w
  vr : ∀ w ∈ ws, Vw ts.length w
  on : ∀ i, Rch (prow ts) ws i → ∀ o, getO (prow ts) i = some o → getO row (nu ns i) = some ⟨nu ns i, rl ns o.kind, o.sl.map (rl ns), true⟩
  inj : ∀ i j, Rch (prow ts) ws i → Rch (prow ts) ws j → nu ns i = nu ns j → i = j
theorem Agr.thing {ts ns row ws} (h : Agr ts ns row ws) {i : Int} (hi : Rch (prow ts) ws i) : ∃ (j : Nat) (t : TH), i = (j : Int) ∧ ts[j]? = some t ∧ getO (prow ts) i = some ⟨(j : Int), t.k, t.sl, true⟩ ∧ getO row (nu ns i) = some ⟨nu ns i, rl ns t.k, t.sl.map (rl ns), true⟩ := by
  obtain ⟨o, ho⟩ := getO_of_mem hi.nums
  obtain ⟨j, t, e, ht, eo⟩ := prow_of ho
  subst eo
  exact ⟨j, t, e, ht, ho, h.on i hi _ ho⟩
theorem Agr.valid {ts ns row ws} (h : Agr ts ns row ws) {i : Int} {o : OB} (ho : getO (prow ts) i = some o) {w : Int} (hw : w ∈ o.kind :: o.sl) : Vw ts.length w := by
  obtain ⟨j, t, e, ht, eo⟩ := prow_of ho
  subst eo
  exact h.vt t (List.mem_of_getElem? ht) w hw
theorem Agr.to {ts ns row ws} (h : Agr ts ns row ws) {i : Int} (hi : Rch (prow ts) ws i) : Rch row (ws.map (rl ns)) (nu ns i) := by
  induction hi with
  | @root w hw h1 h2 =>
    obtain ⟨j, t, e, ht, ho, hr⟩ := h.thing (.root hw h1 h2)
    have := Rch.root (row := row) (roots := ws.map (rl ns)) (List.mem_map.mpr ⟨w, hw, rfl⟩) (rl_par.mpr h1) (by rw [rl_half h1]; exact getO_nums hr)
    rw [rl_half h1] at this
    exact this
  | @step n o w r ho hw h1 h2 ih =>
    obtain ⟨j, t, e, ht, ho2, hr⟩ := h.thing (.step r ho hw h1 h2)
    have g := h.on n r o ho
    have := Rch.step (row := row) (w := rl ns w) ih g (by
      rcases List.mem_cons.mp hw with e | e
      · rw [e]
        exact List.mem_cons_self ..
      · exact List.mem_cons_of_mem _ (List.mem_map.mpr ⟨w, e, rfl⟩)) (rl_par.mpr h1) (by rw [rl_half h1]; exact getO_nums hr)
    rw [rl_half h1] at this
    exact this
theorem Agr.back {ts ns row ws} (h : Agr ts ns row ws) {m : Int} (hm : Rch row (ws.map (rl ns)) m) : ∃ i, Rch (prow ts) ws i ∧ m = nu ns i := by
  induction hm with
  | @root w' hw h1 h2 =>
    obtain ⟨w, hw2, rfl⟩ := List.mem_map.mp hw
    have e := rl_par.mp h1
    exact ⟨w / 2, .root hw2 e (prow_nums.mpr (h.vr w hw2 e)), rl_half e⟩
  | @step n o w' r ho hw h1 h2 ih =>
    obtain ⟨i, hi, rfl⟩ := ih
    obtain ⟨j, t, e, ht, ho2, hr⟩ := h.thing hi
    rw [ho] at hr
    cases Option.some.inj hr
    have : ∃ w, w ∈ t.k :: t.sl ∧ w' = rl ns w := by
      rcases List.mem_cons.mp hw with e | e
      · exact ⟨t.k, List.mem_cons_self .., e⟩
      · obtain ⟨w, hw, e⟩ := List.mem_map.mp e
        exact ⟨w, List.mem_cons_of_mem _ hw, e.symm⟩
    obtain ⟨w, hw2, rfl⟩ := this
    have e := rl_par.mp h1
    exact ⟨w / 2, .step hi ho2 hw2 e (prow_nums.mpr (h.valid ho2 hw2 e)), rl_half e⟩
theorem Agr.brch {ts ns row ws} (h : Agr ts ns row ws) (m : Int) : Rch row (ws.map (rl ns)) m ↔ ∃ i, Rch (prow ts) ws i ∧ m = nu ns i :=
  ⟨h.back, by rintro ⟨i, hi, rfl⟩; exact h.to hi⟩
/-- the living ones here and there -/
theorem Agr.perm {ts ns row ws} {ks is : List Int} (h : Agr ts ns row ws) (k1 : ks.Nodup) (k2 : ∀ n, n ∈ ks ↔ Rch row (ws.map (rl ns)) n) (i1 : is.Nodup) (i2 : ∀ i, i ∈ is ↔ Rch (prow ts) ws i) : ks.Perm (is.map (nu ns)) := by
  refine (List.perm_ext_iff_of_nodup k1 (List.pairwise_map.mpr (List.Pairwise.imp_of_mem (fun {a b} ha hb n e => n (h.inj a b ((i2 a).mp ha) ((i2 b).mp hb) e)) i1))).mpr fun n => ?_
  rw [k2, h.brch, List.mem_map]
  constructor
  · rintro ⟨i, hi, rfl⟩
    exact ⟨i, (i2 i).mpr hi, rfl⟩
  · rintro ⟨i, hi, rfl⟩
    exact ⟨i, (i2 i).mp hi, rfl⟩
theorem Agr.tot {ts ns row ws} {ks is : List Int} (h : Agr ts ns row ws) (k1 : ks.Nodup) (k2 : ∀ n, n ∈ ks ↔ Rch row (ws.map (rl ns)) n) (i1 : is.Nodup) (i2 : ∀ i, i ∈ is ↔ Rch (prow ts) ws i) : total row ks = total (prow ts) is := by
  rw [total_perm (h.perm k1 k2 i1 i2)]
  unfold My.total
  rw [List.map_map]
  congr 1
  refine List.map_congr_left fun i hi => ?_
  obtain ⟨j, t, e, ht, ho, hr⟩ := h.thing ((i2 i).mp hi)
  show szO row (nu ns i) = _
  rw [szO_of hr, szO_of ho, List.length_map]
/-- less is reached -/
theorem Agr.sub {ts ns row ws ws'} (h : Agr ts ns row ws) (v : ∀ w ∈ ws', Vw ts.length w) (e : ∀ w ∈ ws', w % 2 = 0 → Rch (prow ts) ws (w / 2)) : Agr ts ns row ws' := by
  have m : ∀ i, Rch (prow ts) ws' i → Rch (prow ts) ws i := fun i hi => by
    induction hi with
    | root hw h1 h2 => exact e _ hw h1
    | step r ho hw h1 h2 ih => exact .step ih ho hw h1 h2
  exact ⟨h.ln, h.vt, v, fun i hi => h.on i (m i hi), fun i j hi hj => h.inj i j (m i hi) (m j hj)⟩
theorem Agr.rt {ts ns row ws} (h : Agr ts ns row ws) {w : Int} (hw : w ∈ ws) (h1 : w % 2 = 0) : Rch (prow ts) ws (w / 2) := .root hw h1 (prow_nums.mpr (h.vr w hw h1))
theorem Agr.mono {ts ns row ws ws'} (h : Agr ts ns row ws) (e : ∀ w ∈ ws', w ∈ ws) : Agr ts ns row ws' := h.sub (fun w hw => h.vr w (e w hw)) fun w hw h1 => h.rt (e w hw) h1
theorem Agr.keep {ts ns row ws} {ks : List Int} (h : Agr ts ns row ws) (k2 : ∀ n, n ∈ ks ↔ Rch row (ws.map (rl ns)) n) : Agr ts ns (My.keep row ks) ws :=
  ⟨h.ln, h.vt, h.vr, fun i hi o ho => by
    rw [keep_get, if_pos ((k2 _).mpr (h.to hi))]
    exact h.on i hi o ho, h.inj⟩
theorem Agr.words {ts ns row ws} (h : Agr ts ns row ws) {j : Nat} {t : TH} (hj : Rch (prow ts) ws (j : Int)) (ht : ts[j]? = some t) {w : Int} (hw : w ∈ t.k :: t.sl) : Vw ts.length w ∧ (w % 2 = 0 → Rch (prow ts) ws (w / 2)) :=
  have v := h.valid (prow_at ht) hw
  ⟨v, fun e => .step hj (prow_at ht) hw e (prow_nums.mpr (v e))⟩
/-- a change that reaches nothing new -/
theorem Agr.edit {ts ts' : List TH} {ns : List Int} {row row' : List OB} {ws : List Int} (h : Agr ts ns row ws) (len : ts'.length = ts.length)
    (hv : ∀ t' ∈ ts', ∀ w ∈ t'.k :: t'.sl, Vw ts.length w)
    (hw : ∀ (j : Nat) (t' : TH), ts'[j]? = some t' → Rch (prow ts) ws (j : Int) → ∀ w ∈ t'.k :: t'.sl, w % 2 = 0 → Rch (prow ts) ws (w / 2))
    (hg : ∀ (j : Nat) (t' : TH), ts'[j]? = some t' → Rch (prow ts) ws (j : Int) → getO row' (nu ns (j : Int)) = some ⟨nu ns (j : Int), rl ns t'.k, t'.sl.map (rl ns), true⟩) : Agr ts' ns row' ws := by
  have m : ∀ i, Rch (prow ts') ws i → Rch (prow ts) ws i := fun i hi => by
    induction hi with
    | @root w hw h1 h2 => exact .root hw h1 (prow_nums.mpr (by rw [← len]; exact prow_nums.mp h2))
    | @step n o w r ho hw2 h1 h2 ih =>
      obtain ⟨j, t, rfl, ht, rfl⟩ := prow_of ho
      exact hw j t ht ih w hw2 h1
  refine ⟨by rw [len]; exact h.ln, by rw [len]; exact hv, by rw [len]; exact h.vr, fun i hi o ho => ?_, fun i j hi hj => h.inj i j (m i hi) (m j hj)⟩
  obtain ⟨j, t, rfl, ht, rfl⟩ := prow_of ho
  exact hg j t ht (m _ hi)
theorem nu_add {ns : List Int} {n i : Int} (h0 : 0 ≤ i) (h : i < ns.length) : nu (ns ++ [n]) i = nu ns i := by
  unfold nu
  rw [List.getElem?_append_left (by omega)]
theorem nu_last {ns : List Int} {n : Int} : nu (ns ++ [n]) (ns.length : Int) = n := by
  unfold nu
  rw [Int.toNat_natCast, List.getElem?_append_right (Nat.le_refl _), Nat.sub_self]
  rfl
theorem rl_add {ns : List Int} {n w : Int} (h : Vw ns.length w) : rl (ns ++ [n]) w = rl ns w := by
  by_cases c : w % 2 = 0
  · rw [rl_even c, rl_even c, nu_add (h c).1 (h c).2]
  · rw [rl_odd c, rl_odd c]
/-- a new thing -/
theorem Agr.add {ts : List TH} {ns : List Int} {row : List OB} {ws ws' : List Int} (h : Agr ts ns row ws) {kd n : Int} {m : Nat} {p q : Addr} (h0 : (0 : Int) ∈ ws) (hk : kd ∈ ws) (hz : nu ns 0 = 0) (nf : n ∉ nums row) (hw : ∀ w ∈ ws', w ∈ ws ∨ w = 2 * (ts.length : Int)) :
    Agr (ts ++ [⟨p, q, kd, List.replicate m 0⟩]) (ns ++ [n]) (row ++ [⟨n, rl ns kd, List.replicate m 0, true⟩]) ws' := by
  have len : (ts ++ [(⟨p, q, kd, List.replicate m 0⟩ : TH)]).length = ts.length + 1 := by simp
  have up : ∀ w, Vw ts.length w → Vw (ts ++ [(⟨p, q, kd, List.replicate m 0⟩ : TH)]).length w := fun w v e => by
    have := v e
    omega
  have v0 := h.vr 0 h0
  have hln := h.ln
  have old : ∀ (j : Nat) t, (ts ++ [(⟨p, q, kd, List.replicate m 0⟩ : TH)])[j]? = some t → (j < ts.length ∧ ts[j]? = some t) ∨ (j = ts.length ∧ t = ⟨p, q, kd, List.replicate m 0⟩) := fun j t ht => by
    by_cases c : j < ts.length
    · rw [List.getElem?_append_left c] at ht
      exact .inl ⟨c, ht⟩
    · rw [List.getElem?_append_right (by omega)] at ht
      obtain ⟨hj, _⟩ := List.getElem?_eq_some_iff.mp ht
      have hj2 : j - ts.length < 1 := hj
      have e : j = ts.length := by omega
      subst e
      rw [Nat.sub_self] at ht
      exact .inr ⟨rfl, (Option.some.inj ht).symm⟩
  have nw : ∀ w, w ∈ kd :: List.replicate m (0 : Int) → w ∈ ws := fun w hw => by
    rcases List.mem_cons.mp hw with rfl | hw
    · exact hk
    · rw [(List.mem_replicate.mp hw).2]
      exact h0
  have m2 : ∀ i, Rch (prow (ts ++ [(⟨p, q, kd, List.replicate m 0⟩ : TH)])) ws' i → i = (ts.length : Int) ∨ Rch (prow ts) ws i := fun i hi => by
    induction hi with
    | @root w hw2 h1 h2 =>
      rcases hw w hw2 with c | c
      · exact .inr (h.rt c h1)
      · exact .inl (by omega)
    | @step n o w r ho hw2 h1 h2 ih =>
      obtain ⟨j, t, rfl, ht, rfl⟩ := prow_of ho
      rcases old j t ht with ⟨c, ht2⟩ | ⟨c, rfl⟩
      · rcases ih with e | ih
        · omega
        · exact .inr ((h.words ih ht2 hw2).2 h1)
      · exact .inr (h.rt (nw w hw2) h1)
  have lt : ∀ i, Rch (prow ts) ws i → 0 ≤ i ∧ i < (ts.length : Int) := fun i hi => prow_nums.mp hi.nums
  have nuo : ∀ i, Rch (prow ts) ws i → nu (ns ++ [n]) i = nu ns i := fun i hi => nu_add (lt i hi).1 (by rw [hln]; exact (lt i hi).2)
  have nul : nu (ns ++ [n]) (ts.length : Int) = n := by
    rw [← hln]
    exact nu_last
  have rlo : ∀ w, Vw ts.length w → rl (ns ++ [n]) w = rl ns w := fun w v => rl_add (by rw [hln]; exact v)
  have rl0 : rl ns 0 = 0 := by
    rw [rl_even rfl, show (0 : Int) / 2 = 0 from rfl, hz]
    rfl
  refine ⟨by rw [List.length_append, len, hln]; rfl, fun t ht w hw2 => ?_, fun w hw2 => ?_, fun i hi o ho => ?_, fun i j hi hj e => ?_⟩
  · rcases List.mem_append.mp ht with c | c
    · exact up w (h.vt t c w hw2)
    · rw [List.mem_singleton] at c
      subst c
      exact up w (h.vr w (nw w hw2))
  · rcases hw w hw2 with c | rfl
    · exact up w (h.vr w c)
    · intro _
      rw [len]
      omega
  · obtain ⟨j, t, rfl, ht, rfl⟩ := prow_of ho
    rcases old j t ht with ⟨c, ht2⟩ | ⟨c, rfl⟩
    · rcases m2 _ hi with e | r
      · omega
      · have := h.on _ r _ (prow_at ht2)
        rw [nuo _ r, getO_add this]
        have e1 : rl (ns ++ [n]) t.k = rl ns t.k := rlo _ (h.words r ht2 (List.mem_cons_self ..)).1
        have e2 : t.sl.map (rl (ns ++ [n])) = t.sl.map (rl ns) := List.map_congr_left fun w hw => rlo _ (h.words r ht2 (List.mem_cons_of_mem _ hw)).1
        rw [e1, e2]
    · subst c
      rw [nul]
      have := getO_last (row := row) (q := ⟨n, rl ns kd, List.replicate m 0, true⟩) nf rfl
      rw [this, List.map_replicate, rlo 0 v0, rl0, rlo kd (h.vr kd hk)]
  · rcases m2 _ hi with e1 | r1
    · rcases m2 _ hj with e2 | r2
      · rw [e1, e2]
      · subst e1
        rw [nul, nuo _ r2] at e
        obtain ⟨_, _, _, _, _, hr⟩ := h.thing r2
        exact absurd (by rw [e]; exact getO_nums hr) nf
    · rcases m2 _ hj with e2 | r2
      · subst e2
        rw [nul, nuo _ r1] at e
        obtain ⟨_, _, _, _, _, hr⟩ := h.thing r1
        exact absurd (by rw [← e]; exact getO_nums hr) nf
      · rw [nuo _ r1, nuo _ r2] at e
        exact h.inj i j r1 r2 e
theorem getO_setO {f : OB → OB} (M : Mild f) {n : Int} : ∀ (row : List OB) (m : Int), getO (row.map (setO n f)) m = if m = n then (getO row n).map f else getO row m
  | [], m => by
    by_cases c : m = n
    · rw [if_pos c]
      rfl
    · rw [if_neg c]
      rfl
  | o :: r, m => by
    rw [List.map_cons, getO_cons, getO_setO M r m, (M.set n).has]
    by_cases c : m = n
    · subst c
      rw [if_pos rfl, if_pos rfl, getO_cons]
      by_cases d : hasN m o = true
      · rw [if_pos d, if_pos d]
        unfold setO
        rw [if_pos d]
        rfl
      · rw [if_neg d, if_neg d]
    · rw [if_neg c, if_neg c, getO_cons]
      by_cases d : hasN m o = true
      · rw [if_pos d, if_pos d]
        unfold setO
        rw [if_neg (fun z => c (by rw [← (hasN_iff.mp d).2, (hasN_iff.mp z).2]))]
      · rw [if_neg d, if_neg d]
theorem Ok.kind {rm en : Int} {row : List OB} (O : Ok rm en row) (n : Int) (v : Int) : Ok rm en (kindO row n v) := by
  have M := (Mild.kind v).set n
  refine ⟨fun o ho => ?_, ?_, fun k hk => ?_, ?_⟩
  · obtain ⟨q, hq, e⟩ := List.mem_map.mp ho
    rw [← e]
    unfold setO
    split
    · exact O.al q hq
    · exact O.al q hq
  · rw [show (flat (kindO row n v)).length = (flat row).length from M.flat row]
    exact O.sz
  · rw [show nums (kindO row n v) = nums row from M.nums row] at hk
    exact O.lt k hk
  · rw [show nums (kindO row n v) = nums row from M.nums row]
    exact O.nd
theorem flat_ex_len : ∀ {row : List OB} {a b : Int}, (flat (exch row a b)).length = (flat row).length
  | [], _, _ => rfl
  | o :: r, a, b => by
    show (flat (exO a b o :: exch r a b)).length = _
    rw [flat, flat, List.length_append, List.length_append, flatO_len, flatO_len, exO_sl.1, flat_ex_len]
theorem Ok.exch {rm en : Int} {row : List OB} (O : Ok rm en row) {a b : Int} (ha : a ∈ nums row) (hb : b ∈ nums row) : Ok rm en (exch row a b) := by
  refine ⟨fun o ho => ?_, ?_, fun k hk => ?_, ?_⟩
  · obtain ⟨q, hq, e⟩ := List.mem_map.mp ho
    rw [← e, exO_sl.2.2]
    exact O.al q hq
  · rw [flat_ex_len]
    exact O.sz
  · rw [nums_ex] at hk
    obtain ⟨z, hz, rfl⟩ := List.mem_map.mp hk
    unfold sw2
    split
    · exact O.lt _ hb
    · split
      · exact O.lt _ ha
      · exact O.lt _ hz
  · rw [nums_ex]
    refine List.pairwise_map.mpr (List.Pairwise.imp (fun {x y} h e => h ?_) O.nd)
    rw [← sw2_inv a b x, e, sw2_inv]
/-- what comes of new, told by the size of what lives -/
theorem res7 {rm en : Int} {row : List OB} {ws ks : List Int} {fc : Prop} {nc kd : Int} {m : Nat} {tag : Str} {val : Int} {row' : List OB} {nc' : Int} (O : Ok rm en row) (he : 0 ≤ en) (L : Live row ws ks)
    (h : Res rm en row ws fc nc kd m tag val row' nc') :
    (rm < total row ks + (3 + (m : Int)) → tag = "room" ∧ val = 3 + (m : Int) ∧ row' = keep row ks) ∧
    (total row ks + (3 + (m : Int)) ≤ rm → en ≤ (ks.length : Int) → tag = "number" ∧ val = en ∧ row' = keep row ks) ∧
    (total row ks + (3 + (m : Int)) ≤ rm → (ks.length : Int) < en → tag = "made" ∧ 0 ≤ val ∧ val < en ∧ ∃ row1, (row1 = row ∨ row1 = keep row ks) ∧ IsFree row1 val ∧ row' = row1 ++ [⟨val, kd, List.replicate m 0, true⟩] ∧ Ok rm en row') := by
  have OK := O.keep ks
  have mem : ∀ n ∈ ks, n ∈ nums row := fun n hn => ((L.2 n).mp hn).nums
  have kp := keep_perm O.nd L.1 mem
  have kl := kp.length_eq
  have fl : total row ks = ((flat (keep row ks)).length : Int) := total_keep O.nd L.1 mem
  have fle := keep_flat_le row ks
  have few := L.few
  rw [fl]
  obtain ⟨row1, nc1, hT, h⟩ := h
  have r1 : row1 = row ∨ row1 = keep row ks := by
    rcases hT with ⟨_, e, _⟩ | ⟨_, _, ks0, l0, e⟩
    · exact .inl e
    · rw [l0.same L] at e
      exact .inr e
  have O1 : Ok rm en row1 := by
    rcases r1 with rfl | rfl
    · exact O
    · exact OK
  have nl1 : (ks.length : Int) ≤ ((nums row1).length : Int) := by
    rcases r1 with rfl | rfl
    · omega
    · omega
  have fl1 : ((flat (keep row ks)).length : Int) ≤ ((flat row1).length : Int) := by
    rcases r1 with rfl | rfl
    · omega
    · omega
  rcases h with ⟨z, fr, lt, rfl, rfl, rfl⟩ | ⟨hN, ks2, l, rfl, h⟩
  · have n1 := (free_iff O1 he fr).mp lt
    exact ⟨fun c => absurd c (by omega), fun _ c => absurd c (by omega), fun _ _ => ⟨rfl, fr.1, lt, row1, r1, fr, rfl, O1.add fr lt z⟩⟩
  · have ek : keep row ks2 = keep row ks := l.same L
    rw [ek] at h
    rcases h with ⟨c, rfl, rfl, rfl⟩ | ⟨c, n, fr, h⟩
    · exact ⟨fun _ => ⟨rfl, rfl, rfl⟩, fun c2 => absurd c2 (by omega), fun c2 => absurd c2 (by omega)⟩
    · have fi := free_iff OK he fr
      rcases h with ⟨c2, rfl, rfl, rfl⟩ | ⟨c2, rfl, rfl, rfl⟩
      · exact ⟨fun c3 => absurd c3 (by omega), fun _ _ => ⟨rfl, rfl, rfl⟩, fun _ c3 => absurd c3 (by omega)⟩
      · exact ⟨fun c3 => absurd c3 (by omega), fun _ c3 => absurd c3 (by omega), fun _ _ => ⟨rfl, fr.1, c2, _, .inr rfl, fr, rfl, OK.add fr c2 c⟩⟩
/-- a root gets a word that is reached -/
theorem Agr.root {ts : List TH} {ns : List Int} {row : List OB} {roots held : List Int} {j : Nat} {w : Int} (g : Agr ts ns row (0 :: (roots ++ held))) (v : Vw ts.length w) (r : w % 2 = 0 → Rch (prow ts) (0 :: (roots ++ held)) (w / 2)) : Agr ts ns row (0 :: (roots.set j w ++ held)) := by
  have c : ∀ x ∈ 0 :: (roots.set j w ++ held), x ∈ 0 :: (roots ++ held) ∨ x = w := fun x hx => by
    rcases List.mem_cons.mp hx with e | hx
    · exact .inl (e ▸ List.mem_cons_self ..)
    · rcases List.mem_append.mp hx with hx | hx
      · rcases List.mem_or_eq_of_mem_set hx with hx | hx
        · exact .inl (List.mem_cons_of_mem _ (List.mem_append_left _ hx))
        · exact .inr hx
      · exact .inl (List.mem_cons_of_mem _ (List.mem_append_right _ hx))
  exact g.sub (fun x hx => (c x hx).elim (g.vr x) fun e => e ▸ v) fun x hx e => (c x hx).elim (fun h => g.rt h e) fun h => by subst h; exact r e
theorem set_at {α : Type} {l : List α} {i k : Nat} {a b c : α} (hi : l[i]? = some a) (h : (l.set i b)[k]? = some c) : (k = i ∧ c = b) ∨ (k ≠ i ∧ l[k]? = some c) := by
  rw [List.getElem?_set] at h
  split at h
  · rename_i e
    split at h
    · exact .inl ⟨e.symm, (Option.some.inj h).symm⟩
    · cases h
  · rename_i e
    exact .inr ⟨fun z => e z.symm, h⟩
section
variable {ts : List TH} {ns : List Int} {row : List OB} {ws : List Int}
/-- one thing changes -/
theorem Agr.one (g : Agr ts ns row ws) {i : Nat} {t t2 : TH} (ti : ts[i]? = some t) (hi : Rch (prow ts) ws (i : Int)) {f : OB → OB} (M : Mild f)
    (hv : ∀ w ∈ t2.k :: t2.sl, Vw ts.length w ∧ (w % 2 = 0 → Rch (prow ts) ws (w / 2)))
    (hf : f ⟨nu ns (i : Int), rl ns t.k, t.sl.map (rl ns), true⟩ = ⟨nu ns (i : Int), rl ns t2.k, t2.sl.map (rl ns), true⟩) : Agr (ts.set i t2) ns (row.map (setO (nu ns (i : Int)) f)) ws := by
  refine g.edit (by rw [List.length_set]) (fun t' ht' w hw => ?_) (fun k t' hk hr w hw e => ?_) (fun k t' hk hr => ?_)
  · rcases List.mem_or_eq_of_mem_set ht' with h | rfl
    · exact g.vt t' h w hw
    · exact (hv w hw).1
  · rcases set_at ti hk with ⟨rfl, rfl⟩ | ⟨c, h⟩
    · exact (hv w hw).2 e
    · exact (g.words hr h hw).2 e
  · rw [getO_setO M]
    rcases set_at ti hk with ⟨rfl, rfl⟩ | ⟨c, h⟩
    · rw [if_pos rfl, g.on _ hr _ (prow_at ti)]
      exact congrArg some hf
    · rw [if_neg (fun z => c (by have := g.inj _ _ hr hi z; omega))]
      exact g.on _ hr _ (prow_at h)
theorem Agr.kind (g : Agr ts ns row ws) {i : Nat} {t : TH} (ti : ts[i]? = some t) (hi : Rch (prow ts) ws (i : Int)) {w : Int} (v : Vw ts.length w) (r : w % 2 = 0 → Rch (prow ts) ws (w / 2)) : Agr (ts.set i { t with k := w }) ns (kindO row (nu ns (i : Int)) (rl ns w)) ws :=
  g.one ti hi (Mild.kind _) (fun x hx => by
    rcases List.mem_cons.mp hx with h | h
    · rw [show x = w from h]
      exact ⟨v, r⟩
    · exact g.words hi ti (List.mem_cons_of_mem _ h)) rfl
theorem Agr.put (g : Agr ts ns row ws) {i j : Nat} {t : TH} (ti : ts[i]? = some t) (hi : Rch (prow ts) ws (i : Int)) {w : Int} (v : Vw ts.length w) (r : w % 2 = 0 → Rch (prow ts) ws (w / 2)) : Agr (ts.set i { t with sl := t.sl.set j w }) ns (putO row (nu ns (i : Int)) j (rl ns w)) ws :=
  g.one ti hi (Mild.put j _) (fun x hx => by
    rcases List.mem_cons.mp hx with h | h
    · exact g.words hi ti (by rw [show x = t.k from h]; exact List.mem_cons_self ..)
    · rcases List.mem_or_eq_of_mem_set h with h | h
      · exact g.words hi ti (List.mem_cons_of_mem _ h)
      · rw [show x = w from h]
        exact ⟨v, r⟩) (by
    show (⟨nu ns (i : Int), rl ns t.k, (t.sl.map (rl ns)).set j (rl ns w), true⟩ : OB) = ⟨nu ns (i : Int), rl ns t.k, (t.sl.set j w).map (rl ns), true⟩
    rw [List.map_set])
/-- two things change places -/
theorem Agr.exch (g : Agr ts ns row ws) {i j : Nat} {a b : TH} (ta : ts[i]? = some a) (tb : ts[j]? = some b) (hi : Rch (prow ts) ws (i : Int)) (hj : Rch (prow ts) ws (j : Int)) : Agr ((ts.set i b).set j a) ns (My.exch row (nu ns (i : Int)) (nu ns (j : Int))) ws := by
  have lj : (ts.set i b)[j]? = some b := by
    rw [List.getElem?_set]
    split
    · rename_i c
      obtain ⟨z, _⟩ := List.getElem?_eq_some_iff.mp ta
      rw [if_pos z]
    · exact tb
  have at_ : ∀ (k : Nat) (t' : TH), ((ts.set i b).set j a)[k]? = some t' → (k = j ∧ t' = a) ∨ (k ≠ j ∧ k = i ∧ t' = b) ∨ (k ≠ j ∧ k ≠ i ∧ ts[k]? = some t') := fun k t' h => by
    rcases set_at lj h with ⟨c, e⟩ | ⟨c, h⟩
    · exact .inl ⟨c, e⟩
    · rcases set_at ta h with ⟨c2, e⟩ | ⟨c2, h⟩
      · exact .inr (.inl ⟨c, c2, e⟩)
      · exact .inr (.inr ⟨c, c2, h⟩)
  have ga := g.on _ hi _ (prow_at ta)
  have gb := g.on _ hj _ (prow_at tb)
  refine g.edit (by rw [List.length_set, List.length_set]) (fun t' ht' w hw => ?_) (fun k t' hk hr w hw e => ?_) (fun k t' hk hr => ?_)
  · rcases List.mem_or_eq_of_mem_set ht' with h | rfl
    · rcases List.mem_or_eq_of_mem_set h with h | rfl
      · exact g.vt t' h w hw
      · exact g.vt t' (List.mem_of_getElem? tb) w hw
    · exact g.vt t' (List.mem_of_getElem? ta) w hw
  · rcases at_ k t' hk with ⟨_, rfl⟩ | ⟨_, _, rfl⟩ | ⟨_, _, h⟩
    · exact (g.words hi ta hw).2 e
    · exact (g.words hj tb hw).2 e
    · exact (g.words hr h hw).2 e
  · rw [getO_ex]
    unfold sw2
    rcases at_ k t' hk with ⟨rfl, rfl⟩ | ⟨c, rfl, rfl⟩ | ⟨c1, c2, h⟩
    · by_cases c : nu ns (k : Int) = nu ns (i : Int)
      · have := g.inj _ _ hr hi c
        have e : k = i := by omega
        subst e
        rw [if_pos rfl, ga]
        simp only [Option.map_some, exO, if_true, sw2]
      · rw [if_neg c, if_pos rfl, ga]
        simp only [Option.map_some, exO, if_true, sw2]
    · rw [if_pos rfl, gb]
      simp only [Option.map_some, exO, if_true, sw2]
      by_cases d : nu ns (j : Int) = nu ns (k : Int)
      · rw [if_pos d, d]
      · rw [if_neg d]
    · have n1 : nu ns (k : Int) ≠ nu ns (i : Int) := fun z => c2 (by have := g.inj _ _ hr hi z; omega)
      have n2 : nu ns (k : Int) ≠ nu ns (j : Int) := fun z => c1 (by have := g.inj _ _ hr hj z; omega)
      rw [if_neg n1, if_neg n2, g.on _ hr _ (prow_at h)]
      simp only [Option.map_some, exO, if_true, sw2, if_neg n1, if_neg n2]
end
theorem rch_congr {row : List OB} {a b : List Int} (h : ∀ w, w ∈ a ↔ w ∈ b) (n : Int) : Rch row a n ↔ Rch row b n := by
  have one : ∀ {a b : List Int}, (∀ w, w ∈ a → w ∈ b) → ∀ n, Rch row a n → Rch row b n := fun h n r => by
    induction r with
    | root hw h1 h2 => exact .root (h _ hw) h1 h2
    | step _ ho hw h1 h2 ih => exact .step ih ho hw h1 h2
  exact ⟨one (fun w => (h w).mp) n, one (fun w => (h w).mpr) n⟩
theorem rl_zero {ns : List Int} (h : nu ns 0 = 0) : rl ns 0 = 0 := by
  rw [rl_even rfl, show (0 : Int) / 2 = 0 from rfl, h]
  rfl

/-- what a space owns, and that nothing else matters -/
theorem SQ.foot {A : Ad} {H : Hp} {a : Addr} {rm en : Int} {row : List OB} {al : Bool × V} {mom : List Int} {na nc : Int} {roots held : List Int} {F : Hp} (Z : SQ A H a rm en row al mom na nc roots held F) :
    ∃ O : Hp, Same O H ∧ (∀ p o, O p = some o → F p = none) ∧ ∀ H' F', Same O H' → Same F' H' → (∀ p o, O p = some o → F' p = none) → SQ A H' a rm en row al mom na nc roots held F' := by
  obtain ⟨dx, s, pr, rt, hl, mo, F1, ⟨dx2, w, d, f, ws, kvs, fr, fs, I, RO⟩, R⟩ := Z
  obtain ⟨mk, m1, m2⟩ := R.hm
  classical
  let O : Hp := fun p => if p = a ∨ p = rt ∨ p = hl ∨ p = mo ∨ p = s ∨ p = w ∨ p = d ∨ p = f then H p else none
  have oe : ∀ p, (p = a ∨ p = rt ∨ p = hl ∨ p = mo ∨ p = s ∨ p = w ∨ p = d ∨ p = f) → O p = H p := fun p h => if_pos h
  have of : ∀ p o, O p = some o → (p = a ∨ p = rt ∨ p = hl ∨ p = mo ∨ p = s ∨ p = w ∨ p = d ∨ p = f) ∧ H p = some o := fun p o h => by
    have h : (if p = a ∨ p = rt ∨ p = hl ∨ p = mo ∨ p = s ∨ p = w ∨ p = d ∨ p = f then H p else none) = some o := h
    split at h
    · rename_i c
      exact ⟨c, h⟩
    · cases h
  obtain ⟨a1, a2⟩ := I.fr _ _ R.ho
  obtain ⟨r1, r2⟩ := I.fr _ _ R.hr
  obtain ⟨h1, h2⟩ := I.fr _ _ R.hh
  obtain ⟨q1, q2⟩ := I.fr _ _ m1
  refine ⟨O, fun p o h => (of p o h).2, fun p o h => ?_, fun H' F' s1 s2 dj => ?_⟩
  · cases e : F p with
    | none => rfl
    | some u =>
      obtain ⟨f1, n1, n2, n3, n4⟩ := R.fr p u e
      obtain ⟨_, n5, n6, n7, n8⟩ := I.fr p u f1
      obtain ⟨c, _⟩ := of p o h
      rcases c with c | c | c | c | c | c | c | c
      · exact absurd c n1
      · exact absurd c n2
      · exact absurd c n3
      · exact absurd c n4
      · exact absurd c n5
      · exact absurd c n6
      · exact absurd c n7
      · exact absurd c n8
  · have g : ∀ p o, (p = a ∨ p = rt ∨ p = hl ∨ p = mo ∨ p = s ∨ p = w ∨ p = d ∨ p = f) → H p = some o → H' p = some o ∧ F' p = none := fun p o c e => by
      have : O p = some o := by rw [oe p c]; exact e
      exact ⟨s1 _ _ this, dj _ _ this⟩
    let F2 : Hp := fun p => if p = a ∨ p = rt ∨ p = hl ∨ p = mo then H p else F' p
    have fe : ∀ p, (p = a ∨ p = rt ∨ p = hl ∨ p = mo) → F2 p = H p := fun p h => if_pos h
    refine ⟨dx, s, pr, rt, hl, mo, F2, ⟨dx2, w, d, f, ws, kvs, fr, fs, ⟨(g _ _ (by simp) I.ho).1, (g _ _ (by simp) I.hw).1, (g _ _ (by simp) I.hd).1, (g _ _ (by simp) I.hf).1, I.ne, fun b u e => ?_⟩, RO⟩, ?_, ?_, ?_, ⟨mk, ?_, m2⟩, R.ne, fun p o e => ?_⟩
    · have e : (if b = a ∨ b = rt ∨ b = hl ∨ b = mo then H b else F' b) = some u := e
      split at e
      · rename_i c
        refine ⟨(g b u (by rcases c with c | c | c | c <;> simp [c]) e).1, ?_⟩
        rcases c with c | c | c | c
        · exact c ▸ a2
        · exact c ▸ r2
        · exact c ▸ h2
        · exact c ▸ q2
      · refine ⟨s2 _ _ e, ?_, ?_, ?_, ?_⟩
        · intro c
          rw [c, (g s _ (by simp) I.ho).2] at e
          cases e
        · intro c
          rw [c, (g w _ (by simp) I.hw).2] at e
          cases e
        · intro c
          rw [c, (g d _ (by simp) I.hd).2] at e
          cases e
        · intro c
          rw [c, (g f _ (by simp) I.hf).2] at e
          cases e
    · rw [fe a (by simp)]; exact a1
    · rw [fe rt (by simp)]; exact r1
    · rw [fe hl (by simp)]; exact h1
    · rw [fe mo (by simp)]; exact q1
    · have k1 : p ≠ a := fun c => by
        rw [c, (g a _ (by simp) a1).2] at e
        cases e
      have k2 : p ≠ rt := fun c => by
        rw [c, (g rt _ (by simp) r1).2] at e
        cases e
      have k3 : p ≠ hl := fun c => by
        rw [c, (g hl _ (by simp) h1).2] at e
        cases e
      have k4 : p ≠ mo := fun c => by
        rw [c, (g mo _ (by simp) q1).2] at e
        cases e
      refine ⟨?_, k1, k2, k3, k4⟩
      show (if p = a ∨ p = rt ∨ p = hl ∨ p = mo then H p else F' p) = some o
      rw [if_neg (by simp [k1, k2, k3, k4])]
      exact e

/-- a plain world: things, roots, held words; and a piece of work over it: the words and the numbers in use, the world that it began with -/
structure PG where
  ts : List TH
  roots : List Int
  held : List Int
structure GS where
  g : PG
  wk : Option (Int × Int × PG)
/-- the real side: the row, the counts, the numbers of things; the row and the numbers that the work began with -/
structure RS where
  row : List OB
  na : Int
  nc : Int
  ns : List Int
  row0 : List OB
  ns0 : List Int
structure Ag (rm en : Int) (g : PG) (row : List OB) (ns : List Int) (n : Nat) : Prop where
  a : Agr g.ts ns row (0 :: (g.roots ++ g.held))
  z : nu ns 0 = 0
  o : Ok rm en row
  r : g.roots.length = 16
  h : g.held.length ≤ n
  t : g.ts.length ≤ n + 1
  s : ∀ t ∈ g.ts, t.sl.length ≤ 100
def Rep (A : Ad) (H : Hp) (sp : Addr) (rm en : Int) (al : Bool) (mom : List Int) (G : Hp) (n : Nat) (S : GS) (r : RS) : Prop :=
  Ag rm en S.g r.row r.ns n ∧ match S.wk with
  | none => SQ A H sp rm en r.row (al, .non) mom r.na r.nc (S.g.roots.map (rl r.ns)) (S.g.held.map (rl r.ns)) G
  | some (u, c, g0) => ((flat r.row).length : Int) = u ∧ ((nums r.row).length : Int) = c ∧ Ag rm en g0 r.row0 r.ns0 n ∧
      ∃ W tk, SQ A H sp rm en r.row (al, .ref tk) mom r.na r.nc (S.g.roots.map (rl r.ns)) (S.g.held.map (rl r.ns)) (My.uni W G) ∧ Wk W tk en r.row0 (g0.roots.map (rl r.ns0)) (g0.held.map (rl r.ns0)) ∧ ∀ p o, W p = some o → G p = none
section
variable {A : Ad} {H H' : Hp} {sp : Addr} {rm en : Int} {al : Bool} {mom : List Int} {G G' : Hp} {n : Nat} {S : GS} {r : RS}
/-- the space whatever its work -/
theorem Rep.sq (h : Rep A H sp rm en al mom G n S r) : ∃ wk W, SQ A H sp rm en r.row (al, wk) mom r.na r.nc (S.g.roots.map (rl r.ns)) (S.g.held.map (rl r.ns)) (My.uni W G) ∧ (∀ p o, W p = some o → G p = none) := by
  obtain ⟨a, h⟩ := h
  split at h
  · refine ⟨.non, fun _ => none, ?_, fun p o e => nomatch (show (none : Option HO) = some o from e)⟩
    have : My.uni (fun _ => none) G = G := funext fun b => uni_right rfl
    rw [this]
    exact h
  · obtain ⟨_, _, _, W, tk, Z, _, d⟩ := h
    exact ⟨_, W, Z, d⟩
theorem Rep.get (h : Rep A H sp rm en al mom G n S r) {p : Addr} {o : HO} (e : G p = some o) : H p = some o := by
  obtain ⟨wk, W, Z, d⟩ := h.sq
  refine Z.get ?_
  rw [uni_right]
  · exact e
  · cases q : W p with
    | none => rfl
    | some u =>
      rw [d p u q] at e
      cases e
theorem Rep.out (h : Rep A H sp rm en al mom G n S r) {p : Addr} (e : H p = none) : G p = none := by
  cases q : G p with
  | none => rfl
  | some o =>
    rw [h.get q] at e
    cases e
theorem Rep.more (h : Rep A H sp rm en al mom G n S r) (s : Same H H') (c : ∀ b o, G' b = some o → G b = some o ∨ (H b = none ∧ H' b = some o)) : Rep A H' sp rm en al mom G' n S r := by
  obtain ⟨a, h⟩ := h
  refine ⟨a, ?_⟩
  split at h
  · rename_i e
    exact SQ.more h s c
  · rename_i u cc g0 e
    obtain ⟨h1, h2, h3, W, tk, Z, k, d⟩ := h
    have wh : ∀ p o, W p = some o → H p = some o := fun p o q => Z.get (uni_l _ _ q)
    refine ⟨h1, h2, h3, W, tk, Z.more s fun b o q => ?_, k, fun p o q => ?_⟩
    · rcases uni_cases q with q | ⟨q, q2⟩
      · exact .inl (uni_l _ _ q)
      · rcases c b o q2 with z | z
        · rw [uni_right q]
          exact .inl z
        · exact .inr z
    · cases z : G' p with
      | none => rfl
      | some v =>
        rcases c p v z with y | y
        · rw [d p o q] at y
          cases y
        · rw [wh p o q] at y
          cases y.1
theorem Rep.same (h : Rep A H sp rm en al mom G n S r) (s : Same H H') : Rep A H' sp rm en al mom G n S r := h.more s fun _ _ e => .inl e
theorem Rep.less (h : Rep A H sp rm en al mom G n S r) (s : Same G' G) : Rep A H sp rm en al mom G' n S r := h.more (fun _ _ e => e) fun _ _ e => .inl (s _ _ e)
theorem Rep.new (h : Rep A H sp rm en al mom G n S r) {p : Addr} {o : HO} (e : H p = none) : Rep A (upd H p o) sp rm en al mom (upd G p o) n S r := h.more (same_new e) fun b u q => by
  by_cases c : b = p
  · subst c
    rw [upd_same] at q
    exact .inr ⟨e, by rw [upd_same]; exact q⟩
  · rw [upd_ne c] at q
    exact .inl q
theorem Rep.grow (h : Rep A H sp rm en al mom G n S r) (s : Same H H') : Rep A H' sp rm en al mom (My.grow G H H') n S r := h.more s fun b o e => by
  unfold My.grow at e
  split at e
  · rename_i q
    exact .inr ⟨q, e⟩
  · exact .inl e
theorem Rep.grow_old (h : Rep A H sp rm en al mom G n S r) : Same G (My.grow G H H') := fun b o e => by
  unfold My.grow
  rw [h.get e]
  exact e
/-- something beside the space changes -/
theorem Rep.set (h : Rep A H sp rm en al mom G n S r) {p : Addr} {o u : HO} (e : G p = some u) : Rep A (upd H p o) sp rm en al mom (upd G p o) n S r := by
  obtain ⟨a, h⟩ := h
  refine ⟨a, ?_⟩
  split at h
  · rename_i q
    exact SQ.set h e
  · rename_i uu cc g0 q
    obtain ⟨h1, h2, h3, W, tk, Z, k, d⟩ := h
    have wn : W p = none := by
      cases z : W p with
      | none => rfl
      | some v =>
        rw [d p v z] at e
        cases e
    have eq : upd (My.uni W G) p o = My.uni W (upd G p o) := funext fun b => by
      by_cases c : b = p
      · subst c
        rw [upd_same, uni_right wn, upd_same]
      · rw [upd_ne c]
        unfold My.uni
        rw [upd_ne c]
    have Z2 := Z.set (o := o) (u := u) (p := p) (by rw [uni_right wn]; exact e)
    rw [eq] at Z2
    exact ⟨h1, h2, h3, W, tk, Z2, k, fun b v q => by
      have := d b v q
      rw [upd_ne (fun c => by subst c; rw [wn] at q; cases q)]
      exact this⟩
theorem Rep.up {n' : Nat} (h : Rep A H sp rm en al mom G n S r) (c : n ≤ n') : Rep A H sp rm en al mom G n' S r := by
  have up : ∀ g row ns, Ag rm en g row ns n → Ag rm en g row ns n' := fun g row ns a => ⟨a.a, a.z, a.o, a.r, Nat.le_trans a.h c, Nat.le_trans a.t (by omega), a.s⟩
  obtain ⟨a, h⟩ := h
  refine ⟨up _ _ _ a, ?_⟩
  split at h
  · rename_i e
    exact h
  · rename_i e
    obtain ⟨h1, h2, h3, h4⟩ := h
    exact ⟨h1, h2, up _ _ _ h3, h4⟩
theorem Rep.foot (h : Rep A H sp rm en al mom G n S r) : ∃ O : Hp, Same O H ∧ (∀ p o, O p = some o → G p = none) ∧ ∀ H' G', Same O H' → Same G' H' → (∀ p o, O p = some o → G' p = none) → Rep A H' sp rm en al mom G' n S r := by
  obtain ⟨a, h⟩ := h
  split at h
  · rename_i e
    obtain ⟨O, o1, o2, o3⟩ := SQ.foot h
    refine ⟨O, o1, o2, fun H' G' s1 s2 d => ⟨a, ?_⟩⟩
    rw [e]
    exact o3 H' G' s1 s2 d
  · rename_i u c g0 e
    obtain ⟨h1, h2, h3, W, tk, Z, k, d⟩ := h
    obtain ⟨O, o1, o2, o3⟩ := SQ.foot Z
    have on : ∀ p o, O p = some o → W p = none := fun p o q => (uni_none (o2 p o q)).1
    refine ⟨My.uni W O, fun p o q => ?_, fun p o q => ?_, fun H' G' s1 s2 dj => ⟨a, ?_⟩⟩
    · rcases uni_cases q with q | ⟨_, q⟩
      · exact Z.get (uni_l _ _ q)
      · exact o1 _ _ q
    · rcases uni_cases q with q | ⟨_, q⟩
      · exact d _ _ q
      · exact (uni_none (o2 _ _ q)).2
    · rw [e]
      refine ⟨h1, h2, h3, W, tk, o3 H' _ (fun p o q => s1 _ _ ?_) (fun p o q => ?_) fun p o q => ?_, k, fun p o q => dj p o (uni_l _ _ q)⟩
      · rw [uni_right (on p o q)]
        exact q
      · rcases uni_cases q with q | ⟨_, q⟩
        · exact s1 _ _ (uni_l _ _ q)
        · exact s2 _ _ q
      · rw [uni_right (on p o q)]
        refine dj p o ?_
        rw [uni_right (on p o q)]
        exact q
end
/-- two spaces, each beside the other -/
def Two (A : Ad) (H : Hp) (one other : Addr) (rm en : Int) (al1 al2 : Bool) (m1 m2 : List Int) (G : Hp) (n : Nat) (S1 S2 : GS) (r1 r2 : RS) : Prop :=
  ∃ F, Rep A H one rm en al1 m1 F n S1 r1 ∧ Rep A F other rm en al2 m2 G n S2 r2
theorem Two.swap {A H one other rm en al1 al2 m1 m2 G n S1 S2 r1 r2} (h : Two A H one other rm en al1 al2 m1 m2 G n S1 S2 r1 r2) : Two A H other one rm en al2 al1 m2 m1 G n S2 S1 r2 r1 := by
  obtain ⟨F, R1, R2⟩ := h
  obtain ⟨O1, a1, a2, a3⟩ := R1.foot
  obtain ⟨O2, b1, b2, b3⟩ := R2.foot
  have d12 : ∀ p o, O2 p = some o → O1 p = none := fun p o q => by
    cases z : O1 p with
    | none => rfl
    | some u =>
      have := a2 p u z
      rw [b1 p o q] at this
      cases this
  have dg : ∀ p o, G p = some o → O1 p = none := fun p o q => by
    cases z : O1 p with
    | none => rfl
    | some u =>
      have := a2 p u z
      rw [R2.get q] at this
      cases this
  refine ⟨My.uni O1 G, b3 H _ (fun p o q => R1.get (b1 _ _ q)) (fun p o q => ?_) (fun p o q => ?_), a3 _ G uni_l (fun p o q => ?_) fun p o q => ?_⟩
  · rcases uni_cases q with q | ⟨_, q⟩
    · exact a1 _ _ q
    · exact R1.get (R2.get q)
  · rw [uni_right (d12 p o q)]
    exact b2 p o q
  · rw [uni_right (dg p o q)]
    exact q
  · cases z : G p with
    | none => rfl
    | some u =>
      have := dg p u z
      rw [q] at this
      cases this
theorem Ag.up {rm en : Int} {g : PG} {row : List OB} {ns : List Int} {n n' : Nat} (a : Ag rm en g row ns n) (c : n ≤ n') : Ag rm en g row ns n' := ⟨a.a, a.z, a.o, a.r, Nat.le_trans a.h c, Nat.le_trans a.t (by omega), a.s⟩
/-- the same work over a changed row -/
theorem Rep.edit {A : Ad} {H : Hp} {sp : Addr} {rm en : Int} {al : Bool} {mom : List Int} {G : Hp} {n : Nat} {S : GS} {r : RS} (h : Rep A H sp rm en al mom G n S r) :
    ∃ wk F, SQ A H sp rm en r.row (al, wk) mom r.na r.nc (S.g.roots.map (rl r.ns)) (S.g.held.map (rl r.ns)) F ∧ Same G F ∧
      ∀ H' row' g' n', SQ A H' sp rm en row' (al, wk) mom r.na r.nc (g'.roots.map (rl r.ns)) (g'.held.map (rl r.ns)) F → Ag rm en g' row' r.ns n' → (flat row').length = (flat r.row).length → (nums row').length = (nums r.row).length → n ≤ n' →
        Rep A H' sp rm en al mom G n' ⟨g', S.wk⟩ ⟨row', r.na, r.nc, r.ns, r.row0, r.ns0⟩ := by
  obtain ⟨a, h⟩ := h
  split at h
  · rename_i e
    refine ⟨.non, G, h, fun _ _ e => e, fun H' row' g' n' Z a' f1 f2 hn => ⟨a', ?_⟩⟩
    rw [e]
    exact Z
  · rename_i u c g0 e
    obtain ⟨h1, h2, h3, W, tk, Z, k, d⟩ := h
    refine ⟨.ref tk, My.uni W G, Z, fun p o q => ?_, fun H' row' g' n' Z' a' f1 f2 hn => ⟨a', ?_⟩⟩
    · rw [uni_right]
      · exact q
      · cases z : W p with
        | none => rfl
        | some v =>
          have := d p v z
          rw [q] at this
          cases this
    · rw [e]
      exact ⟨by rw [f1]; exact h1, by rw [f2]; exact h2, h3.up hn, W, tk, Z', k, d⟩
theorem Live.ex {row : List OB} (nd : (nums row).Nodup) (ws : List Int) : ∃ ks, Live row ws ks := by
  classical
  refine ⟨(nums row).filter fun n => decide (Rch row (0 :: ws) n), List.Pairwise.filter _ nd, fun n => ?_⟩
  rw [List.mem_filter]
  constructor
  · rintro ⟨_, h⟩
    exact of_decide_eq_true h
  · intro h
    exact ⟨h.nums, decide_eq_true h⟩

def sp_lnum : Sp := fun vs H Q _ => ∃ (c k : Int), vs = [.int c, .int k] ∧ ∀ z : Int, Q (.int z) H
theorem sp_lnum_len {vs H Q E} (h : sp_lnum vs H Q E) : vs.length = (["cell", "k"] : List Str).length := by
  obtain ⟨_, _, rfl, _⟩ := h
  rfl
section
variable {P : Program} {w : World} {K : PySem.W.Frag} {mg : Str → Option Value} {base : Heap} {A : Ad}
theorem ok__law_number (T : Txt K mg A) : FnOk P w K mg base CX0 1 A.f__law_number A.d__law_number ["cell", "k"] (sp_lnum) := by
  refine Fun.ok T.F__law_number sc__law_number (fun vs H Q E h => ?_) (fun cdv Ar outer s H vs Q E hr h => ?_)
  · exact sp_lnum_len h
  · have hu := hu_of hr
    refine ⟨_, (pss_cons (ps_if (pt_cmpR op_ge (pv 0) (pe_op op_pow pe_int pe_int) (nomark _)) (pss_one (ps_ret (pv 0))) pss_nil)
    (pss_cons (ps_asg (pe_op op_mod (pe_callTy call_intI (by rfl) T.z_int (by decide +kernel) (pa_cons (pe_op op_add (pe_op op_add (pe_op op_mul (pv 0) pe_int) (pe_op op_mul (pv 1) pe_int)) pe_int) pa_nil)) pe_int) (pg_name (i := 2) sc__law_number.nd rfl (Or.inl rfl)))
    (pss_one (ps_ret (pe_op op_mod (pe_callTy call_intI (by rfl) T.z_int (by decide +kernel) (pa_cons (pe_op op_add (pe_op op_mul (pv 2) (pv 2)) (pe_op op_mul (pv 1) pe_int)) pa_nil)) pe_int))))), ?_⟩
    obtain ⟨c, j, rfl, k⟩ := h
    simp! only [rIsL]
    refine ⟨⟨by decide, by decide, by decide⟩, ite2 (fun _ => k _) (fun _ => ⟨.inr ⟨by decide, by decide⟩, .inr ⟨by decide, by decide⟩, by decide, .inl ⟨?_, ?_⟩, .inr ⟨by decide, by decide⟩, by decide, k _⟩)⟩
    · have := Int.emod_nonneg (c * 48271 + j * 69621 + 11) (show (2147483647 : Int) ≠ 0 by decide)
      omega
    · have := Int.emod_lt_of_pos (c * 48271 + j * 69621 + 11) (show (0 : Int) < 2147483647 by decide)
      omega
end

def sp_ldeeds : Sp := fun vs H Q _ => ∃ (c k : Int), vs = [.int c, .int k] ∧ ∀ (p : Addr) (x y : Int), H p = none → Q (.ref p) (upd H p (.lst [.int x, .int y]))
theorem sp_ldeeds_len {vs H Q E} (h : sp_ldeeds vs H Q E) : vs.length = (["cell", "k"] : List Str).length := by
  obtain ⟨_, _, rfl, _⟩ := h
  rfl
section
variable {P : Program} {w : World} {K : PySem.W.Frag} {mg : Str → Option Value} {base : Heap} {A : Ad}
theorem ok__law_deeds (T : Txt K mg A) : FnOk P w K mg base CX0 2 A.f__law_deeds A.d__law_deeds ["cell", "k"] (sp_ldeeds) := by
  refine Fun.ok T.F__law_deeds sc__law_deeds (fun vs H Q E h => ?_) (fun cdv Ar outer s H vs Q E hr h => ?_)
  · exact sp_ldeeds_len h
  · have hu := hu_of hr
    refine ⟨_, (pss_cons (ps_if (pt_cmpR op_ge (pv 0) (pe_op op_pow pe_int pe_int) (nomark _)) (pss_one (ps_ret (pe_lst (pa_cons (pe_op op_mod (pe_callTy call_intI (by rfl) T.z_int (by decide +kernel) (pa_cons (pv 0) pa_nil)) (pe_op op_pow pe_int pe_int)) (pa_cons (pe_op op_fdivW (pv 0) (pe_op op_pow pe_int pe_int)) pa_nil))))) pss_nil)
    (pss_one (ps_ret (pe_lst (pa_cons (pe_call (ok__law_number T) (hr.mono (by decide)) (by rfl) T.g__law_number T.k__law_number T.b__law_number .nil pass0 (pa_cons (pv 0) (pa_cons (pv 1) pa_nil))) (pa_cons (pe_call (ok__law_number T) (hr.mono (by decide)) (by rfl) T.g__law_number T.k__law_number T.b__law_number .nil pass0 (pa_cons (pv 0) (pa_cons (pe_op op_add (pv 1) pe_int) pa_nil))) pa_nil)))))), ?_⟩
    obtain ⟨c, j, rfl, k⟩ := h
    simp! only [rIsL]
    exact ⟨⟨by decide, by decide, by decide⟩, ite2 (fun _ => ⟨⟨by decide, by decide, by decide⟩, by decide, ⟨by decide, by decide, by decide⟩, ⟨by decide, by decide +kernel⟩, by decide, fun p hp => k p _ _ hp⟩) (fun _ => ⟨_, _, rfl, fun z => ⟨_, _, rfl, fun z2 => ⟨by decide, fun p hp => k p _ _ hp⟩⟩⟩)⟩
end

def lpl (x : Int) : Int := if x % 32 < 16 then x % 32 else x % 32 % 3
theorem lpl_ok (x : Int) : 0 ≤ lpl x ∧ lpl x < 16 := by
  have a0 := Int.emod_nonneg x (show (32 : Int) ≠ 0 by decide)
  have a1 := Int.emod_lt_of_pos x (show (0 : Int) < 32 by decide)
  have b0 := Int.emod_nonneg (x % 32) (show (3 : Int) ≠ 0 by decide)
  have b1 := Int.emod_lt_of_pos (x % 32) (show (0 : Int) < 3 by decide)
  unfold lpl
  split <;> omega

def sp_lplace : Sp := fun vs H Q _ => ∃ (x : Int), vs = [.int x] ∧ ∀ j : Nat, j < 16 → (j : Int) = lpl x → Q (.int (j : Int)) H
theorem sp_lplace_len {vs H Q E} (h : sp_lplace vs H Q E) : vs.length = (["x"] : List Str).length := by
  obtain ⟨_, rfl, _⟩ := h
  rfl
section
variable {P : Program} {w : World} {K : PySem.W.Frag} {mg : Str → Option Value} {base : Heap} {A : Ad}
theorem ok__law_place (T : Txt K mg A) : FnOk P w K mg base CX0 1 A.f__law_place A.d__law_place ["x"] (sp_lplace) := by
  refine Fun.ok T.F__law_place sc__law_place (fun vs H Q E h => ?_) (fun cdv Ar outer s H vs Q E hr h => ?_)
  · exact sp_lplace_len h
  · have hu := hu_of hr
    refine ⟨_, (pss_cons (ps_asg (pe_op op_mod (pe_callTy call_intI (by rfl) T.z_int (by decide +kernel) (pa_cons (pv 0) pa_nil)) pe_int) (pg_name (i := 1) sc__law_place.nd rfl (Or.inl rfl)))
    (pss_cons (ps_if (pt_cmpR op_lt (pv 1) pe_int (nomark _)) (pss_one (ps_ret (pv 1))) pss_nil)
    (pss_one (ps_ret (pe_op op_mod (pv 1) pe_int))))), ?_⟩
    obtain ⟨x, rfl, k⟩ := h
    simp! only [rIsL]
    have := lpl_ok x
    have kk := k (lpl x).toNat (by omega) (Int.toNat_of_nonneg this.1)
    rw [Int.toNat_of_nonneg this.1] at kk
    unfold lpl at kk
    refine ⟨by decide, ite2 (fun c => ?_) (fun c => ⟨by decide, ?_⟩)⟩
    · rw [if_pos c] at kk
      exact kk
    · rw [if_neg c] at kk
      exact kk
end

/-! ### several except clauses that name what they catch -/
def wManyAs (K : PySem.W.Frag) (Wout : WX) (D : Ends) : List (Value × Nat × (Addr → Value → Option Addr → TS)) → WX
  | [] => Wout
  | (c, i, ts) :: r => wAs K c i ts (wManyAs K Wout D r) D
inductive HdsAs (X : Cx) : List ExceptHandler → List (Value × Nat × (Addr → Value → Option Addr → TS)) → Prop
  | nil : HdsAs X [] []
  | cons {x n : Str} {c : Value} {i : Nat} {ts : Addr → Value → Option Addr → TS} {b₀ : Stmt} {suite : List Stmt} {np pos' : Pos} {hds : List ExceptHandler} {l : List (Value × Nat × (Addr → Value → Option Addr → TS))}
      (hi : X.N[i]? = some n) (hln : X.env.kindOf n = some .local) (hc : Names X x c)
      (hsu : ∀ (a : Addr) (oe : Obj) (cls : Value) (d : Option Addr) (pn : List (Addr × Obj)), L2N.Zn cls d oe → (∃ vs, oe.data = .fields vs) → PSs (X.suite a ((a, oe) :: pn)) (b₀ :: suite) (ts a cls d)) (r : HdsAs X hds l) :
      HdsAs X (.ExceptHandler (some (.Name x np)) (some n) (b₀ :: suite) pos' :: hds) ((c, i, ts) :: l)
section
variable {X : Cx} {body : List Stmt} {h₀ : ExceptHandler} {hds : List ExceptHandler} {l : List (Value × Nat × (Addr → Value → Option Addr → TS))} {pos : Pos} {tb : WX → TS} {Wout : WX}
theorem ps_try_manyAs (hs : X.stack = X.env :: X.outer) (hf : X.env.frame = some X.env.locals) (hN : X.N.Nodup) (tk : L2N.Takes X Wout)
    (hb : ∀ (W : WX) (pn : List (Addr × Obj)) (xe : Value → Shared → Prop), L2N.Takes (X.tr pn xe) W → PassesOwn (model X.prog X.w) X.A X.env xe → PSs (X.tr pn xe) body (tb W))
    (hh : HdsAs X (h₀ :: hds) l) : PS X (.Try body (h₀ :: hds) [] [] pos) (fun D σ H => tb (wManyAs X.K Wout D l) D σ H) := by
  refine ⟨fun pins s σ H D I h => ?_⟩
  have ok := I.ok
  have hfr : X.A.frames = some (X.env :: X.outer) := by rw [ok.frames, hs]
  refine wpAny_Try_except ?_
  refine wpAny_mono ((hb (wManyAs X.K Wout D l) (X.pn ++ pins) (fun e s₁ => wpAny (model X.prog X.w) X.A (noteFrame e X.env) (fun _ s₂ => wpAny (model X.prog X.w) X.A (setFlight e none) (fun _ s₃ =>
    wpAny (model X.prog X.w) X.A (handleBy e X.env (h₀ :: hds)) (SP X pins D) X.xe s₃) X.xe s₂) X.xe s₁) (fun u s' xx => ?_) PassesOwn.looking).run [] s σ H D (I.toTry _) h) (fun f s1 hsp => ?_) (fun e s1 he => he)
  · obtain ⟨a, B, sI, pins', σ', H', cls, d, rfl, J', nb, up, sky, na, os, ag, w⟩ := xx
    have J : Inv X pins σ' H' sI := J'.ofTry ok
    have sky' : L2.Sky B (X.env :: X.outer) a (L2N.Zn cls d) X.env.locals s'.heap := by rw [← hs]; exact sky
    show wpAny (model X.prog X.w) X.A (noteFrame (.ref a) X.env) _ _ _
    refine L2N.Sky.land L2N.Zn.steady hfr hf sky' fun h3 fl3 up3 => ?_
    have J3 : Inv X pins σ' H' { s' with heap := h3 } := J.landed nb fl3.1 (up.trans up3) os ag
    obtain ⟨oe3, vs3, he3, hz3, hd3⟩ := fl3.there
    have notFr : ∀ {h : Heap} {o : Obj} {vs : Array Value}, h.FunFrames B (X.env :: X.outer) → h.get? a = some o → o.data = .fields vs → a ∉ frs (X.env :: X.outer) := fun {h o vs} ff e dd hm => by
      obtain ⟨_, o', e', hnf⟩ := ff.mem hm
      rw [e] at e'; cases e'
      exact hnf _ dd
    have nfr := notFr fl3.2.2.1 he3 hd3
    have nL : a ≠ X.env.locals := fun z => nfr (List.mem_filterMap.mpr ⟨X.env, List.mem_cons_self, by rw [hf, z]⟩)
    have nF : a ∉ X.fs := fun hm => by
      obtain ⟨e, he, q⟩ := List.mem_filterMap.mp hm
      exact nfr (List.mem_filterMap.mpr ⟨e, List.mem_cons_of_mem _ he, q⟩)
    have S3 := J3.suite he3 hd3 na nL nF
    have LT : PySem.W.Looks (model X.prog X.w) h3 (typeOf (.ref a)) cls := fun A Q E s k q => wpAny_typeOf_ref (k _ _ he3) (by rw [hz3.1]; exact q)
    have go : ∀ {hds' : List ExceptHandler} {l' : List (Value × Nat × (Addr → Value → Option Addr → TS))}, HdsAs X hds' l' → wManyAs X.K Wout D l' cls d σ' H' →
        wpAny (model X.prog X.w) X.A (handleBy (.ref a) X.env hds') (SP X pins D) X.xe { s' with heap := h3 } := by
      intro hds' l' hk
      induction hk with
      | nil =>
        intro w
        refine wpAny_handleBy_nil ?_
        obtain ⟨k1, k2, k3, oe, vs, T, oT, ts', he, hz, hd, h1, hr⟩ := id fl3
        unfold PySem.passOn
        refine wpAny_bind (wpAny_field he hd h1 ?_)
        rw [if_neg (show ¬ ((Value.ref T == Value.none) = true) from by simp)]
        have fin : wpAny (model X.prog X.w) X.A (setFlight (.ref a) X.env.frame) (fun _ s4 => wpAny (model X.prog X.w) X.A (throw (.ref a) : Sem Flow) (SP X pins D) X.xe s4) X.xe { s' with heap := h3 } := by
          rw [hf]
          refine HandSPX.setFlight_upZ fl3 fun h4 hh4 up4 => wpAny_throw (tk _ _ ?_)
          exact ⟨a, B, sI, pins, σ', H', cls, d, rfl, J, nb, (up.trans up3).trans up4, .inr (.inr (by rw [hs]; exact hh4)), na, os, ag, w⟩
        first
          | exact wpAny_bind (wpAny_pure (wpAny_bind fin))
          | exact wpAny_bind fin
      | @cons x n c i ts b₀ suite np pos' hds2 l2 hi hln hc hsu r ih =>
        intro w
        obtain ⟨b, hb1, hyes, hno⟩ := w
        have hloc : Loc X.env.scope n := .inl hln
        refine wpAny_handleBy_cons (codeAny_handlers_test ?_) (by intro q; cases q)
        have LM := PySem.W.exm_one (M := model X.prog X.w) (J3.kIn) LT hb1
        have test : ∀ {Q : Value → Shared → Prop} {E : Value → Shared → Prop}, Q c { s' with heap := h3 } → wpAny (model X.prog X.w) (X.A.mark (some (.ref a))) (eval (.Name x np) X.env) Q E { s' with heap := h3 } := fun {Q E} q => by
          obtain ⟨hg, hdbg, hm | ⟨hm, hv, hnn⟩⟩ := hc
          · exact ld_glob (X := X.suite a ((a, oe3) :: (X.pn ++ pins))) S3 hg hm q hdbg
          · exact ld_blt (X := X.suite a ((a, oe3) :: (X.pn ++ pins))) S3 hg hm hv q hnn hdbg
        refine test (LM.here ?_)
        cases b with
        | true =>
          refine codeAny_handlers_suite_as ?_
          refine HandSPX.lands_againZ fl3 fun h4 fl4 up4 => ?_
          have J4 : Inv X pins σ' H' { s' with heap := h4 } := J.landed nb fl4.1 ((up.trans up3).trans up4) os ag
          obtain ⟨oe4, vs4, he4, hz4, hd4⟩ := fl4.there
          have S4 := J4.suite he4 hd4 na nL nF
          refine store_ok (X := X.suite a ((a, oe4) :: (X.pn ++ pins))) (v := .ref a) S4 hN hi hloc rfl (fun s5 S5 => ?_) (.inr hln)
          refine wpAny_mono ((hsu a oe4 cls d (X.pn ++ pins) hz4 ⟨_, hd4⟩).run [] s5 _ H' _ S5 (hyes rfl a na)) (fun f s6 hsp => ?_) (fun _ _ z => False.elim z)
          have end_ : ∀ {σ6 : L2.St} {H6 : Hp} {Q : Shared → Prop}, Inv (X.suite a ((a, oe4) :: (X.pn ++ pins))) [] σ6 H6 s6 → (∀ s7, Inv X pins (σ6.set i none) H6 s7 → Q s7) →
              wpAny (model X.prog X.w) X.A (do bindName X.env n .none; unbindBehindTheSuite X.env n pos') (fun _ s7 => Q s7) X.xe s6 := fun {σ6 H6 Q} S6 hq => gone_ok (S6.unsuite ok) hN hi hln hq
          cases f with
          | next =>
            obtain ⟨σ6, H6, S6, q6⟩ := hsp
            exact end_ S6 fun s7 J7 => ⟨_, _, J7, q6⟩
          | brk =>
            obtain ⟨σ6, H6, S6, q6⟩ := hsp
            exact end_ S6 fun s7 J7 => ⟨_, _, J7, q6⟩
          | cont =>
            obtain ⟨σ6, H6, S6, q6⟩ := hsp
            exact end_ S6 fun s7 J7 => ⟨_, _, J7, q6⟩
          | ret u =>
            obtain ⟨v6, σ6, H6, S6, r6, q6⟩ := hsp
            exact end_ S6 fun s7 J7 => ⟨_, _, _, J7, r6, q6⟩
        | false =>
          show wpAny _ X.A (handleBy (.ref a) X.env hds2) _ _ _
          exact ih (hno rfl)
    exact go hh w
  · cases f with
    | next =>
      obtain ⟨σ', H', J', q⟩ := hsp
      exact wpAny_execs_nil ⟨σ', H', J'.ofTry ok, q⟩
    | brk =>
      obtain ⟨σ', H', J', q⟩ := hsp
      exact ⟨σ', H', J'.ofTry ok, q⟩
    | cont =>
      obtain ⟨σ', H', J', q⟩ := hsp
      exact ⟨σ', H', J'.ofTry ok, q⟩
    | ret u =>
      obtain ⟨v, σ', H', J', r, q⟩ := hsp
      exact ⟨v, σ', H', J'.ofTry ok, r, q⟩
end

open Classical in
noncomputable def liveL (g : PG) (kd : Int) : List Int := ((List.range g.ts.length).map fun k : Nat => (k : Int)).filter fun i => decide (Rch (prow g.ts) (0 :: (g.roots ++ g.held ++ [kd])) i)
theorem liveL_live (g : PG) (kd : Int) : Live (prow g.ts) (g.roots ++ g.held ++ [kd]) (liveL g kd) := by
  classical
  refine ⟨List.Pairwise.filter _ (List.pairwise_map.mpr (List.Pairwise.imp (fun {a b} h e => h (by have : (a : Int) = (b : Int) := e; omega)) List.nodup_range)), fun n => ?_⟩
  unfold liveL
  rw [List.mem_filter, List.mem_map]
  constructor
  · rintro ⟨_, h⟩
    exact of_decide_eq_true h
  · intro h
    have := prow_nums.mp h.nums
    exact ⟨⟨n.toNat, by rw [List.mem_range]; omega, Int.toNat_of_nonneg this.1⟩, decide_eq_true h⟩
noncomputable def liveT (g : PG) (kd : Int) : Int := total (prow g.ts) (liveL g kd)
noncomputable def liveN (g : PG) (kd : Int) : Int := ((liveL g kd).length : Int)
theorem live_told {g : PG} {row : List OB} {ns ks : List Int} {kd : Int} (a : Agr g.ts ns row (0 :: (g.roots ++ g.held ++ [kd]))) (z : nu ns 0 = 0) (L : Live row (g.roots.map (rl ns) ++ g.held.map (rl ns) ++ [rl ns kd]) ks) : total row ks = liveT g kd ∧ (ks.length : Int) = liveN g kd := by
  have e : (0 :: (g.roots ++ g.held ++ [kd])).map (rl ns) = 0 :: (g.roots.map (rl ns) ++ g.held.map (rl ns) ++ [rl ns kd]) := by
    rw [List.map_cons, List.map_append, List.map_append, rl_zero z]
    rfl
  have L2 := liveL_live g kd
  have k2 : ∀ n, n ∈ ks ↔ Rch row ((0 :: (g.roots ++ g.held ++ [kd])).map (rl ns)) n := fun n => by rw [e]; exact L.2 n
  exact ⟨a.tot L.1 k2 L2.1 L2.2, by
    have := (a.perm L.1 k2 L2.1 L2.2).length_eq
    rw [List.length_map] at this
    unfold liveN
    omega⟩
def wordG (g : PG) (x : Int) : Int := if x % 4 = 0 then 4 * ((x / 4 * 48271) % 536870912 - 268435456) + 1 else if x % 4 = 1 then 4 * ((x / 4 * 48271) % 100000) + 3 else if x % 4 = 2 ∧ x / 4 % 4 = 0 then 0 else (g.roots[(lpl (x / 4 / 4)).toNat]?).getD 0
theorem wordG_in {g : PG} {x : Int} (h : g.roots.length = 16) : wordG g x % 2 = 0 → wordG g x = 0 ∨ wordG g x ∈ g.roots := fun e => by
  unfold wordG at e ⊢
  split
  · rename_i c
    rw [if_pos c] at e
    omega
  · rename_i c
    rw [if_neg c] at e
    split
    · rename_i c2
      rw [if_pos c2] at e
      omega
    · split
      · exact .inl rfl
      · have := lpl_ok (x / 4 / 4)
        have lt : (lpl (x / 4 / 4)).toNat < g.roots.length := by omega
        rw [List.getElem?_eq_getElem lt]
        exact .inr (List.getElem_mem lt)
def shown (w : Int) : Int := if w % 2 = 1 then w else 0
theorem shown_rl {ns : List Int} {w : Int} : shown (rl ns w) = shown w := by
  unfold shown
  by_cases c : w % 2 = 0
  · have := rl_par (ns := ns).mpr c
    rw [if_neg (by omega), if_neg (by omega)]
  · rw [rl_odd c]
def setR (g : PG) (j : Nat) (w : Int) : PG := ⟨g.ts, g.roots.set j w, g.held⟩
def addG (g : PG) (kd : Int) (m j : Nat) : PG := ⟨g.ts ++ [⟨0, 0, kd, List.replicate m 0⟩], g.roots.set j (2 * (g.ts.length : Int)), g.held⟩
noncomputable def newG (rm en : Int) (S : GS) (kd : Int) (m j : Nat) : GS × List V :=
  match S.wk with
  | none => if rm < liveT S.g kd + (3 + (m : Int)) then (S, [.str "room", .int (3 + (m : Int))]) else if en ≤ liveN S.g kd then (S, [.str "number", .int en]) else (⟨addG S.g kd m j, none⟩, [.str "made", .int (m : Int)])
  | some (u, c, g0) => if rm < u + (3 + (m : Int)) then (S, [.str "room", .int (3 + (m : Int))]) else if en ≤ c then (S, [.str "number", .int en]) else (⟨addG S.g kd m j, some (u + (3 + (m : Int)), c + 1, g0)⟩, [.str "made", .int (m : Int)])
def heldG (S : GS) (deed : Int) (j : Nat) (rest : Int) : GS × List V :=
  if deed = 9 then (⟨⟨S.g.ts, S.g.roots, S.g.held ++ [(S.g.roots[j]?).getD 0]⟩, S.wk⟩, [.str "hold", .int (shown ((S.g.roots[j]?).getD 0))])
  else if deed = 10 then (⟨⟨S.g.ts, S.g.roots, S.g.held.take (S.g.held.length - (rest % ((S.g.held.length : Int) + 1)).toNat)⟩, S.wk⟩, [.str "drop", .int ((S.g.held.take (S.g.held.length - (rest % ((S.g.held.length : Int) + 1)).toNat)).length : Int)])
  else if S.g.held = [] then (S, [.str "held", .int 0])
  else (⟨setR S.g j ((S.g.held[(rest % (S.g.held.length : Int)).toNat]?).getD 0), S.wk⟩, [.str "held", .int (S.g.held.length : Int)])
def thG (g : PG) (i : Nat) : TH := (g.ts[i]?).getD ⟨0, 0, 0, []⟩
def setT (g : PG) (i : Nat) (t : TH) : PG := ⟨g.ts.set i t, g.roots, g.held⟩
def exG (g : PG) (i k : Nat) : PG := ⟨(g.ts.set i (thG g k)).set k (thG g i), g.roots, g.held⟩
def changedG (S : GS) (deed : Int) (j : Nat) (rest : Int) : GS × List V :=
  let word := (S.g.roots[j]?).getD 0
  if word % 2 = 1 then (S, [.str "plain", .int word])
  else
    let i := (word / 2).toNat
    let t := thG S.g i
    let size := (t.sl.length : Int)
    if deed < 9 ∧ 0 < size then
      let at_ := (rest % 64 % size).toNat
      if deed = 8 then (⟨setR S.g (lpl (rest / 64)).toNat ((t.sl[at_]?).getD 0), S.wk⟩, [.str "slot", .int (at_ : Int), .int (shown ((t.sl[at_]?).getD 0))])
      else (⟨setT S.g i { t with sl := t.sl.set at_ (wordG S.g (rest / 64)) }, S.wk⟩, [.str "slot", .int (at_ : Int), .int (shown (wordG S.g (rest / 64)))])
    else if deed = 12 then (⟨setT S.g i { t with k := wordG S.g rest }, S.wk⟩, [.str "object", .int size, .int (shown (wordG S.g rest))])
    else
      let other := (S.g.roots[(lpl rest).toNat]?).getD 0
      if deed = 13 ∧ other % 2 = 0 then (⟨exG S.g i (other / 2).toNat, S.wk⟩, [.str "object", .int size, .int (shown (thG S.g (other / 2).toNat).k)])
      else (S, [.str "object", .int size, .int (shown t.k)])
noncomputable def workG (S : GS) (deed : Int) : GS × List V :=
  match S.wk with
  | none => if deed < 17 then (⟨S.g, some (liveT S.g 0, liveN S.g 0, S.g)⟩, [.str "work", .int deed]) else (S, [.str "wrong", .str "closed"])
  | some (_, _, g0) => if deed < 17 then (S, [.str "wrong", .str "open"]) else if deed = 17 then (⟨S.g, none⟩, [.str "work", .int deed]) else (⟨g0, none⟩, [.str "work", .int deed])
noncomputable def doneG (rm en : Int) (S : GS) (x : Int) : GS × List V :=
  let deed := x % 20
  let j := (lpl (x / 20)).toNat
  let rest := x / 640
  if deed < 4 then
    let m := (if rest / 5 % 16 = 3 then rest / 80 % 60 else rest % 5).toNat
    if deed = 3 then newG rm en ⟨setR S.g j 0, S.wk⟩ ((S.g.roots[j]?).getD 0) m j else newG rm en S (wordG S.g (rest / 80)) m j
  else if deed = 4 then (⟨setR S.g j (wordG S.g rest), S.wk⟩, [.str "root", .int (shown (wordG S.g rest))])
  else if 14 < deed then workG S deed
  else if 9 ≤ deed ∧ deed < 12 then heldG S deed j rest
  else changedG S deed j rest
/-- what a deed leaves of the counts and the row -/
structure Eff (deed : Int) (S S' : GS) (r r' : RS) : Prop where
  new_ : deed < 4 → S.wk ≠ none → r'.na = r.na + 1 ∧ r'.nc = r.nc ∧ (r'.row = r.row ∨ ∃ o, r'.row = r.row ++ [o])
  mid : 4 ≤ deed → deed < 14 → r'.na = r.na ∧ r'.nc = r.nc
  wrong : (S.wk ≠ none → 14 < deed → deed < 17 → r' = r) ∧ (S.wk = none → 16 < deed → r' = r)
  begin_ : S.wk = none → 14 < deed → deed < 17 → r'.na = r.na ∧ r'.nc = r.nc + 1 ∧ r'.ns = r.ns ∧ r'.row0 = r'.row ∧ r'.ns0 = r'.ns
  commit : S.wk ≠ none → deed = 17 → r'.row = r.row ∧ r'.na = r.na ∧ r'.nc = r.nc ∧ r'.ns = r.ns
  abort : S.wk ≠ none → 17 < deed → r'.row = r.row0 ∧ r'.na = r.na ∧ r'.nc = r.nc ∧ r'.ns = r.ns0
  on : S.wk ≠ none → S'.wk ≠ none → r'.row0 = r.row0 ∧ r'.ns0 = r.ns0
/-- a thing is made -/
theorem Ag.made {rm en : Int} {g : PG} {row row1 : List OB} {ns : List Int} {n : Nat} {kd val : Int} {m j : Nat} (a : Ag rm en g row ns n) (ga : Agr g.ts ns row1 (0 :: (g.roots ++ g.held ++ [kd]))) (nf : val ∉ nums row1) (O : Ok rm en (row1 ++ [⟨val, rl ns kd, List.replicate m 0, true⟩])) (hm : m ≤ 100) :
    Ag rm en (addG g kd m j) (row1 ++ [⟨val, rl ns kd, List.replicate m 0, true⟩]) (ns ++ [val]) (n + 1) ∧ (addG g kd m j).roots.map (rl (ns ++ [val])) = (g.roots.map (rl ns)).set j (2 * val) ∧ (addG g kd m j).held.map (rl (ns ++ [val])) = g.held.map (rl ns) := by
  have hln := ga.ln
  have vall : ∀ w ∈ g.roots ++ g.held, Vw ns.length w := fun w hw => by
    rw [hln]
    exact ga.vr w (List.mem_cons_of_mem _ (List.mem_append_left _ hw))
  have rn : rl (ns ++ [val]) (2 * (g.ts.length : Int)) = 2 * val := by
    rw [rl_even (by omega), show 2 * (g.ts.length : Int) / 2 = (ns.length : Int) by omega, nu_last]
  have h0v := ga.vr 0 (List.mem_cons_self ..) rfl
  have z2 : nu (ns ++ [val]) 0 = 0 := by
    rw [nu_add (Int.le_refl _) (by omega)]
    exact a.z
  refine ⟨⟨?_, z2, O, ?_, Nat.le_trans a.h (by omega), ?_, fun x hx => ?_⟩, ?_, ?_⟩
  · exact ga.add (kd := kd) (n := val) (m := m) (p := 0) (q := 0) (ws' := 0 :: (g.roots.set j (2 * (g.ts.length : Int)) ++ g.held)) (List.mem_cons_self ..) (List.mem_cons_of_mem _ (List.mem_append_right _ (List.mem_singleton.mpr rfl))) a.z nf fun w hw => by
      rcases List.mem_cons.mp hw with e | hw
      · exact .inl (e ▸ List.mem_cons_self ..)
      · rcases List.mem_append.mp hw with hw | hw
        · rcases List.mem_or_eq_of_mem_set hw with hw | hw
          · exact .inl (List.mem_cons_of_mem _ (List.mem_append_left _ (List.mem_append_left _ hw)))
          · exact .inr hw
        · exact .inl (List.mem_cons_of_mem _ (List.mem_append_left _ (List.mem_append_right _ hw)))
  · show (g.roots.set j _).length = 16
    rw [List.length_set]
    exact a.r
  · show (g.ts ++ [_]).length ≤ n + 1 + 1
    rw [List.length_append, List.length_singleton]
    have := a.t
    omega
  · rcases List.mem_append.mp hx with hx | hx
    · exact a.s x hx
    · rw [List.mem_singleton] at hx
      subst hx
      show (List.replicate m (0 : Int)).length ≤ 100
      rw [List.length_replicate]
      exact hm
  · show (g.roots.set j (2 * (g.ts.length : Int))).map (rl (ns ++ [val])) = _
    rw [List.map_set, rn]
    congr 1
    exact List.map_congr_left fun w hw => rl_add (vall w (List.mem_append_left _ hw))
  · exact List.map_congr_left fun w hw => rl_add (vall w (List.mem_append_right _ hw))
theorem Agr.less1 {ts ns row} {ro he : List Int} {kd : Int} (g : Agr ts ns row (0 :: (ro ++ he ++ [kd]))) : Agr ts ns row (0 :: (ro ++ he)) := g.mono fun w hw => by
  rcases List.mem_cons.mp hw with e | hw
  · exact e ▸ List.mem_cons_self ..
  · exact List.mem_cons_of_mem _ (List.mem_append_left _ hw)
theorem Eff.of {deed : Int} {S S1 S' : GS} {r r' : RS} (h : S1.wk = S.wk) (e : Eff deed S1 S' r r') : Eff deed S S' r r' :=
  ⟨by rw [← h]; exact e.new_, e.mid, by rw [← h]; exact e.wrong, by rw [← h]; exact e.begin_, by rw [← h]; exact e.commit, by rw [← h]; exact e.abort, by rw [← h]; exact e.on⟩

def sp_lword8 (A : Ad) : Sp := fun vs H Q _ => ∃ (sp : Addr) (rm en : Int) (al : Bool) (mom : List Int) (G : Hp) (n : Nat) (S : GS) (r : RS) (x : Int), vs = [.ref sp, .int x] ∧ Rep A H sp rm en al mom G n S r ∧ Q (.int (rl r.ns (wordG S.g x))) H
theorem sp_lword8_len {A vs H Q E} (h : sp_lword8 A vs H Q E) : vs.length = (["space", "x"] : List Str).length := by
  obtain ⟨_, _, _, _, _, _, _, _, _, _, rfl, _⟩ := h
  rfl
section
variable {P : Program} {w : World} {K : PySem.W.Frag} {mg : Str → Option Value} {base : Heap} {A : Ad}
theorem ok__law_word (T : Txt K mg A) : FnOk P w K mg base CX0 2 A.f__law_word A.d__law_word ["space", "x"] (sp_lword8 A) := by
  refine Fun.ok T.F__law_word sc__law_word (fun vs H Q E h => ?_) (fun cdv Ar outer s H vs Q E hr h => ?_)
  · exact sp_lword8_len h
  · have hu := hu_of hr
    refine ⟨_, (pss_cons (ps_asg (pe_op op_fdiv (pv 1) pe_int) (pg_name (i := 2) sc__law_word.nd rfl (Or.inl rfl)))
    (pss_cons (ps_if (pt_cmpR op_eq (pe_op op_mod (pe_callTy call_intI (by rfl) T.z_int (by decide +kernel) (pa_cons (pv 1) pa_nil)) pe_int) pe_int (nomark _)) (pss_one (ps_ret (pe_op op_add (pe_op op_mul pe_int (pe_op op_sub (pe_op op_mod (pe_callTy call_intI (by rfl) T.z_int (by decide +kernel) (pa_cons (pe_op op_mul (pv 2) pe_int) pa_nil)) pe_int) pe_int)) pe_int))) pss_nil)
    (pss_cons (ps_if (pt_cmpR op_eq (pe_op op_mod (pe_callTy call_intI (by rfl) T.z_int (by decide +kernel) (pa_cons (pv 1) pa_nil)) pe_int) pe_int (nomark _)) (pss_one (ps_ret (pe_op op_add (pe_op op_mul pe_int (pe_op op_mod (pe_callTy call_intI (by rfl) T.z_int (by decide +kernel) (pa_cons (pe_op op_mul (pv 2) pe_int) pa_nil)) pe_int)) pe_int))) pss_nil)
    (pss_cons (ps_if (PW.pt (pw_and (pt_cmpR op_eq (pe_op op_mod (pe_callTy call_intI (by rfl) T.z_int (by decide +kernel) (pa_cons (pv 1) pa_nil)) pe_int) pe_int (nomark _)) (pw_and1 (pt_cmpR op_eq (pe_op op_mod (pe_callTy call_intI (by rfl) T.z_int (by decide +kernel) (pa_cons (pv 2) pa_nil)) pe_int) pe_int (nomark _))))) (pss_one (ps_ret pe_int)) pss_nil)
    (pss_one (ps_ret (pe_meth (pv 0) T.cl_Space T.me_Space_root (ok_Space_root T) (hr.mono (by decide)) T.b_Space_root .nil pass0 (pa_cons (pe_call (ok__law_place T) (hr.mono (by decide)) (by rfl) T.g__law_place T.k__law_place T.b__law_place .nil pass0 (pa_cons (pe_op op_fdiv (pv 2) pe_int) pa_nil)) pa_nil)))))))), ?_⟩
    obtain ⟨sp, rm, en, al, mom, G, n, S, r, x, rfl, R, k⟩ := h
    have ag := R.1
    obtain ⟨wk, W, Z0, wd⟩ := R.sq
    obtain ⟨dx, s, pr, rt, hl, mo, F1, Z⟩ := id Z0
    have ho := Z.ho
    dsimp! only [ho]
    have c0 : ∀ z y : Int, 0 < y → y < 1000 → CDiv z y := fun z y h1 h2 => ⟨by omega, by omega⟩
    have last : ¬ x % 4 = 0 → ¬ x % 4 = 1 → ¬ (x % 4 = 2 ∧ x / 4 % 4 = 0) → sp_lplace [V.int (x / 4 / 4)] H (fun x H1 => sp_root A [V.ref sp, x] H1 Q E0) E0 := fun c1 c2 c3 => ⟨_, rfl, fun j hj ej => by
      have e : wordG S.g x = (S.g.roots[(lpl (x / 4 / 4)).toNat]?).getD 0 := by
        unfold wordG
        rw [if_neg c1, if_neg c2, if_neg c3]
      rw [← ej, Int.toNat_natCast] at e
      have lt : j < S.g.roots.length := by rw [ag.r]; exact hj
      rw [List.getElem?_eq_getElem lt] at e
      have e : wordG S.g x = S.g.roots[j] := e
      exact ⟨sp, rm, en, _, _, _, _, _, _, _, _, j, rl r.ns (wordG S.g x), rfl, Z0, by rw [List.getElem?_map, List.getElem?_eq_getElem lt, e]; rfl, k⟩⟩
    refine ⟨c0 _ _ (by decide) (by decide), by decide, ite2 (fun c => ⟨.inr ⟨by decide, by decide⟩, by decide, .inl ⟨by decide, by decide⟩, ?_⟩) (fun c => ⟨by decide, ite2 (fun c2 => ⟨.inr ⟨by decide, by decide⟩, by decide, .inl ⟨by decide, by decide⟩, ?_⟩) (fun c2 => ⟨by decide, ite2 (fun c3 => ⟨by decide, ite2 (fun c4 => ?_) (fun c4 => ⟨c0 _ _ (by decide) (by decide), last c c2 fun z => c4 z.2⟩)⟩) (fun c3 => ⟨c0 _ _ (by decide) (by decide), last c c2 fun z => c3 z.1⟩)⟩)⟩)⟩
    · have e : wordG S.g x = 4 * ((x / 4 * 48271) % 536870912 - 268435456) + 1 := if_pos c
      rw [e, rl_odd (by omega)] at k
      exact k
    · have e : wordG S.g x = 4 * ((x / 4 * 48271) % 100000) + 3 := by
        unfold wordG
        rw [if_neg c, if_pos c2]
      rw [e, rl_odd (by omega)] at k
      exact k
    · have e : wordG S.g x = 0 := by
        unfold wordG
        rw [if_neg c, if_neg c2, if_pos ⟨c3, c4⟩]
      rw [e, rl_zero ag.z] at k
      exact k
end

def sp_lshown : Sp := fun vs H Q _ => ∃ (w : Int), vs = [.int w] ∧ Q (.int (shown w)) H
theorem sp_lshown_len {vs H Q E} (h : sp_lshown vs H Q E) : vs.length = (["word"] : List Str).length := by
  obtain ⟨_, rfl, _⟩ := h
  rfl
section
variable {P : Program} {w : World} {K : PySem.W.Frag} {mg : Str → Option Value} {base : Heap} {A : Ad}
theorem ok__law_shown (T : Txt K mg A) : FnOk P w K mg base CX0 1 A.f__law_shown A.d__law_shown ["word"] (sp_lshown) := by
  refine Fun.ok T.F__law_shown sc__law_shown (fun vs H Q E h => ?_) (fun cdv Ar outer s H vs Q E hr h => ?_)
  · exact sp_lshown_len h
  · have hu := hu_of hr
    refine ⟨_, (pss_cons (ps_if (pt_cmpR op_eq (pe_op op_mod (pe_callTy call_intI (by rfl) T.z_int (by decide +kernel) (pa_cons (pv 0) pa_nil)) pe_int) pe_int (nomark _)) (pss_one (ps_ret (pv 0))) pss_nil)
    (pss_one (ps_ret pe_int))), ?_⟩
    obtain ⟨w, rfl, k⟩ := h
    unfold shown at k
    simp! only [rIsL]
    refine ⟨by decide, ite2 (fun c => ?_) (fun c => ?_)⟩
    · rw [if_pos c] at k
      exact k
    · rw [if_neg c] at k
      exact k
end

def sp_lnew8 (A : Ad) : Sp := fun vs H Q _ => ∃ (sp : Addr) (rm en : Int) (al : Bool) (mom : List Int) (G : Hp) (n : Nat) (S : GS) (r : RS) (kd : Int) (m j : Nat), vs = [.ref sp, .int (rl r.ns kd), .int (m : Int), .int (j : Int)] ∧ Rep A H sp rm en al mom G n S r ∧ Agr S.g.ts r.ns r.row (0 :: (S.g.roots ++ S.g.held ++ [kd])) ∧ m ≤ 100 ∧ j < 16 ∧ n < 900 ∧ rm ≤ 4000 ∧ 0 ≤ en ∧
  ∀ H' t r', G t = none → Rep A H' sp rm en al mom (upd G t (.lst (newG rm en S kd m j).2)) (n + 1) (newG rm en S kd m j).1 r' → (∀ d, d < 4 → Eff d S (newG rm en S kd m j).1 r r') → Q (.ref t) H'
theorem sp_lnew8_len {A vs H Q E} (h : sp_lnew8 A vs H Q E) : vs.length = (["space", "kind", "size", "place"] : List Str).length := by
  obtain ⟨_, _, _, _, _, _, _, _, _, _, _, _, rfl, _⟩ := h
  rfl
section
variable {P : Program} {w : World} {K : PySem.W.Frag} {mg : Str → Option Value} {base : Heap} {A : Ad}
theorem ok__law_new (T : Txt K mg A) : FnOk P w K mg base CX0 7 A.f__law_new A.d__law_new ["space", "kind", "size", "place"] (sp_lnew8 A) := by
  refine Fun.ok T.F__law_new sc__law_new (fun vs H Q E h => ?_) (fun cdv Ar outer s H vs Q E hr h => ?_)
  · exact sp_lnew8_len h
  · have hu := hu_of hr
    refine ⟨_, (pss_cons (ps_try_manyAs rfl rfl sc__law_new.nd takesN (fun W pn xe tk _ => (pss_one (ps_asg (pe_methE (pv 0) T.cl_Space T.me_Space_new (ok_Space_new T) (hr.mono (by decide)) T.b_Space_new (fun σ => L2N.passAt tk σ) (pa_cons (pv 1) (pa_cons (pv 2) pa_nil))) (pg_name (i := 4) sc__law_new.nd rfl (Or.inl rfl)))))
      (.cons (i := 5) rfl rfl ⟨rfl, by decide, Or.inl T.m_NoRoom⟩
      (fun a oe cls d pn hz hf => (pss_one (ps_ret (pe_lst (pa_cons pe_str (pa_cons (pe_fxs hz hf (pv 5)) pa_nil)))))) (.cons (i := 5) rfl rfl ⟨rfl, by decide, Or.inl T.m_NoNumber⟩
      (fun a oe cls d pn hz hf => (pss_one (ps_ret (pe_lst (pa_cons pe_str (pa_cons (pe_fxs hz hf (pv 5)) pa_nil)))))) .nil)))
    (pss_cons (ps_expr (pe_meth (pv 0) T.cl_Space T.me_Space_set_root (ok_Space_set_root T) (hr.mono (by decide)) T.b_Space_set_root .nil pass0 (pa_cons (pv 3) (pa_cons (pe_op op_mul pe_int (pv 4)) pa_nil))))
    (pss_one (ps_ret (pe_lst (pa_cons pe_str (pa_cons (pe_meth (pe_fld (pv 0) rfl) T.cl_Store T.me_Store_size (ok_Store_size T) (hr.mono (by decide)) T.b_Store_size .nil pass0 (pa_cons (pv 4) pa_nil)) pa_nil))))))), ?_⟩
    obtain ⟨sp, rm, en, al, mom, G, n, S, r, kd, m, j, rfl, R, ga, hm, hj, hn, hrm, he, k⟩ := h
    have ag := R.1
    have osz := ag.o.sz
    have rh : (S.g.roots.map (rl r.ns)).length + (S.g.held.map (rl r.ns)).length ≤ 10000 := by
      rw [List.length_map, List.length_map]
      have := ag.r
      have := ag.h
      omega
    have ef : ∀ (S' : GS) (r' : RS), (S.wk ≠ none → r'.na = r.na + 1 ∧ r'.nc = r.nc ∧ (r'.row = r.row ∨ ∃ o, r'.row = r.row ++ [o])) → r'.row0 = r.row0 ∧ r'.ns0 = r.ns0 → ∀ d, d < 4 → Eff d S S' r r' := fun S' r' h1 h2 d hd => ⟨fun _ => h1, fun c => by omega, ⟨fun _ c => by omega, fun _ c => by omega⟩, fun _ c => by omega, fun _ c => by omega, fun _ c => by omega, fun _ _ => h2⟩
    obtain ⟨_, R2⟩ := R
    cases hw : S.wk with
    | none =>
      rw [hw] at R2
      have Z0 : SQ A H sp rm en r.row (al, .non) mom r.na r.nc (S.g.roots.map (rl r.ns)) (S.g.held.map (rl r.ns)) G := R2
      obtain ⟨dx, s, pr, rt, hl, mo, F1, Z⟩ := id Z0
      have ho := Z.ho
      obtain ⟨ks, L⟩ := Live.ex ag.o.nd (S.g.roots.map (rl r.ns) ++ S.g.held.map (rl r.ns) ++ [rl r.ns kd])
      obtain ⟨lt, ln⟩ := live_told ga ag.z L
      have ke : ∀ n, n ∈ ks ↔ Rch r.row ((0 :: (S.g.roots ++ S.g.held ++ [kd])).map (rl r.ns)) n := fun n => by
        rw [List.map_cons, List.map_append, List.map_append, rl_zero ag.z]
        exact L.2 n
      have gk := ga.keep ke
      have agk : Ag rm en S.g (keep r.row ks) r.ns n := ⟨gk.less1, ag.z, ag.o.keep ks, ag.r, ag.h, ag.t, ag.s⟩
      have nw : newG rm en S kd m j = if rm < liveT S.g kd + (3 + (m : Int)) then (S, [.str "room", .int (3 + (m : Int))]) else if en ≤ liveN S.g kd then (S, [.str "number", .int en]) else (⟨addG S.g kd m j, none⟩, [.str "made", .int (m : Int)]) := by
        unfold newG
        rw [hw]
      have t1 : ¬ ("made" : Str) = "room" := by decide
      have t2 : ¬ ("made" : Str) = "number" := by decide
      have t3 : ¬ ("room" : Str) = "number" := by decide
      have t4 : ¬ ("room" : Str) = "made" := by decide
      have t5 : ¬ ("number" : Str) = "room" := by decide
      have t6 : ¬ ("number" : Str) = "made" := by decide
      have made : ∀ H' (val nc' : Int) row', Res rm en r.row (S.g.roots.map (rl r.ns) ++ S.g.held.map (rl r.ns) ++ [rl r.ns kd]) (al = true ∨ r.na + 1 ∈ mom) r.nc (rl r.ns kd) m "made" val row' nc' → SQ A H' sp rm en row' (al, .non) mom (r.na + 1) nc' ((S.g.roots.map (rl r.ns)).set j (2 * val)) (S.g.held.map (rl r.ns)) G →
          getO row' val = some ⟨val, rl r.ns kd, List.replicate m 0, true⟩ ∧ ∀ p, H' p = none → Q (.ref p) (upd H' p (.lst [.str "made", .int ((List.replicate m (0 : Int)).length : Int)])) := fun H' val nc' row' hr Z' => by
        obtain ⟨q1, q2, q3⟩ := res7 ag.o he L hr
        rw [lt] at q1
        rw [lt, ln] at q2 q3
        have c1 : ¬ rm < liveT S.g kd + (3 + (m : Int)) := fun c => t1 (q1 c).1
        have c2 : ¬ en ≤ liveN S.g kd := fun c => t2 (q2 (by omega) c).1
        obtain ⟨_, v0, v1, row1, r1, fr, rfl, O'⟩ := q3 (by omega) (by omega)
        rw [if_neg c1, if_neg c2] at nw
        have g1 : Agr S.g.ts r.ns row1 (0 :: (S.g.roots ++ S.g.held ++ [kd])) := by
          rcases r1 with e | e
          · rw [e]; exact ga
          · rw [e]; exact gk
        obtain ⟨A1, e1, e2⟩ := ag.made (j := j) g1 fr.2.1 O' hm
        refine ⟨getO_last (q := ⟨val, rl r.ns kd, List.replicate m 0, true⟩) fr.2.1 rfl, fun p hp => ?_⟩
        rw [← e1, ← e2] at Z'
        have RR : Rep A H' sp rm en al mom G (n + 1) ⟨addG S.g kd m j, none⟩ ⟨row1 ++ [⟨val, rl r.ns kd, List.replicate m 0, true⟩], r.na + 1, nc', r.ns ++ [val], r.row0, r.ns0⟩ := ⟨A1, Z'⟩
        rw [nw] at k
        rw [List.length_replicate]
        exact k _ p _ (RR.out hp) (RR.new hp) (ef _ _ (fun c => absurd hw c) ⟨rfl, rfl⟩)
      have fail : ∀ H' (tag : Str) (val nc' : Int) row', Res rm en r.row (S.g.roots.map (rl r.ns) ++ S.g.held.map (rl r.ns) ++ [rl r.ns kd]) (al = true ∨ r.na + 1 ∈ mom) r.nc (rl r.ns kd) m tag val row' nc' → tag ≠ "made" → SQ A H' sp rm en row' (al, .non) mom (r.na + 1) nc' (S.g.roots.map (rl r.ns)) (S.g.held.map (rl r.ns)) G →
          ∀ p, H' p = none → Q (.ref p) (upd H' p (.lst [.str tag, .int val])) := fun H' tag val nc' row' hr nt Z' p hp => by
        obtain ⟨q1, q2, q3⟩ := res7 ag.o he L hr
        rw [lt] at q1
        rw [lt, ln] at q2 q3
        have fin : row' = keep r.row ks → newG rm en S kd m j = (S, [.str tag, .int val]) → Q (.ref p) (upd H' p (.lst [.str tag, .int val])) := fun e1 e2 => by
          subst e1
          have RR : Rep A H' sp rm en al mom G (n + 1) S ⟨keep r.row ks, r.na + 1, nc', r.ns, r.row0, r.ns0⟩ := ⟨agk.up (by omega), by
            rw [hw]
            exact Z'⟩
          rw [e2] at k
          exact k _ p _ (RR.out hp) (RR.new hp) (ef _ _ (fun c => absurd hw c) ⟨rfl, rfl⟩)
        by_cases c1 : rm < liveT S.g kd + (3 + (m : Int))
        · obtain ⟨a1, a2, a3⟩ := q1 c1
          rw [if_pos c1] at nw
          exact fin a3 (by rw [nw, a1, a2])
        · by_cases c2 : en ≤ liveN S.g kd
          · obtain ⟨a1, a2, a3⟩ := q2 (by omega) c2
            rw [if_neg c1, if_pos c2] at nw
            exact fin a3 (by rw [nw, a1, a2])
          · exact absurd (q3 (by omega) (by omega)).1 nt
      dsimp! only [ho]
      refine .inl ⟨sp, rm, en, r.row, (al, .non), mom, r.na, r.nc, _, _, G, rl r.ns kd, m, rfl, rfl, Z0, by omega, rh, fun row1 nc1 hT => ⟨fun c n hn c2 H' Z' => ?_, fun hN ks2 hL => ⟨fun c H' dd hdd Z' => ?_, fun c n hn => ⟨fun c2 H' dd hdd Z' => ?_, fun c2 H' Z' => ?_⟩⟩⟩⟩
      · have hr : Res rm en r.row (S.g.roots.map (rl r.ns) ++ S.g.held.map (rl r.ns) ++ [rl r.ns kd]) (al = true ∨ r.na + 1 ∈ mom) r.nc (rl r.ns kd) m "made" n _ _ := ⟨row1, nc1, hT, .inl ⟨c, hn, c2, rfl, rfl, rfl⟩⟩
        obtain ⟨dx2, s2, pr2, rt2, hl2, mo2, F2, Y2⟩ := id Z'
        refine ⟨_, _, Y2.ho, spF_mset, _, rfl, .inl ⟨by decide, by decide⟩, sp, rm, en, _, _, _, _, _, _, _, _, j, 2 * n, rfl, Z', by rw [List.length_map, ag.r]; exact hj, fun H3 Z3 => ?_⟩
        obtain ⟨go, kk⟩ := made H3 n _ _ hr Z3
        obtain ⟨dx3, s3, pr3, rt3, hl3, mo3, F3, Y3⟩ := id Z3
        obtain ⟨_, _, _, _, _, hs3⟩ := Y3.st.ho
        exact ⟨_, _, _, Y3.ho, T.cl_Space, T.no_Space_store, _, spF_store, s3, rfl, _, _, hs3, stF_msize, s3, rm, en, _, _, _, _, rfl, Y3.st, go, by decide, kk⟩
      · have hr : Res rm en r.row (S.g.roots.map (rl r.ns) ++ S.g.held.map (rl r.ns) ++ [rl r.ns kd]) (al = true ∨ r.na + 1 ∈ mom) r.nc (rl r.ns kd) m "room" _ _ _ := ⟨row1, nc1, hT, .inr ⟨hN, ks2, hL, rfl, .inl ⟨c, rfl, rfl, rfl⟩⟩⟩
        show wManyAs K _ _ _ (.ref A.C_NoRoom) (some dd) _ _
        unfold wManyAs wAs
        refine ⟨true, T.ex_NoRoom_NoRoom, fun _ x hx => ?_, fun z => absurd z (by decide)⟩
        have Z2 := Z'.same (same_new (o := HO.xd [("need", V.int (3 + (m : Int)))]) hdd)
        have gdd : upd H' dd (HO.xd [("need", V.int (3 + (m : Int)))]) dd = some (HO.xd [("need", V.int (3 + (m : Int)))]) := upd_same
        generalize upd H' dd (HO.xd [("need", V.int (3 + (m : Int)))]) = H1 at gdd Z2 ⊢
        simp! only [gdd]
        exact ⟨by decide, fail H1 "room" _ _ _ hr t4 Z2⟩
      · have hr : Res rm en r.row (S.g.roots.map (rl r.ns) ++ S.g.held.map (rl r.ns) ++ [rl r.ns kd]) (al = true ∨ r.na + 1 ∈ mom) r.nc (rl r.ns kd) m "number" _ _ _ := ⟨row1, nc1, hT, .inr ⟨hN, ks2, hL, rfl, .inr ⟨c, n, hn, .inl ⟨c2, rfl, rfl, rfl⟩⟩⟩⟩
        show wManyAs K _ _ _ (.ref A.C_NoNumber) (some dd) _ _
        unfold wManyAs wAs
        refine ⟨false, T.ex_NoNumber_NoRoom, fun z => absurd z (by decide), fun _ => ?_⟩
        unfold wManyAs wAs
        refine ⟨true, T.ex_NoNumber_NoNumber, fun _ x hx => ?_, fun z => absurd z (by decide)⟩
        have Z2 := Z'.same (same_new (o := HO.xd [("limit", V.int en)]) hdd)
        have gdd : upd H' dd (HO.xd [("limit", V.int en)]) dd = some (HO.xd [("limit", V.int en)]) := upd_same
        generalize upd H' dd (HO.xd [("limit", V.int en)]) = H1 at gdd Z2 ⊢
        simp! only [gdd]
        exact ⟨by decide, fail H1 "number" _ _ _ hr t6 Z2⟩
      · have hr : Res rm en r.row (S.g.roots.map (rl r.ns) ++ S.g.held.map (rl r.ns) ++ [rl r.ns kd]) (al = true ∨ r.na + 1 ∈ mom) r.nc (rl r.ns kd) m "made" n _ _ := ⟨row1, nc1, hT, .inr ⟨hN, ks2, hL, rfl, .inr ⟨c, n, hn, .inr ⟨c2, rfl, rfl, rfl⟩⟩⟩⟩
        obtain ⟨dx2, s2, pr2, rt2, hl2, mo2, F2, Y2⟩ := id Z'
        refine ⟨_, _, Y2.ho, spF_mset, _, rfl, .inl ⟨by decide, by decide⟩, sp, rm, en, _, _, _, _, _, _, _, _, j, 2 * n, rfl, Z', by rw [List.length_map, ag.r]; exact hj, fun H3 Z3 => ?_⟩
        obtain ⟨go, kk⟩ := made H3 n _ _ hr Z3
        obtain ⟨dx3, s3, pr3, rt3, hl3, mo3, F3, Y3⟩ := id Z3
        obtain ⟨_, _, _, _, _, hs3⟩ := Y3.st.ho
        exact ⟨_, _, _, Y3.ho, T.cl_Space, T.no_Space_store, _, spF_store, s3, rfl, _, _, hs3, stF_msize, s3, rm, en, _, _, _, _, rfl, Y3.st, go, by decide, kk⟩
    | some wk =>
      obtain ⟨u, c, g0⟩ := wk
      rw [hw] at R2
      obtain ⟨h1, h2, h3, W, tk, Z0, wkk, wd⟩ := R2
      obtain ⟨dx, s, pr, rt, hl, mo, F1, Z⟩ := id Z0
      have ho := Z.ho
      have nw : newG rm en S kd m j = if rm < u + (3 + (m : Int)) then (S, [.str "room", .int (3 + (m : Int))]) else if en ≤ c then (S, [.str "number", .int en]) else (⟨addG S.g kd m j, some (u + (3 + (m : Int)), c + 1, g0)⟩, [.str "made", .int (m : Int)]) := by
        unfold newG
        rw [hw]
      have fail : ∀ H' (tag : Str) (val : Int), newG rm en S kd m j = (S, [.str tag, .int val]) → SQ A H' sp rm en r.row (al, .ref tk) mom (r.na + 1) r.nc (S.g.roots.map (rl r.ns)) (S.g.held.map (rl r.ns)) (My.uni W G) →
          ∀ p, H' p = none → Q (.ref p) (upd H' p (.lst [.str tag, .int val])) := fun H' tag val e Z' p hp => by
        have RR : Rep A H' sp rm en al mom G (n + 1) S ⟨r.row, r.na + 1, r.nc, r.ns, r.row0, r.ns0⟩ := ⟨ag.up (by omega), by
          rw [hw]
          exact ⟨h1, h2, h3.up (by omega), W, tk, Z', wkk, wd⟩⟩
        rw [e] at k
        exact k _ p _ (RR.out hp) (RR.new hp) (ef _ _ (fun _ => ⟨rfl, rfl, .inl rfl⟩) ⟨rfl, rfl⟩)
      dsimp! only [ho]
      refine .inr ⟨sp, rm, en, r.row, (al, .ref tk), mom, r.na, r.nc, _, _, My.uni W G, rl r.ns kd, m, rfl, ⟨tk, rfl⟩, Z0, by omega, fun c1 H' dd hdd Z' => ?_, fun c1 nn hn => ⟨fun c2 H' dd hdd Z' => ?_, fun c2 H' Z' => ?_⟩⟩
      · show wManyAs K _ _ _ (.ref A.C_NoRoom) (some dd) _ _
        unfold wManyAs wAs
        refine ⟨true, T.ex_NoRoom_NoRoom, fun _ x hx => ?_, fun z => absurd z (by decide)⟩
        have Z2 := Z'.same (same_new (o := HO.xd [("need", V.int (3 + (m : Int)))]) hdd)
        have gdd : upd H' dd (HO.xd [("need", V.int (3 + (m : Int)))]) dd = some (HO.xd [("need", V.int (3 + (m : Int)))]) := upd_same
        generalize upd H' dd (HO.xd [("need", V.int (3 + (m : Int)))]) = H1 at gdd Z2 ⊢
        rw [if_pos (by omega)] at nw
        simp! only [gdd]
        exact ⟨by decide, fail H1 "room" _ nw Z2⟩
      · show wManyAs K _ _ _ (.ref A.C_NoNumber) (some dd) _ _
        unfold wManyAs wAs
        refine ⟨false, T.ex_NoNumber_NoRoom, fun z => absurd z (by decide), fun _ => ?_⟩
        unfold wManyAs wAs
        refine ⟨true, T.ex_NoNumber_NoNumber, fun _ x hx => ?_, fun z => absurd z (by decide)⟩
        have Z2 := Z'.same (same_new (o := HO.xd [("limit", V.int en)]) hdd)
        have gdd : upd H' dd (HO.xd [("limit", V.int en)]) dd = some (HO.xd [("limit", V.int en)]) := upd_same
        generalize upd H' dd (HO.xd [("limit", V.int en)]) = H1 at gdd Z2 ⊢
        have fi := free_iff ag.o he hn
        rw [if_neg (by omega), if_pos (by omega)] at nw
        simp! only [gdd]
        exact ⟨by decide, fail H1 "number" _ nw Z2⟩
      · have fi := free_iff ag.o he hn
        rw [if_neg (by omega), if_neg (by omega)] at nw
        obtain ⟨dx2, s2, pr2, rt2, hl2, mo2, F2, Y2⟩ := id Z'
        refine ⟨_, _, Y2.ho, spF_mset, _, rfl, .inl ⟨by decide, by decide⟩, sp, rm, en, _, _, _, _, _, _, _, _, j, 2 * nn, rfl, Z', by rw [List.length_map, ag.r]; exact hj, fun H3 Z3 => ?_⟩
        have go := getO_last (row := r.row) (q := ⟨nn, rl r.ns kd, List.replicate m 0, true⟩) hn.2.1 rfl
        obtain ⟨dx3, s3, pr3, rt3, hl3, mo3, F3, Y3⟩ := id Z3
        obtain ⟨_, _, _, _, _, hs3⟩ := Y3.st.ho
        have O' := ag.o.add (kd := rl r.ns kd) (m := m) hn c2 c1
        obtain ⟨A1, e1, e2⟩ := ag.made (j := j) ga hn.2.1 O' hm
        refine ⟨_, _, _, Y3.ho, T.cl_Space, T.no_Space_store, _, spF_store, s3, rfl, _, _, hs3, stF_msize, s3, rm, en, _, _, _, _, rfl, Y3.st, go, by decide, fun p hp => ?_⟩
        rw [← e1, ← e2] at Z3
        have RR : Rep A H3 sp rm en al mom G (n + 1) ⟨addG S.g kd m j, some (u + (3 + (m : Int)), c + 1, g0)⟩ ⟨r.row ++ [⟨nn, rl r.ns kd, List.replicate m 0, true⟩], r.na + 1, r.nc, r.ns ++ [nn], r.row0, r.ns0⟩ := ⟨A1, by
          rw [flat_app, flat_one, List.length_append, flatO_len, List.length_replicate]
          omega, by
          rw [nums_add rfl, List.length_append]
          show (((nums r.row).length + 1 : Nat) : Int) = c + 1
          omega, h3.up (by omega), W, tk, Z3, wkk, wd⟩
        rw [nw] at k
        show Q (.ref p) (upd H3 p (HO.lst [V.str "made", V.int ((List.replicate m (0 : Int)).length : Int)]))
        rw [List.length_replicate]
        exact k _ p _ (RR.out hp) (RR.new hp) (ef _ _ (fun _ => ⟨rfl, rfl, .inr ⟨_, rfl⟩⟩) ⟨rfl, rfl⟩)
end

def sp_lheld8 (A : Ad) : Sp := fun vs H Q _ => ∃ (sp : Addr) (rm en : Int) (al : Bool) (mom : List Int) (G : Hp) (n : Nat) (S : GS) (r : RS) (deed : Int) (j : Nat) (rest : Int), vs = [.ref sp, .int deed, .int (j : Int), .int rest] ∧ Rep A H sp rm en al mom G n S r ∧ j < 16 ∧ n < 900 ∧ 9 ≤ deed ∧ deed < 12 ∧
  ∀ H' t r', G t = none → Rep A H' sp rm en al mom (upd G t (.lst (heldG S deed j rest).2)) (n + 1) (heldG S deed j rest).1 r' → Eff deed S (heldG S deed j rest).1 r r' → Q (.ref t) H'
theorem sp_lheld8_len {A vs H Q E} (h : sp_lheld8 A vs H Q E) : vs.length = (["space", "deed", "place", "rest"] : List Str).length := by
  obtain ⟨_, _, _, _, _, _, _, _, _, _, _, _, rfl, _⟩ := h
  rfl
section
variable {P : Program} {w : World} {K : PySem.W.Frag} {mg : Str → Option Value} {base : Heap} {A : Ad}
theorem ok__law_held (T : Txt K mg A) : FnOk P w K mg base CX0 2 A.f__law_held A.d__law_held ["space", "deed", "place", "rest"] (sp_lheld8 A) := by
  refine Fun.ok T.F__law_held sc__law_held (fun vs H Q E h => ?_) (fun cdv Ar outer s H vs Q E hr h => ?_)
  · exact sp_lheld8_len h
  · have hu := hu_of hr
    refine ⟨_, (pss_cons (ps_asg (pe_slice sl_listM (pe_meth0 (pv 0) T.cl_Space T.me_Space_all_roots (ok_Space_all_roots T) (hr.mono (by decide)) T.b_Space_all_roots .nil pass0) (po_some pe_int) po_none) (pg_name (i := 4) sc__law_held.nd rfl (Or.inl rfl)))
    (pss_cons (ps_if (pt_cmpR op_eq (pv 1) pe_int (nomark _)) (pss_one (ps_ret (pe_lst (pa_cons pe_str (pa_cons (pe_call (ok__law_shown T) (hr.mono (by decide)) (by rfl) T.g__law_shown T.k__law_shown T.b__law_shown .nil pass0 (pa_cons (pe_meth (pv 0) T.cl_Space T.me_Space_hold (ok_Space_hold T) (hr.mono (by decide)) T.b_Space_hold .nil pass0 (pa_cons (pe_meth (pv 0) T.cl_Space T.me_Space_root (ok_Space_root T) (hr.mono (by decide)) T.b_Space_root .nil pass0 (pa_cons (pv 2) pa_nil)) pa_nil)) pa_nil)) pa_nil))))) pss_nil)
    (pss_cons (ps_if (pt_cmpR op_eq (pv 1) pe_int (nomark _)) (pss_cons (ps_expr (pe_meth (pv 0) T.cl_Space T.me_Space_drop (ok_Space_drop T) (hr.mono (by decide)) T.b_Space_drop .nil pass0 (pa_cons (pe_op op_mod (pe_callTy call_intI (by rfl) T.z_int (by decide +kernel) (pa_cons (pv 3) pa_nil)) (pe_op op_add (pe_callB call_lenM (by rfl) T.z_len PySem.boot_len (pa_cons (pv 4) pa_nil)) pe_int)) pa_nil)))
    (pss_one (ps_ret (pe_lst (pa_cons pe_str (pa_cons (pe_meth0 (pv 0) T.cl_Space T.me_Space_held (ok_Space_held T) (hr.mono (by decide)) T.b_Space_held .nil pass0) pa_nil)))))) pss_nil)
    (Evl.pss_cut (ps_if (pt_truth (pv 4) (by intro _; rfl)) (pss_one (ps_expr (pe_meth (pv 0) T.cl_Space T.me_Space_set_root (ok_Space_set_root T) (hr.mono (by decide)) T.b_Space_set_root .nil pass0 (pa_cons (pv 2) (pa_cons (pe_ix ix_lstM (pv 4) (pe_op op_mod (pe_callTy call_intI (by rfl) T.z_int (by decide +kernel) (pa_cons (pv 3) pa_nil)) (pe_callB call_lenM (by rfl) T.z_len PySem.boot_len (pa_cons (pv 4) pa_nil))) (fun _ _ => rfl)) pa_nil))))) pss_nil)
    (pss_one (ps_ret (pe_lst (pa_cons pe_str (pa_cons (pe_callB call_lenM (by rfl) T.z_len PySem.boot_len (pa_cons (pv 4) pa_nil)) pa_nil))))))))), ?_⟩
    obtain ⟨sp, rm, en, al, mom, G, n, S, r, deed, j, rest, rfl, R, hj, hn, d1, d2, k⟩ := h
    have ag := R.1
    have agr := ag.r
    have agh := ag.h
    have sz : (300000 : Nat) ≤ sizeLine := by decide
    have ef : ∀ (S' : GS) (r' : RS), r'.na = r.na ∧ r'.nc = r.nc → r'.row0 = r.row0 ∧ r'.ns0 = r.ns0 → Eff deed S S' r r' := fun S' r' h1 h2 => ⟨fun c => by omega, fun _ _ => h1, ⟨fun _ c => by omega, fun _ c => by omega⟩, fun _ c => by omega, fun _ c => by omega, fun _ c => by omega, fun _ _ => h2⟩
    obtain ⟨wk, F, Z0, sg, mk⟩ := R.edit
    obtain ⟨dx, s, pr, rt, hl, mo, F1, Z⟩ := id Z0
    have ho := Z.ho
    dsimp! only [ho]
    refine ⟨sp, rm, en, _, _, _, _, _, _, _, _, rfl, Z0, by rw [List.length_map, List.length_map]; omega, fun H1 p sm1 hp gp => ⟨p, rfl, ?_⟩⟩
    rw [gp]
    dsimp only
    have cut : cutV ((0 :: (S.g.roots.map (rl r.ns) ++ S.g.held.map (rl r.ns))).map V.int) (some 17) none = (S.g.held.map (rl r.ns)).map V.int := by
      rw [show (17 : Int) = ((17 : Nat) : Int) from rfl, cutV_from, ← List.map_drop, List.drop_succ_cons, List.drop_append_of_le_length (by rw [List.length_map]; omega), List.drop_of_length_le (by rw [List.length_map]; omega), List.nil_append]
    rw [cut]
    intro l hl
    have sm2 : Same H (upd H1 l (HO.lst ((S.g.held.map (rl r.ns)).map V.int))) := same_trans sm1 (same_new hl)
    have gl : upd H1 l (HO.lst ((S.g.held.map (rl r.ns)).map V.int)) l = some (.lst ((S.g.held.map (rl r.ns)).map V.int)) := upd_same
    have gn : G l = none := R.out (none_of sm1 hl)
    have hF : F l = none := Z0.out (none_of sm1 hl)
    have Z2 := (Z0.same sm1).new (o := HO.lst ((S.g.held.map (rl r.ns)).map V.int)) hl
    generalize upd H1 l (HO.lst ((S.g.held.map (rl r.ns)).map V.int)) = H2 at sm2 gl Z2 ⊢
    have Y2 := Z.same sm2
    have ho2 := Y2.ho
    clear sm1 hp gp cut hl
    have Z2L := Z2
    have Z2 := Z2.less (same_new hF)
    have hlt : j < S.g.roots.length := by omega
    have ew : (S.g.roots[j]?).getD 0 = S.g.roots[j] := by
      rw [List.getElem?_eq_getElem hlt]
      rfl
    have rj : (S.g.roots.map (rl r.ns))[j]? = some (rl r.ns S.g.roots[j]) := by rw [List.getElem?_map, List.getElem?_eq_getElem hlt]; rfl
    have wm := List.getElem_mem hlt
    refine ite2 (fun c9 => ?_) (fun c9 => ite2 (fun c10 => ?_) (fun c10 => ?_))
    · refine ⟨_, _, ho2, spF_mhold, _, _, ho2, spF_mroot, sp, rm, en, _, _, _, _, _, _, _, _, j, _, rfl, Z2, rj, sp, rm, en, _, _, _, _, _, _, _, _, _, rfl, Z2, by rw [List.length_map]; omega, fun H3 Z3 => ⟨_, rfl, ?_⟩⟩
      rw [shown_rl]
      refine ⟨by omega, fun t ht => ?_⟩
      have e : heldG S deed j rest = (⟨⟨S.g.ts, S.g.roots, S.g.held ++ [S.g.roots[j]]⟩, S.wk⟩, [.str "hold", .int (shown S.g.roots[j])]) := by
        unfold heldG
        rw [if_pos c9, ew]
      have RR := mk H3 r.row ⟨S.g.ts, S.g.roots, S.g.held ++ [S.g.roots[j]]⟩ (n + 1) (by
        show SQ A H3 sp rm en r.row (al, wk) mom r.na r.nc (S.g.roots.map (rl r.ns)) ((S.g.held ++ [S.g.roots[j]]).map (rl r.ns)) F
        rw [List.map_append]
        exact Z3) ⟨ag.a.mono fun w hw => by
          rcases List.mem_cons.mp hw with e | hw
          · exact e ▸ List.mem_cons_self ..
          · rcases List.mem_append.mp hw with hw | hw
            · exact List.mem_cons_of_mem _ (List.mem_append_left _ hw)
            · rcases List.mem_append.mp hw with hw | hw
              · exact List.mem_cons_of_mem _ (List.mem_append_right _ hw)
              · rw [List.mem_singleton] at hw
                exact hw ▸ List.mem_cons_of_mem _ (List.mem_append_left _ wm), ag.z, ag.o, ag.r, by
          show (S.g.held ++ [S.g.roots[j]]).length ≤ n + 1
          rw [List.length_append, List.length_singleton]
          omega, Nat.le_trans ag.t (by omega), ag.s⟩ rfl rfl (by omega)
      rw [e] at k
      exact k _ t _ (RR.out ht) (RR.new ht) (ef _ _ ⟨rfl, rfl⟩ ⟨rfl, rfl⟩)
    · have a0 := Int.emod_nonneg rest (show ((S.g.held.length : Int) + 1) ≠ 0 by omega)
      have a1 := Int.emod_lt_of_pos rest (show (0 : Int) < (S.g.held.length : Int) + 1 by omega)
      obtain ⟨c, ec⟩ : ∃ c : Nat, rest % ((S.g.held.length : Int) + 1) = (c : Int) := ⟨_, (Int.toNat_of_nonneg a0).symm⟩
      have e : heldG S deed j rest = (⟨⟨S.g.ts, S.g.roots, S.g.held.take (S.g.held.length - c)⟩, S.wk⟩, [.str "drop", .int ((S.g.held.take (S.g.held.length - c)).length : Int)]) := by
        unfold heldG
        rw [if_neg c9, if_pos c10, ec, Int.toNat_natCast]
      rw [List.length_map, List.length_map, ec]
      refine ⟨_, _, ho2, spF_mdrop, by omega, sp, rm, en, _, _, _, _, _, _, _, _, c, rfl, Z2, by rw [List.length_map]; omega, fun H3 Z3 => ?_⟩
      obtain ⟨dx3, s3, pr3, rt3, hl3, mo3, F3, Y3⟩ := id Z3
      refine ⟨_, _, Y3.ho, spF_mheld, sp, rm, en, _, _, _, _, _, _, _, _, rfl, Z3, by omega, fun t ht => ?_⟩
      have RR := mk H3 r.row ⟨S.g.ts, S.g.roots, S.g.held.take (S.g.held.length - c)⟩ (n + 1) (by
        show SQ A H3 sp rm en r.row (al, wk) mom r.na r.nc (S.g.roots.map (rl r.ns)) ((S.g.held.take (S.g.held.length - c)).map (rl r.ns)) F
        rw [List.map_take]
        rw [List.length_map] at Z3
        exact Z3) ⟨ag.a.mono fun w hw => by
          rcases List.mem_cons.mp hw with e | hw
          · exact e ▸ List.mem_cons_self ..
          · rcases List.mem_append.mp hw with hw | hw
            · exact List.mem_cons_of_mem _ (List.mem_append_left _ hw)
            · exact List.mem_cons_of_mem _ (List.mem_append_right _ (List.mem_of_mem_take hw)), ag.z, ag.o, ag.r, by
          show (S.g.held.take (S.g.held.length - c)).length ≤ n + 1
          rw [List.length_take]
          omega, Nat.le_trans ag.t (by omega), ag.s⟩ rfl rfl (by omega)
      rw [e] at k
      have el : (((S.g.held.map (rl r.ns)).take ((S.g.held.map (rl r.ns)).length - c)).length : Int) = ((S.g.held.take (S.g.held.length - c)).length : Int) := by
        rw [List.length_take, List.length_take, List.length_map]
      rw [el]
      exact k _ t _ (RR.out ht) (RR.new ht) (ef _ _ ⟨rfl, rfl⟩ ⟨rfl, rfl⟩)
    · have e : heldG S deed j rest = if S.g.held = [] then (S, [.str "held", .int 0]) else (⟨setR S.g j ((S.g.held[(rest % (S.g.held.length : Int)).toNat]?).getD 0), S.wk⟩, [.str "held", .int (S.g.held.length : Int)]) := by
        unfold heldG
        rw [if_neg c9, if_neg c10]
      refine ⟨fun σ3 H3 => σ3 = [some (V.ref sp), some (V.int deed), some (V.int (j : Int)), some (V.int rest), some (V.ref l)] ∧ ∃ g', SQ A H3 sp rm en r.row (al, wk) mom r.na r.nc (g'.roots.map (rl r.ns)) (S.g.held.map (rl r.ns)) (upd F l (HO.lst ((S.g.held.map (rl r.ns)).map V.int))) ∧ g'.ts = S.g.ts ∧ g'.held = S.g.held ∧ Ag rm en g' r.row r.ns n ∧ heldG S deed j rest = (⟨g', S.wk⟩, [.str "held", .int (S.g.held.length : Int)]), ?_, ?_⟩
      · dsimp! only [gl, ho2, List.length_map]
        refine ⟨!((S.g.held.map (rl r.ns)).map V.int).isEmpty, .inl ⟨_, .inl (.inl gl), rfl⟩, ?_⟩
        by_cases c : S.g.held = []
        · have ie : ((S.g.held.map (rl r.ns)).map V.int).isEmpty = true := by rw [c]; rfl
          rw [ie, if_neg (by decide)]
          exact ⟨S.g, Z2L, rfl, rfl, ag, by rw [e, if_pos c, c]; rfl⟩
        · have lp : 0 < S.g.held.length := List.length_pos_iff.mpr c
          have ie : ((S.g.held.map (rl r.ns)).map V.int).isEmpty = false := by
            cases q : S.g.held with
            | nil => exact absurd q c
            | cons x xs => rfl
          rw [ie, if_pos (by decide)]
          have a0 := Int.emod_nonneg rest (show (S.g.held.length : Int) ≠ 0 by omega)
          have a1 := Int.emod_lt_of_pos rest (show (0 : Int) < (S.g.held.length : Int) by omega)
          obtain ⟨cN, ec⟩ : ∃ c : Nat, rest % (S.g.held.length : Int) = (c : Int) := ⟨_, (Int.toNat_of_nonneg a0).symm⟩
          rw [ec] at a1 ⊢
          have lt : cN < S.g.held.length := by omega
          have hm := List.getElem_mem lt
          have e2 : heldG S deed j rest = (⟨setR S.g j S.g.held[cN], S.wk⟩, [.str "held", .int (S.g.held.length : Int)]) := by
            rw [e, if_neg c, ec, Int.toNat_natCast, List.getElem?_eq_getElem lt]
            rfl
          generalize hw : S.g.held[cN] = w at hm e2
          have at1 : atI ((S.g.held.map (rl r.ns)).map V.int) (cN : Int) = some (.int (rl r.ns w)) := atI_nat (by rw [List.getElem?_map, List.getElem?_map, List.getElem?_eq_getElem lt, hw]; rfl)
          refine ⟨by omega, _, at1, sp, rm, en, _, _, _, _, _, _, _, _, j, _, rfl, Z2L, by rw [List.length_map]; omega, fun H3 Z3 => ⟨setR S.g j w, ?_, rfl, rfl, ?_, e2⟩⟩
          · show SQ A H3 sp rm en r.row (al, wk) mom r.na r.nc ((S.g.roots.set j w).map (rl r.ns)) _ _
            rw [List.map_set]
            exact Z3
          · have mw : w ∈ (0 : Int) :: (S.g.roots ++ S.g.held) := List.mem_cons_of_mem _ (List.mem_append_right _ hm)
            exact ⟨ag.a.root (ag.a.vr w mw) (fun q => ag.a.rt mw q), ag.z, ag.o, by
              show (S.g.roots.set j w).length = 16
              rw [List.length_set]
              exact ag.r, ag.h, ag.t, ag.s⟩
      · rintro σ3 H3 ⟨rfl, g', Z3, et, eh, ag', eg⟩
        have gl3 := Z3.get upd_same
        simp! only [gl3, List.length_map]
        refine ⟨by omega, fun t ht => ?_⟩
        have Z3 := Z3.less (same_new hF)
        rw [← eh] at Z3
        have RR := mk H3 r.row g' (n + 1) Z3 (ag'.up (by omega)) rfl rfl (by omega)
        rw [eg] at k
        exact k _ t _ (RR.out ht) (RR.new ht) (ef _ _ ⟨rfl, rfl⟩ ⟨rfl, rfl⟩)
end

def sp_lchg8 (A : Ad) : Sp := fun vs H Q _ => ∃ (sp : Addr) (rm en : Int) (al : Bool) (mom : List Int) (G : Hp) (n : Nat) (S : GS) (r : RS) (deed : Int) (j : Nat) (rest : Int), vs = [.ref sp, .int deed, .int (j : Int), .int rest] ∧ Rep A H sp rm en al mom G n S r ∧ j < 16 ∧ n < 900 ∧ 4 ≤ deed ∧ deed < 14 ∧
  ∀ H' t r', G t = none → Rep A H' sp rm en al mom (upd G t (.lst (changedG S deed j rest).2)) (n + 1) (changedG S deed j rest).1 r' → Eff deed S (changedG S deed j rest).1 r r' → Q (.ref t) H'
theorem sp_lchg8_len {A vs H Q E} (h : sp_lchg8 A vs H Q E) : vs.length = (["space", "deed", "place", "rest"] : List Str).length := by
  obtain ⟨_, _, _, _, _, _, _, _, _, _, _, _, rfl, _⟩ := h
  rfl
section
variable {P : Program} {w : World} {K : PySem.W.Frag} {mg : Str → Option Value} {base : Heap} {A : Ad}
theorem ok__law_changed (T : Txt K mg A) : FnOk P w K mg base CX0 3 A.f__law_changed A.d__law_changed ["space", "deed", "place", "rest"] (sp_lchg8 A) := by
  refine Fun.ok T.F__law_changed sc__law_changed (fun vs H Q E h => ?_) (fun cdv Ar outer s H vs Q E hr h => ?_)
  · exact sp_lchg8_len h
  · have hu := hu_of hr
    refine ⟨_, (pss_cons (ps_asg (pe_meth (pv 0) T.cl_Space T.me_Space_root (ok_Space_root T) (hr.mono (by decide)) T.b_Space_root .nil pass0 (pa_cons (pv 2) pa_nil)) (pg_name (i := 4) sc__law_changed.nd rfl (Or.inl rfl)))
    (pss_cons (ps_if (pt_cmpR op_eq (pe_op op_mod (pe_callTy call_intI (by rfl) T.z_int (by decide +kernel) (pa_cons (pv 4) pa_nil)) pe_int) pe_int (nomark _)) (pss_one (ps_ret (pe_lst (pa_cons pe_str (pa_cons (pv 4) pa_nil))))) pss_nil)
    (pss_cons (ps_asg (pe_meth (pe_fld (pv 0) rfl) T.cl_Store T.me_Store_size (ok_Store_size T) (hr.mono (by decide)) T.b_Store_size .nil pass0 (pa_cons (pe_op op_fdiv (pv 4) pe_int) pa_nil)) (pg_name (i := 5) sc__law_changed.nd rfl (Or.inl rfl)))
    (Evl.pss_cut (ps_if (PW.pt (pw_and (pt_cmpR op_lt (pv 1) pe_int (nomark _)) (pw_and1 (pt_cmpR op_gt (pv 5) pe_int (nomark _))))) (pss_cons (ps_asg (pe_op op_mod (pe_op op_mod (pe_callTy call_intI (by rfl) T.z_int (by decide +kernel) (pa_cons (pv 3) pa_nil)) pe_int) (pv 5)) (pg_name (i := 6) sc__law_changed.nd rfl (Or.inl rfl)))
    (Evl.pss_cut (ps_if (pt_cmpR op_eq (pv 1) pe_int (nomark _)) (pss_one (ps_expr (pe_meth (pv 0) T.cl_Space T.me_Space_set_root (ok_Space_set_root T) (hr.mono (by decide)) T.b_Space_set_root .nil pass0 (pa_cons (pe_call (ok__law_place T) (hr.mono (by decide)) (by rfl) T.g__law_place T.k__law_place T.b__law_place .nil pass0 (pa_cons (pe_op op_fdiv (pv 3) pe_int) pa_nil)) (pa_cons (pe_meth (pe_fld (pv 0) rfl) T.cl_Store T.me_Store_get (ok_Store_get T) (hr.mono (by decide)) T.b_Store_get .nil pass0 (pa_cons (pe_op op_fdiv (pv 4) pe_int) (pa_cons (pv 6) pa_nil))) pa_nil))))) (pss_one (ps_expr (pe_meth (pe_fld (pv 0) rfl) T.cl_Store T.me_Store_put (ok_Store_put T) (hr.mono (by decide)) T.b_Store_put .nil pass0 (pa_cons (pe_op op_fdiv (pv 4) pe_int) (pa_cons (pv 6) (pa_cons (pe_call (ok__law_word T) (hr.mono (by decide)) (by rfl) T.g__law_word T.k__law_word T.b__law_word .nil pass0 (pa_cons (pv 0) (pa_cons (pe_op op_fdiv (pv 3) pe_int) pa_nil))) pa_nil)))))))
    (pss_one (ps_ret (pe_lst (pa_cons pe_str (pa_cons (pv 6) (pa_cons (pe_call (ok__law_shown T) (hr.mono (by decide)) (by rfl) T.g__law_shown T.k__law_shown T.b__law_shown .nil pass0 (pa_cons (pe_meth (pe_fld (pv 0) rfl) T.cl_Store T.me_Store_get (ok_Store_get T) (hr.mono (by decide)) T.b_Store_get .nil pass0 (pa_cons (pe_op op_fdiv (pv 4) pe_int) (pa_cons (pv 6) pa_nil))) pa_nil)) pa_nil)))))))) pss_nil)
    (Evl.pss_cut (ps_if (pt_cmpR op_eq (pv 1) pe_int (nomark _)) (pss_one (ps_expr (pe_meth (pe_fld (pv 0) rfl) T.cl_Store T.me_Store_set_kind (ok_Store_set_kind T) (hr.mono (by decide)) T.b_Store_set_kind .nil pass0 (pa_cons (pe_op op_fdiv (pv 4) pe_int) (pa_cons (pe_call (ok__law_word T) (hr.mono (by decide)) (by rfl) T.g__law_word T.k__law_word T.b__law_word .nil pass0 (pa_cons (pv 0) (pa_cons (pv 3) pa_nil))) pa_nil))))) pss_nil)
    (pss_cons (ps_asg (pe_meth (pv 0) T.cl_Space T.me_Space_root (ok_Space_root T) (hr.mono (by decide)) T.b_Space_root .nil pass0 (pa_cons (pe_call (ok__law_place T) (hr.mono (by decide)) (by rfl) T.g__law_place T.k__law_place T.b__law_place .nil pass0 (pa_cons (pv 3) pa_nil)) pa_nil)) (pg_name (i := 7) sc__law_changed.nd rfl (Or.inl rfl)))
    (Evl.pss_cut (ps_if (PW.pt (pw_and (pt_cmpR op_eq (pv 1) pe_int (nomark _)) (pw_and1 (pt_cmpR op_eq (pe_op op_mod (pe_callTy call_intI (by rfl) T.z_int (by decide +kernel) (pa_cons (pv 7) pa_nil)) pe_int) pe_int (nomark _))))) (pss_one (ps_expr (pe_meth (pe_fld (pv 0) rfl) T.cl_Store T.me_Store_exchange (ok_Store_exchange T) (hr.mono (by decide)) T.b_Store_exchange .nil pass0 (pa_cons (pe_op op_fdiv (pv 4) pe_int) (pa_cons (pe_op op_fdiv (pv 7) pe_int) pa_nil))))) pss_nil)
    (pss_one (ps_ret (pe_lst (pa_cons pe_str (pa_cons (pv 5) (pa_cons (pe_call (ok__law_shown T) (hr.mono (by decide)) (by rfl) T.g__law_shown T.k__law_shown T.b__law_shown .nil pass0 (pa_cons (pe_meth (pe_fld (pv 0) rfl) T.cl_Store T.me_Store_kind (ok_Store_kind T) (hr.mono (by decide)) T.b_Store_kind .nil pass0 (pa_cons (pe_op op_fdiv (pv 4) pe_int) pa_nil)) pa_nil)) pa_nil))))))))))))), ?_⟩
    obtain ⟨sp, rm, en, al, mom, G, n, S, r, deed, j, rest, rfl, R, hj, hn, d1, d2, k⟩ := h
    have ag := R.1
    have agr := ag.r
    have agh := ag.h
    have sz : (300000 : Nat) ≤ sizeLine := by decide
    have c0 : ∀ z y : Int, 0 < y → y < 1000 → CDiv z y := fun z y h1 h2 => ⟨by omega, by omega⟩
    have ef : ∀ (S' : GS) (r' : RS), r'.na = r.na ∧ r'.nc = r.nc → r'.row0 = r.row0 ∧ r'.ns0 = r.ns0 → Eff deed S S' r r' := fun S' r' h1 h2 => ⟨fun c => by omega, fun _ _ => h1, ⟨fun _ c => by omega, fun _ c => by omega⟩, fun _ c => by omega, fun _ c => by omega, fun _ c => by omega, fun _ _ => h2⟩
    obtain ⟨wk, F, Z0, sg, mk⟩ := R.edit
    obtain ⟨dx, s, pr, rt, hl, mo, F1, Z⟩ := id Z0
    have ho := Z.ho
    obtain ⟨_, _, _, _, _, hs⟩ := Z.st.ho
    have hlt : j < S.g.roots.length := by omega
    have ew : (S.g.roots[j]?).getD 0 = S.g.roots[j] := by
      rw [List.getElem?_eq_getElem hlt]
      rfl
    have rj : (S.g.roots.map (rl r.ns))[j]? = some (rl r.ns S.g.roots[j]) := by rw [List.getElem?_map, List.getElem?_eq_getElem hlt]; rfl
    have wm := List.getElem_mem hlt
    generalize S.g.roots[j] = w at ew rj wm
    have mw : w ∈ (0 : Int) :: (S.g.roots ++ S.g.held) := List.mem_cons_of_mem _ (List.mem_append_left _ wm)
    have good : ∀ x, Vw S.g.ts.length (wordG S.g x) ∧ (wordG S.g x % 2 = 0 → Rch (prow S.g.ts) (0 :: (S.g.roots ++ S.g.held)) (wordG S.g x / 2)) := fun x => by
      have m : wordG S.g x % 2 = 0 → wordG S.g x ∈ (0 : Int) :: (S.g.roots ++ S.g.held) := fun e => by
        rcases wordG_in ag.r e with h | h
        · rw [h]
          exact List.mem_cons_self ..
        · exact List.mem_cons_of_mem _ (List.mem_append_left _ h)
      exact ⟨fun e => ag.a.vr _ (m e) e, fun e => ag.a.rt (m e) e⟩
    dsimp! only [ho, hs, T.cl_Store, T.no_Store_room, T.no_Store_entries, T.no_Store_words, T.no_Store__places, T.no_Store__free, T.no_Store__fresh, stF_room, stF_entries, stF_words, stF_places, stF_free, stF_fresh, stF_mused, stF_mexists, stF_mnumbers, stF_mfree, stF_malloc, stF_msize, stF_mkind, stF_mskind, stF_mget, stF_mput, stF_mslots, stF_mdrop, stF_mclose, stF_msnap, stF_mrest, stF_mexch, stF_len, stF_pf, stF_pd, stF_pl]
    refine ⟨sp, rm, en, _, _, _, _, _, _, _, _, j, _, rfl, Z0, rj, _, rfl, by decide, ite2 (fun c => ?_) (fun c => ?_)⟩
    · have od : ¬ w % 2 = 0 := fun z => by
        have := rl_par (ns := r.ns).mpr z
        omega
      have e : changedG S deed j rest = (S, [.str "plain", .int w]) := by
        unfold changedG
        simp only [ew]
        rw [if_pos (by omega)]
      rw [rl_odd od]
      refine ⟨by omega, fun t ht => ?_⟩
      rw [e] at k
      have RR := R.up (n' := n + 1) (by omega)
      exact k _ t r (RR.out ht) (RR.new ht) (ef _ _ ⟨rfl, rfl⟩ ⟨rfl, rfl⟩)
    have ev : w % 2 = 0 := by
      refine rl_par (ns := r.ns).mp ?_
      omega
    obtain ⟨i, t, e, ti, pi, ri⟩ := ag.a.thing (ag.a.rt mw ev)
    have hi := ag.a.rt mw ev
    rw [e] at hi
    have tm := List.mem_of_getElem? ti
    have hv := rl_half (ns := r.ns) ev
    have eth : thG S.g i = t := by
      unfold thG
      rw [ti]
      rfl
    have ei : (w / 2).toNat = i := by rw [e, Int.toNat_natCast]
    have ec : changedG S deed j rest = (if deed < 9 ∧ 0 < (t.sl.length : Int) then
        (if deed = 8 then (⟨setR S.g (lpl (rest / 64)).toNat ((t.sl[(rest % 64 % (t.sl.length : Int)).toNat]?).getD 0), S.wk⟩, [.str "slot", .int (((rest % 64 % (t.sl.length : Int)).toNat : Nat) : Int), .int (shown ((t.sl[(rest % 64 % (t.sl.length : Int)).toNat]?).getD 0))])
        else (⟨setT S.g i { t with sl := t.sl.set (rest % 64 % (t.sl.length : Int)).toNat (wordG S.g (rest / 64)) }, S.wk⟩, [.str "slot", .int (((rest % 64 % (t.sl.length : Int)).toNat : Nat) : Int), .int (shown (wordG S.g (rest / 64)))]))
      else if deed = 12 then (⟨setT S.g i { t with k := wordG S.g rest }, S.wk⟩, [.str "object", .int (t.sl.length : Int), .int (shown (wordG S.g rest))])
      else if deed = 13 ∧ ((S.g.roots[(lpl rest).toNat]?).getD 0) % 2 = 0 then (⟨exG S.g i (((S.g.roots[(lpl rest).toNat]?).getD 0) / 2).toNat, S.wk⟩, [.str "object", .int (t.sl.length : Int), .int (shown (thG S.g (((S.g.roots[(lpl rest).toNat]?).getD 0) / 2).toNat).k)])
      else (S, [.str "object", .int (t.sl.length : Int), .int (shown t.k)])) := by
      unfold changedG
      simp only [ew, ei, eth]
      rw [if_neg (by omega)]
    generalize changedG S deed j rest = CC at ec k
    have sl_ : ∀ t' : TH, t'.sl.length ≤ 100 → ∀ x ∈ S.g.ts.set i t', x.sl.length ≤ 100 := fun t' h x hx => by
      rcases List.mem_or_eq_of_mem_set hx with h2 | rfl
      · exact ag.s x h2
      · exact h
    rw [e] at ri pi hv
    refine ⟨_, _, _, ho, T.cl_Space, T.no_Space_store, _, spF_store, s, rfl, _, _, hs, stF_msize, _, rfl, c0 _ _ (by decide) (by decide), ?_⟩
    rw [hv]
    refine ⟨s, rm, en, r.row, F1, _, _, rfl, Z.st, ri, ?_⟩
    dsimp only
    rw [List.length_map]
    refine ⟨fun σ2 H2 => σ2 = [some (V.ref sp), some (V.int deed), some (V.int (j : Int)), some (V.int rest), some (V.int (rl r.ns w)), some (V.int (t.sl.length : Int)), none, none] ∧ H2 = H ∧ ¬ (deed < 9 ∧ 0 < (t.sl.length : Int)), ?_, ?_⟩
    · simp! only [rIsL]
      refine ite2 (fun d9 => ite2 (fun dz => ⟨by decide, dz, ?_⟩) (fun dz => fun h => dz h.2)) (fun d9 => fun h => d9 h.1)
      have a0 := Int.emod_nonneg (rest % 64) (show (t.sl.length : Int) ≠ 0 by omega)
      have a1 := Int.emod_lt_of_pos (rest % 64) dz
      obtain ⟨at_, eat⟩ : ∃ a : Nat, rest % 64 % (t.sl.length : Int) = (a : Int) := ⟨_, (Int.toNat_of_nonneg a0).symm⟩
      rw [if_pos ⟨d9, dz⟩, eat, Int.toNat_natCast] at ec
      rw [eat] at a1 ⊢
      have lt : at_ < t.sl.length := by omega
      refine ⟨fun σ3 H3 => σ3 = [some (V.ref sp), some (V.int deed), some (V.int (j : Int)), some (V.int rest), some (V.int (rl r.ns w)), some (V.int (t.sl.length : Int)), some (V.int (at_ : Int)), none] ∧ ∃ (g' : PG) (row' : List OB) (v : Int) (o : OB), SQ A H3 sp rm en row' (al, wk) mom r.na r.nc (g'.roots.map (rl r.ns)) (g'.held.map (rl r.ns)) F ∧ Ag rm en g' row' r.ns n ∧ (flat row').length = (flat r.row).length ∧ (nums row').length = (nums r.row).length ∧ CC = (⟨g', S.wk⟩, [.str "slot", .int (at_ : Int), .int (shown v)]) ∧ getO row' (nu r.ns (i : Int)) = some o ∧ o.sl[at_]? = some (rl r.ns v), ?_, ?_⟩
      · dsimp! only [ho, hs, T.cl_Store, T.no_Store_room, T.no_Store_entries, T.no_Store_words, T.no_Store__places, T.no_Store__free, T.no_Store__fresh, stF_room, stF_entries, stF_words, stF_places, stF_free, stF_fresh, stF_mused, stF_mexists, stF_mnumbers, stF_mfree, stF_malloc, stF_msize, stF_mkind, stF_mskind, stF_mget, stF_mput, stF_mslots, stF_mdrop, stF_mclose, stF_msnap, stF_mrest, stF_mexch, stF_len, stF_pf, stF_pd, stF_pl]
        refine ite2 (fun d8 => ⟨c0 _ _ (by decide) (by decide), _, rfl, fun j2 hj2 ej2 => ⟨_, _, _, ho, T.cl_Space, T.no_Space_store, _, spF_store, s, rfl, _, _, hs, stF_mget, c0 _ _ (by decide) (by decide), ?_⟩⟩) (fun d8 => ⟨c0 _ _ (by decide) (by decide), c0 _ _ (by decide) (by decide), sp, rm, en, al, mom, G, n, S, r, _, rfl, R, ?_⟩)
        · rw [hv]
          have vm := List.getElem_mem lt
          have gv : t.sl[at_]? = some t.sl[at_] := List.getElem?_eq_getElem lt
          generalize t.sl[at_] = v at vm gv
          have gv2 : (t.sl.map (rl r.ns))[at_]? = some (rl r.ns v) := by rw [List.getElem?_map, gv]; rfl
          refine ⟨s, rm, en, r.row, F1, _, _, at_, _, rfl, Z.st, ri, gv2, sp, rm, en, _, _, _, _, _, _, _, _, j2, _, rfl, Z0, by rw [List.length_map]; omega, fun H3 Z3 => ⟨setR S.g j2 v, r.row, ?_, ?_, rfl, rfl, v, ?_, _, ri, gv2⟩⟩
          · show SQ A H3 sp rm en r.row (al, wk) mom r.na r.nc ((S.g.roots.set j2 v).map (rl r.ns)) _ _
            rw [List.map_set]
            exact Z3
          · obtain ⟨v1, v2⟩ := ag.a.words hi ti (List.mem_cons_of_mem _ vm)
            exact ⟨ag.a.root v1 v2, ag.z, ag.o, by
              show (S.g.roots.set j2 v).length = 16
              rw [List.length_set]
              exact ag.r, ag.h, ag.t, ag.s⟩
          · rw [ec, if_pos d8, ← ej2, Int.toNat_natCast, gv]
            rfl
        · rw [hv]
          obtain ⟨v1, v2⟩ := good (rest / 64)
          rw [if_neg d8] at ec
          generalize wordG S.g (rest / 64) = v at v1 v2 ec
          have M := (Mild.put at_ (rl r.ns v)).set (nu r.ns (i : Int))
          refine ⟨s, rm, en, r.row, F1, _, _, at_, _, rfl, Z.st, ri, by rw [List.length_map]; exact lt, fun H3 S3 => ?_⟩
          have ag' : Ag rm en (setT S.g i { t with sl := t.sl.set at_ v }) (putO r.row (nu r.ns (i : Int)) at_ (rl r.ns v)) r.ns n := ⟨ag.a.put ti hi v1 v2, ag.z, ag.o.put _ _ _, ag.r, ag.h, by
            show (S.g.ts.set i _).length ≤ n + 1
            rw [List.length_set]
            exact ag.t, sl_ _ (by
            show (t.sl.set at_ v).length ≤ 100
            rw [List.length_set]
            exact ag.s t tm)⟩
          have ti' : (setT S.g i { t with sl := t.sl.set at_ v }).ts[i]? = some { t with sl := t.sl.set at_ v } := List.getElem?_set_self (List.getElem?_eq_some_iff.mp ti).1
          have hi' := ag'.a.rt mw ev
          rw [e] at hi'
          have go := ag'.a.on _ hi' _ (prow_at ti')
          refine ⟨setT S.g i { t with sl := t.sl.set at_ v }, _, ⟨dx, s, pr, rt, hl, mo, F1, S3, Z.sp⟩, ag', M.flat _, by rw [show nums (putO r.row (nu r.ns (i : Int)) at_ (rl r.ns v)) = nums r.row from M.nums _], v, ec, _, go, ?_⟩
          show ((t.sl.set at_ v).map (rl r.ns))[at_]? = some (rl r.ns v)
          rw [List.getElem?_map, List.getElem?_set_self lt]
          rfl
      · rintro σ3 H3 ⟨rfl, g', row', v, o, Z3, ag', f1, f2, eC, go, ov⟩
        obtain ⟨dx3, s3, pr3, rt3, hl3, mo3, F3, Y3⟩ := id Z3
        have ho3 := Y3.ho
        obtain ⟨_, _, _, _, _, hs3⟩ := Y3.st.ho
        dsimp! only [ho3, hs3, T.cl_Store, T.no_Store_room, T.no_Store_entries, T.no_Store_words, T.no_Store__places, T.no_Store__free, T.no_Store__fresh, stF_room, stF_entries, stF_words, stF_places, stF_free, stF_fresh, stF_mused, stF_mexists, stF_mnumbers, stF_mfree, stF_malloc, stF_msize, stF_mkind, stF_mskind, stF_mget, stF_mput, stF_mslots, stF_mdrop, stF_mclose, stF_msnap, stF_mrest, stF_mexch, stF_len, stF_pf, stF_pd, stF_pl]
        refine ⟨c0 _ _ (by decide) (by decide), ?_⟩
        rw [hv]
        refine ⟨s3, rm, en, row', F3, _, o, at_, _, rfl, Y3.st, go, ov, _, rfl, ?_⟩
        rw [shown_rl]
        refine ⟨by omega, fun t2 ht2 => ?_⟩
        have RR := mk H3 row' g' (n + 1) Z3 (ag'.up (by omega)) f1 f2 (by omega)
        rw [eC] at k
        exact k _ t2 _ (RR.out ht2) (RR.new ht2) (ef _ _ ⟨rfl, rfl⟩ ⟨rfl, rfl⟩)
    · rintro σ2 H2 ⟨rfl, rfl, nc9⟩
      rw [if_neg nc9] at ec
      refine ⟨fun σ3 H3 => σ3 = [some (V.ref sp), some (V.int deed), some (V.int (j : Int)), some (V.int rest), some (V.int (rl r.ns w)), some (V.int (t.sl.length : Int)), none, none] ∧ ∃ (g' : PG) (row' : List OB), SQ A H3 sp rm en row' (al, wk) mom r.na r.nc (g'.roots.map (rl r.ns)) (g'.held.map (rl r.ns)) F ∧ Ag rm en g' row' r.ns n ∧ (flat row').length = (flat r.row).length ∧ (nums row').length = (nums r.row).length ∧ g'.roots = S.g.roots ∧ ((deed = 12 ∧ g' = setT S.g i { t with k := wordG S.g rest }) ∨ (deed ≠ 12 ∧ g' = S.g ∧ row' = r.row)), ?_, ?_⟩
      · dsimp! only [ho, hs, T.cl_Store, T.no_Store_room, T.no_Store_entries, T.no_Store_words, T.no_Store__places, T.no_Store__free, T.no_Store__fresh, stF_room, stF_entries, stF_words, stF_places, stF_free, stF_fresh, stF_mused, stF_mexists, stF_mnumbers, stF_mfree, stF_malloc, stF_msize, stF_mkind, stF_mskind, stF_mget, stF_mput, stF_mslots, stF_mdrop, stF_mclose, stF_msnap, stF_mrest, stF_mexch, stF_len, stF_pf, stF_pd, stF_pl]
        refine ite2 (fun d12 => ⟨c0 _ _ (by decide) (by decide), sp, rm, en, al, mom, G, n, S, r, _, rfl, R, ?_⟩) (fun d12 => ⟨S.g, r.row, Z0, ag, rfl, rfl, rfl, .inr ⟨d12, rfl, rfl⟩⟩)
        rw [hv]
        obtain ⟨v1, v2⟩ := good rest
        have M := (Mild.kind (rl r.ns (wordG S.g rest))).set (nu r.ns (i : Int))
        refine ⟨s, rm, en, r.row, F1, _, _, _, rfl, Z.st, ri, fun H3 S3 => ?_⟩
        have ag' : Ag rm en (setT S.g i { t with k := wordG S.g rest }) (kindO r.row (nu r.ns (i : Int)) (rl r.ns (wordG S.g rest))) r.ns n := ⟨ag.a.kind ti hi v1 v2, ag.z, ag.o.kind _ _, ag.r, ag.h, by
          show (S.g.ts.set i _).length ≤ n + 1
          rw [List.length_set]
          exact ag.t, sl_ _ (ag.s t tm)⟩
        exact ⟨setT S.g i { t with k := wordG S.g rest }, _, ⟨dx, s, pr, rt, hl, mo, F1, S3, Z.sp⟩, ag', M.flat _, by rw [show nums (kindO r.row (nu r.ns (i : Int)) (rl r.ns (wordG S.g rest))) = nums r.row from M.nums _], rfl, .inl ⟨d12, rfl⟩⟩
      · rintro σ3 H3 ⟨rfl, g', row', Z3, ag', f1, f2, er, hc⟩
        obtain ⟨dx3, s3, pr3, rt3, hl3, mo3, F3, Y3⟩ := id Z3
        have ho3 := Y3.ho
        obtain ⟨_, _, _, _, _, hs3⟩ := Y3.st.ho
        dsimp! only [ho3, hs3, T.cl_Store, T.no_Store_room, T.no_Store_entries, T.no_Store_words, T.no_Store__places, T.no_Store__free, T.no_Store__fresh, stF_room, stF_entries, stF_words, stF_places, stF_free, stF_fresh, stF_mused, stF_mexists, stF_mnumbers, stF_mfree, stF_malloc, stF_msize, stF_mkind, stF_mskind, stF_mget, stF_mput, stF_mslots, stF_mdrop, stF_mclose, stF_msnap, stF_mrest, stF_mexch, stF_len, stF_pf, stF_pd, stF_pl]
        refine ⟨_, rfl, fun j2 hj2 ej2 => ?_⟩
        have hlt2 : j2 < S.g.roots.length := by omega
        have ew2 : (S.g.roots[(lpl rest).toNat]?).getD 0 = S.g.roots[j2] := by
          rw [← ej2, Int.toNat_natCast, List.getElem?_eq_getElem hlt2]
          rfl
        have rj2 : (g'.roots.map (rl r.ns))[j2]? = some (rl r.ns S.g.roots[j2]) := by rw [er, List.getElem?_map, List.getElem?_eq_getElem hlt2]; rfl
        have wm2 := List.getElem_mem hlt2
        rw [ew2] at ec
        generalize S.g.roots[j2] = w2 at rj2 wm2 ec
        have mw2 : w2 ∈ (0 : Int) :: (S.g.roots ++ S.g.held) := List.mem_cons_of_mem _ (List.mem_append_left _ wm2)
        refine ⟨sp, rm, en, _, _, _, _, _, _, _, _, j2, _, rfl, Z3, rj2, ?_⟩
        refine ⟨fun σ4 H4 => σ4 = [some (V.ref sp), some (V.int deed), some (V.int (j : Int)), some (V.int rest), some (V.int (rl r.ns w)), some (V.int (t.sl.length : Int)), none, some (V.int (rl r.ns w2))] ∧ ∃ (g2 : PG) (row2 : List OB) (kk : Int) (o : OB), SQ A H4 sp rm en row2 (al, wk) mom r.na r.nc (g2.roots.map (rl r.ns)) (g2.held.map (rl r.ns)) F ∧ Ag rm en g2 row2 r.ns n ∧ (flat row2).length = (flat r.row).length ∧ (nums row2).length = (nums r.row).length ∧ CC = (⟨g2, S.wk⟩, [.str "object", .int (t.sl.length : Int), .int (shown kk)]) ∧ getO row2 (nu r.ns (i : Int)) = some o ∧ o.kind = rl r.ns kk, ?_, ?_⟩
        · have stay : ¬ (deed = 13 ∧ w2 % 2 = 0) → ∃ (g2 : PG) (row2 : List OB), SQ A H3 sp rm en row2 (al, wk) mom r.na r.nc (g2.roots.map (rl r.ns)) (g2.held.map (rl r.ns)) F ∧ Ag rm en g2 row2 r.ns n ∧ (flat row2).length = (flat r.row).length ∧ (nums row2).length = (nums r.row).length ∧ ∃ (kk : Int), CC = (⟨g2, S.wk⟩, [.str "object", .int (t.sl.length : Int), .int (shown kk)]) ∧ ∃ (o : OB), getO row2 (nu r.ns (i : Int)) = some o ∧ o.kind = rl r.ns kk := fun h => by
            rcases hc with ⟨d12, eg⟩ | ⟨d12, eg, e2⟩
            · rw [if_pos d12] at ec
              subst eg
              have ti' : (setT S.g i { t with k := wordG S.g rest }).ts[i]? = some { t with k := wordG S.g rest } := List.getElem?_set_self (List.getElem?_eq_some_iff.mp ti).1
              have hi' := ag'.a.rt mw ev
              rw [e] at hi'
              exact ⟨_, _, Z3, ag', f1, f2, _, ec, _, ag'.a.on _ hi' _ (prow_at ti'), rfl⟩
            · rw [if_neg d12, if_neg h] at ec
              subst eg
              subst e2
              exact ⟨_, _, Z3, ag', f1, f2, _, ec, _, ri, rfl⟩
          dsimp! only [ho3, hs3, T.cl_Store, T.no_Store_room, T.no_Store_entries, T.no_Store_words, T.no_Store__places, T.no_Store__free, T.no_Store__fresh, stF_room, stF_entries, stF_words, stF_places, stF_free, stF_fresh, stF_mused, stF_mexists, stF_mnumbers, stF_mfree, stF_malloc, stF_msize, stF_mkind, stF_mskind, stF_mget, stF_mput, stF_mslots, stF_mdrop, stF_mclose, stF_msnap, stF_mrest, stF_mexch, stF_len, stF_pf, stF_pd, stF_pl]
          refine ite2 (fun d13 => ⟨by decide, ite2 (fun d2 => ⟨c0 _ _ (by decide) (by decide), c0 _ _ (by decide) (by decide), ?_⟩) (fun d2 => stay fun h => d2 (rl_par.mpr h.2))⟩) (fun d13 => stay fun h => d13 h.1)
          have ev2 := rl_par.mp d2
          rcases hc with ⟨d12, eg⟩ | ⟨d12, eg, e2⟩
          · omega
          · rw [if_neg d12, if_pos ⟨d13, ev2⟩] at ec
            subst eg
            subst e2
            obtain ⟨i2, t2, e2, ti2, pi2, ri2⟩ := ag.a.thing (ag.a.rt mw2 ev2)
            have hi2 := ag.a.rt mw2 ev2
            have hv2 := rl_half (ns := r.ns) ev2
            rw [e2] at hi2 ri2 hv2 ec
            rw [hv, hv2]
            rw [Int.toNat_natCast] at ec
            have eth2 : thG S.g i2 = t2 := by
              unfold thG
              rw [ti2]
              rfl
            unfold exG at ec
            rw [eth, eth2] at ec
            refine ⟨s3, rm, en, _, F3, _, _, rfl, Y3.st, getO_nums ri, getO_nums ri2, fun H4 S4 => ?_⟩
            have il := (List.getElem?_eq_some_iff.mp ti).1
            have ti' : ((S.g.ts.set i t2).set i2 t)[i]? = some t2 := by
              rw [List.getElem?_set]
              split
              · rename_i c2
                subst c2
                rw [ti] at ti2
                rw [List.length_set, if_pos il]
                exact ti2
              · exact List.getElem?_set_self il
            have ag2 : Ag rm en ⟨(S.g.ts.set i t2).set i2 t, S.g.roots, S.g.held⟩ (My.exch r.row (nu r.ns (i : Int)) (nu r.ns (i2 : Int))) r.ns n := ⟨ag.a.exch ti ti2 hi hi2, ag.z, ag.o.exch (getO_nums ri) (getO_nums ri2), ag.r, ag.h, by
              show ((S.g.ts.set i t2).set i2 t).length ≤ n + 1
              rw [List.length_set, List.length_set]
              exact ag.t, fun x hx => by
              rcases List.mem_or_eq_of_mem_set hx with h | rfl
              · rcases List.mem_or_eq_of_mem_set h with h | rfl
                · exact ag.s x h
                · exact ag.s x (List.mem_of_getElem? ti2)
              · exact ag.s x tm⟩
            have hi' := ag2.a.rt mw ev
            rw [e] at hi'
            exact ⟨⟨(S.g.ts.set i t2).set i2 t, S.g.roots, S.g.held⟩, _, ⟨dx3, s3, pr3, rt3, hl3, mo3, F3, S4, Y3.sp⟩, ag2, flat_ex_len, by rw [nums_ex, List.length_map], _, ec, _, ag2.a.on _ hi' _ (prow_at ti'), rfl⟩
        · rintro σ4 H4 ⟨rfl, g2, row2, kk, o, Z4, ag4, f3, f4, eC, go, ok⟩
          obtain ⟨dx4, s4, pr4, rt4, hl4, mo4, F4, Y4⟩ := id Z4
          have ho4 := Y4.ho
          obtain ⟨_, _, _, _, _, hs4⟩ := Y4.st.ho
          dsimp! only [ho4, hs4, T.cl_Store, T.no_Store_room, T.no_Store_entries, T.no_Store_words, T.no_Store__places, T.no_Store__free, T.no_Store__fresh, stF_room, stF_entries, stF_words, stF_places, stF_free, stF_fresh, stF_mused, stF_mexists, stF_mnumbers, stF_mfree, stF_malloc, stF_msize, stF_mkind, stF_mskind, stF_mget, stF_mput, stF_mslots, stF_mdrop, stF_mclose, stF_msnap, stF_mrest, stF_mexch, stF_len, stF_pf, stF_pd, stF_pl]
          refine ⟨c0 _ _ (by decide) (by decide), ?_⟩
          rw [hv]
          refine ⟨s4, rm, en, row2, F4, _, o, rfl, Y4.st, go, _, rfl, ?_⟩
          rw [ok, shown_rl]
          refine ⟨by omega, fun t2 ht2 => ?_⟩
          have RR := mk H4 row2 g2 (n + 1) Z4 (ag4.up (by omega)) f3 f4 (by omega)
          rw [eC] at k
          exact k _ t2 _ (RR.out ht2) (RR.new ht2) (ef _ _ ⟨rfl, rfl⟩ ⟨rfl, rfl⟩)
end

def sp_lwork8 (A : Ad) : Sp := fun vs H Q _ => ∃ (sp : Addr) (rm en : Int) (al : Bool) (mom : List Int) (G : Hp) (n : Nat) (S : GS) (r : RS) (deed : Int), vs = [.ref sp, .int deed] ∧ Rep A H sp rm en al mom G n S r ∧ 14 < deed ∧ n < 900 ∧
  ∀ H' t r', G t = none → Rep A H' sp rm en al mom (upd G t (.lst (workG S deed).2)) (n + 1) (workG S deed).1 r' → Eff deed S (workG S deed).1 r r' → Q (.ref t) H'
theorem sp_lwork8_len {A vs H Q E} (h : sp_lwork8 A vs H Q E) : vs.length = (["space", "deed"] : List Str).length := by
  obtain ⟨_, _, _, _, _, _, _, _, _, _, rfl, _⟩ := h
  rfl
section
variable {P : Program} {w : World} {K : PySem.W.Frag} {mg : Str → Option Value} {base : Heap} {A : Ad}
theorem ok__law_work (T : Txt K mg A) : FnOk P w K mg base CX0 7 A.f__law_work A.d__law_work ["space", "deed"] (sp_lwork8 A) := by
  refine Fun.ok T.F__law_work sc__law_work (fun vs H Q E h => ?_) (fun cdv Ar outer s H vs Q E hr h => ?_)
  · exact sp_lwork8_len h
  · have hu := hu_of hr
    refine ⟨_, (pss_cons (L2N.ps_try_as (i := 2) rfl rfl sc__law_work.nd rfl rfl ⟨rfl, by decide, Or.inl T.m_Wrong⟩ takesN (fun W pn xe tk _ => (pss_one (ps_if (pt_cmpR op_eq (pv 1) pe_int (nomark _)) (pss_one (ps_expr (pe_methE0 (pv 0) T.cl_Space T.me_Space_commit (ok_Space_commit T) (hr.mono (by decide)) T.b_Space_commit (fun σ => L2N.passAt tk σ)))) (pss_one (ps_if (pt_cmpR op_gt (pv 1) pe_int (nomark _)) (pss_one (ps_expr (pe_methE0 (pv 0) T.cl_Space T.me_Space_abort (ok_Space_abort T) (hr.mono (by decide)) T.b_Space_abort (fun σ => L2N.passAt tk σ)))) (pss_one (ps_expr (pe_methE0 (pv 0) T.cl_Space T.me_Space_begin (ok_Space_begin T) (hr.mono (by decide)) T.b_Space_begin (fun σ => L2N.passAt tk σ)))))))))
      (fun a oe cls d pn hz hf => (pss_one (ps_ret (pe_lst (pa_cons pe_str (pa_cons (pe_fxs hz hf (pv 2)) pa_nil)))))))
    (pss_one (ps_ret (pe_lst (pa_cons pe_str (pa_cons (pv 1) pa_nil)))))), ?_⟩
    obtain ⟨sp, rm, en, al, mom, G, n, S, r, deed, rfl, R, d1, hn, k⟩ := h
    have ag := R.1
    have agr := ag.r
    have agh := ag.h
    have rh : (S.g.roots.map (rl r.ns)).length + (S.g.held.map (rl r.ns)).length ≤ 10000 := by
      rw [List.length_map, List.length_map]
      omega
    have wrong : ∀ (why : Str), workG S deed = (S, [.str "wrong", .str why]) → ((S.wk ≠ none ∧ deed < 17) ∨ (S.wk = none ∧ 16 < deed)) → ∀ dd, H dd = none → wAs K (Value.ref A.C_Wrong) 2 (fun a cls d => tRet (tLst (tCons (tC (V.str (Str.ofString "wrong"))) (tCons (tFx a cls d (Str.ofString "why") K (tVar 2)) tNil)))) (fun x x_1 x_2 x_3 => False)
              { nx := tRet (tLst (tCons (tC (V.str (Str.ofString "work"))) (tCons (tVar 1) tNil))) { nx := fun x H' => Q V.non H', rt := Q }, rt := Q } (Value.ref A.C_Wrong) (some dd) [some (V.ref sp), some (V.int deed), none] (upd H dd (.xd [("why", .str why)])) := fun why e c dd hdd => by
      unfold wAs
      refine ⟨true, T.ex_Wrong_Wrong, fun _ x hx => ?_, fun z => absurd z (by decide)⟩
      have R2 := R.same (same_new (o := HO.xd [("why", V.str why)]) hdd)
      have gdd : upd H dd (HO.xd [("why", V.str why)]) dd = some (HO.xd [("why", V.str why)]) := upd_same
      generalize upd H dd (HO.xd [("why", V.str why)]) = H1 at gdd R2 ⊢
      simp! only [gdd]
      refine ⟨by decide, fun p hp => ?_⟩
      rw [e] at k
      have RR := R2.up (n' := n + 1) (by omega)
      refine k _ p r (RR.out hp) (RR.new hp) ⟨fun c => by omega, fun _ c => by omega, ⟨fun _ _ _ => rfl, fun _ _ => rfl⟩, fun h1 _ h2 => ?_, fun h1 h2 => ?_, fun h1 h2 => ?_, fun _ _ => ⟨rfl, rfl⟩⟩
      · rcases c with c | c
        · exact absurd h1 c.1
        · omega
      · rcases c with c | c
        · omega
        · exact absurd c.1 h1
      · rcases c with c | c
        · omega
        · exact absurd c.1 h1
    obtain ⟨_, R2⟩ := id R
    cases hw : S.wk with
    | none =>
      rw [hw] at R2
      have Z0 : SQ A H sp rm en r.row (al, .non) mom r.na r.nc (S.g.roots.map (rl r.ns)) (S.g.held.map (rl r.ns)) G := R2
      obtain ⟨dx, s, pr, rt, hl, mo, F1, Z⟩ := id Z0
      have ho := Z.ho
      have wr : 16 < deed → workG S deed = (S, [.str "wrong", .str "closed"]) := fun c => by
        unfold workG
        rw [hw]
        show (if deed < 17 then _ else _) = _
        rw [if_neg (by omega)]
      dsimp! only [ho]
      refine ite2 (fun c17 => ⟨spF_mcommit, sp, rm, en, _, _, _, _, _, _, _, _, rfl, Z0, .inr ⟨rfl, fun dd hdd => wrong "closed" (wr (by omega)) (.inr ⟨hw, by omega⟩) dd hdd⟩⟩) (fun c17 => ite2 (fun c18 => ⟨spF_mabort, sp, rm, en, _, _, _, _, _, _, _, _, rfl, Z0, .inr ⟨rfl, fun dd hdd => wrong "closed" (wr (by omega)) (.inr ⟨hw, by omega⟩) dd hdd⟩⟩) (fun c18 => ?_))
      refine ⟨spF_mbegin, sp, rm, en, _, _, _, _, _, _, _, _, rfl, Z0, rh, .inl ⟨rfl, fun H' W ks tk Z' L wkk wf => ⟨by decide, fun p hp => ?_⟩⟩⟩
      have ew : workG S deed = (⟨S.g, some (liveT S.g 0, liveN S.g 0, S.g)⟩, [.str "work", .int deed]) := by
        unfold workG
        rw [hw]
        show (if deed < 17 then _ else _) = _
        rw [if_pos (by omega)]
      have ga : Agr S.g.ts r.ns r.row (0 :: (S.g.roots ++ S.g.held ++ [0])) := ag.a.mono fun w h => by
        rcases List.mem_cons.mp h with e | h
        · exact e ▸ List.mem_cons_self ..
        · rcases List.mem_append.mp h with h | h
          · exact List.mem_cons_of_mem _ h
          · rw [List.mem_singleton] at h
            exact h ▸ List.mem_cons_self ..
      have L2 : Live r.row (S.g.roots.map (rl r.ns) ++ S.g.held.map (rl r.ns) ++ [rl r.ns 0]) ks := ⟨L.1, fun z => by
        rw [L.2, rl_zero ag.z]
        exact rch_congr (fun w => by
          simp only [List.mem_cons, List.mem_append, List.not_mem_nil, or_false]
          constructor
          · rintro (h | h)
            · exact .inl h
            · exact .inr (.inl h)
          · rintro (h | h | h)
            · exact .inl h
            · exact .inr h
            · exact .inl h) z⟩
      obtain ⟨lt, ln⟩ := live_told ga ag.z L2
      have ke : ∀ z, z ∈ ks ↔ Rch r.row ((0 :: (S.g.roots ++ S.g.held)).map (rl r.ns)) z := fun z => by
        rw [List.map_cons, List.map_append, rl_zero ag.z]
        exact L.2 z
      have mem : ∀ z ∈ ks, z ∈ nums r.row := fun z hz => ((L.2 z).mp hz).nums
      have kp := keep_perm ag.o.nd L.1 mem
      have tk_ := total_keep ag.o.nd L.1 mem
      have agk : Ag rm en S.g (keep r.row ks) r.ns n := ⟨ag.a.keep ke, ag.z, ag.o.keep ks, ag.r, ag.h, ag.t, ag.s⟩
      have RR : Rep A H' sp rm en al mom G (n + 1) ⟨S.g, some (liveT S.g 0, liveN S.g 0, S.g)⟩ ⟨keep r.row ks, r.na, r.nc + 1, r.ns, keep r.row ks, r.ns⟩ := ⟨agk.up (by omega), by
        rw [← lt, tk_], by
        rw [← ln, kp.length_eq], agk.up (by omega), W, tk, Z', wkk, wf⟩
      rw [ew] at k
      exact k _ p _ (RR.out hp) (RR.new hp) ⟨fun c => by omega, fun _ c => by omega, ⟨fun c => absurd hw c, fun _ c => by omega⟩, fun _ _ _ => ⟨rfl, rfl, rfl, rfl, rfl⟩, fun c => absurd hw c, fun c => absurd hw c, fun c => absurd hw c⟩
    | some wk =>
      obtain ⟨u, c, g0⟩ := wk
      have hn : S.wk ≠ none := by rw [hw]; simp
      rw [hw] at R2
      obtain ⟨h1, h2, h3, W, tk, Z0, wkk, wd⟩ := R2
      obtain ⟨dx, s, pr, rt, hl, mo, F1, Z⟩ := id Z0
      have ho := Z.ho
      have wg : ∀ p o, G p = some o → My.uni W G p = some o := fun p o q => by
        rw [uni_right]
        · exact q
        · cases z : W p with
          | none => rfl
          | some v =>
            have := wd p v z
            rw [q] at this
            cases this
      have ew : workG S deed = if deed < 17 then (S, [.str "wrong", .str "open"]) else if deed = 17 then (⟨S.g, none⟩, [.str "work", .int deed]) else (⟨g0, none⟩, [.str "work", .int deed]) := by
        unfold workG
        rw [hw]
      dsimp! only [ho]
      refine ite2 (fun c17 => ⟨spF_mcommit, sp, rm, en, _, _, _, _, _, _, _, _, rfl, Z0, .inl ⟨tk, rfl, fun H' Z' => ⟨by decide, fun p hp => ?_⟩⟩⟩) (fun c17 => ite2 (fun c18 => ⟨spF_mabort, sp, rm, en, _, _, _, _, _, _, _, _, rfl, Z0, .inl ⟨W, G, tk, r.row0, _, _, rfl, rfl, wkk, wd, fun H' Z' => ⟨by decide, fun p hp => ?_⟩⟩⟩) (fun c18 => ⟨spF_mbegin, sp, rm, en, _, _, _, _, _, _, _, _, rfl, Z0, rh, .inr ⟨tk, rfl, fun dd hdd => wrong "open" (by rw [ew, if_pos (by omega)]) (.inl ⟨hn, by omega⟩) dd hdd⟩⟩))
      · have RR : Rep A H' sp rm en al mom G (n + 1) ⟨S.g, none⟩ r := ⟨ag.up (by omega), Z'.less wg⟩
        rw [ew, if_neg (by omega), if_pos c17] at k
        exact k _ p _ (RR.out hp) (RR.new hp) ⟨fun c => by omega, fun _ c => by omega, ⟨fun _ _ c => by omega, fun c => absurd c hn⟩, fun c => absurd c hn, fun _ _ => ⟨rfl, rfl, rfl, rfl⟩, fun _ c => by omega, fun _ c => absurd rfl c⟩
      · have RR : Rep A H' sp rm en al mom G (n + 1) ⟨g0, none⟩ ⟨r.row0, r.na, r.nc, r.ns0, r.row0, r.ns0⟩ := ⟨h3.up (by omega), Z'⟩
        rw [ew, if_neg (by omega), if_neg c17] at k
        exact k _ p _ (RR.out hp) (RR.new hp) ⟨fun c => by omega, fun _ c => by omega, ⟨fun _ _ c => by omega, fun c => absurd c hn⟩, fun c => absurd c hn, fun _ c => by omega, fun _ _ => ⟨rfl, rfl, rfl, rfl⟩, fun _ c => absurd rfl c⟩
end

def sp_ldone8 (A : Ad) : Sp := fun vs H Q _ => ∃ (sp : Addr) (rm en : Int) (al : Bool) (mom : List Int) (G : Hp) (n : Nat) (S : GS) (r : RS) (x : Int), vs = [.ref sp, .int x] ∧ Rep A H sp rm en al mom G n S r ∧ n < 900 ∧ rm ≤ 4000 ∧ 0 ≤ en ∧ x % 20 ≠ 14 ∧
  ∀ H' t r', G t = none → Rep A H' sp rm en al mom (upd G t (.lst (doneG rm en S x).2)) (n + 1) (doneG rm en S x).1 r' → Eff (x % 20) S (doneG rm en S x).1 r r' → Q (.ref t) H'
theorem sp_ldone8_len {A vs H Q E} (h : sp_ldone8 A vs H Q E) : vs.length = (["space", "x"] : List Str).length := by
  obtain ⟨_, _, _, _, _, _, _, _, _, _, rfl, _⟩ := h
  rfl
section
variable {P : Program} {w : World} {K : PySem.W.Frag} {mg : Str → Option Value} {base : Heap} {A : Ad}
theorem ok__law_done (T : Txt K mg A) : FnOk P w K mg base CX0 8 A.f__law_done A.d__law_done ["space", "x"] (sp_ldone8 A) := by
  refine Fun.ok T.F__law_done sc__law_done (fun vs H Q E h => ?_) (fun cdv Ar outer s H vs Q E hr h => ?_)
  · exact sp_ldone8_len h
  · have hu := hu_of hr
    refine ⟨_, (pss_cons (ps_asg (pe_op op_mod (pe_callTy call_intI (by rfl) T.z_int (by decide +kernel) (pa_cons (pv 1) pa_nil)) pe_int) (pg_name (i := 2) sc__law_done.nd rfl (Or.inl rfl)))
    (pss_cons (ps_asg (pe_call (ok__law_place T) (hr.mono (by decide)) (by rfl) T.g__law_place T.k__law_place T.b__law_place .nil pass0 (pa_cons (pe_op op_fdiv (pv 1) pe_int) pa_nil)) (pg_name (i := 3) sc__law_done.nd rfl (Or.inl rfl)))
    (pss_cons (ps_asg (pe_op op_fdiv (pv 1) pe_int) (pg_name (i := 4) sc__law_done.nd rfl (Or.inl rfl)))
    (pss_cons (ps_if (pt_cmpR op_lt (pv 2) pe_int (nomark _)) (pss_cons (ps_asg (pe_op op_mod (pe_callTy call_intI (by rfl) T.z_int (by decide +kernel) (pa_cons (pv 4) pa_nil)) pe_int) (pg_name (i := 5) sc__law_done.nd rfl (Or.inl rfl)))
    (Evl.pss_cut (ps_if (pt_cmpR op_eq (pe_op op_mod (pe_op op_fdiv (pv 4) pe_int) pe_int) pe_int (nomark _)) (pss_one (ps_asg (pe_op op_mod (pe_op op_fdiv (pv 4) pe_int) pe_int) (pg_name (i := 5) sc__law_done.nd rfl (Or.inl rfl)))) pss_nil)
    (pss_cons (ps_asg (pe_call (ok__law_word T) (hr.mono (by decide)) (by rfl) T.g__law_word T.k__law_word T.b__law_word .nil pass0 (pa_cons (pv 0) (pa_cons (pe_op op_fdiv (pv 4) pe_int) pa_nil))) (pg_name (i := 6) sc__law_done.nd rfl (Or.inl rfl)))
    (Evl.pss_cut (ps_if (pt_cmpR op_eq (pv 2) pe_int (nomark _)) (pss_cons (ps_asg (pe_meth (pv 0) T.cl_Space T.me_Space_root (ok_Space_root T) (hr.mono (by decide)) T.b_Space_root .nil pass0 (pa_cons (pv 3) pa_nil)) (pg_name (i := 6) sc__law_done.nd rfl (Or.inl rfl)))
    (pss_one (ps_expr (pe_meth (pv 0) T.cl_Space T.me_Space_set_root (ok_Space_set_root T) (hr.mono (by decide)) T.b_Space_set_root .nil pass0 (pa_cons (pv 3) (pa_cons pe_int pa_nil)))))) pss_nil)
    (pss_one (ps_ret (pe_call (ok__law_new T) (hr.mono (by decide)) (by rfl) T.g__law_new T.k__law_new T.b__law_new .nil pass0 (pa_cons (pv 0) (pa_cons (pv 6) (pa_cons (pv 5) (pa_cons (pv 3) pa_nil))))))))))) pss_nil)
    (pss_cons (ps_if (pt_cmpR op_eq (pv 2) pe_int (nomark _)) (pss_cons (ps_expr (pe_meth (pv 0) T.cl_Space T.me_Space_set_root (ok_Space_set_root T) (hr.mono (by decide)) T.b_Space_set_root .nil pass0 (pa_cons (pv 3) (pa_cons (pe_call (ok__law_word T) (hr.mono (by decide)) (by rfl) T.g__law_word T.k__law_word T.b__law_word .nil pass0 (pa_cons (pv 0) (pa_cons (pv 4) pa_nil))) pa_nil))))
    (pss_one (ps_ret (pe_lst (pa_cons pe_str (pa_cons (pe_call (ok__law_shown T) (hr.mono (by decide)) (by rfl) T.g__law_shown T.k__law_shown T.b__law_shown .nil pass0 (pa_cons (pe_meth (pv 0) T.cl_Space T.me_Space_root (ok_Space_root T) (hr.mono (by decide)) T.b_Space_root .nil pass0 (pa_cons (pv 3) pa_nil)) pa_nil)) pa_nil)))))) pss_nil)
    (pss_cons (ps_if (pt_cmpR op_gt (pv 2) pe_int (nomark _)) (pss_one (ps_ret (pe_call (ok__law_work T) (hr.mono (by decide)) (by rfl) T.g__law_work T.k__law_work T.b__law_work .nil pass0 (pa_cons (pv 0) (pa_cons (pv 2) pa_nil))))) pss_nil)
    (pss_cons (ps_if (pt_chain op_le op_lt pe_int (pv 2) pe_int) (pss_one (ps_ret (pe_call (ok__law_held T) (hr.mono (by decide)) (by rfl) T.g__law_held T.k__law_held T.b__law_held .nil pass0 (pa_cons (pv 0) (pa_cons (pv 2) (pa_cons (pv 3) (pa_cons (pv 4) pa_nil))))))) pss_nil)
    (pss_one (ps_ret (pe_call (ok__law_changed T) (hr.mono (by decide)) (by rfl) T.g__law_changed T.k__law_changed T.b__law_changed .nil pass0 (pa_cons (pv 0) (pa_cons (pv 2) (pa_cons (pv 3) (pa_cons (pv 4) pa_nil)))))))))))))), ?_⟩
    obtain ⟨sp, rm, en, al, mom, G, n, S, r, x, rfl, R, hn, hrm, he, h14, k⟩ := h
    have ag := R.1
    have agr := ag.r
    have agh := ag.h
    have c0 : ∀ z y : Int, 0 < y → y < 1000 → CDiv z y := fun z y h1 h2 => ⟨by omega, by omega⟩
    have good : ∀ x, Vw S.g.ts.length (wordG S.g x) ∧ (wordG S.g x % 2 = 0 → Rch (prow S.g.ts) (0 :: (S.g.roots ++ S.g.held)) (wordG S.g x / 2)) := fun x => by
      have m : wordG S.g x % 2 = 0 → wordG S.g x ∈ (0 : Int) :: (S.g.roots ++ S.g.held) := fun e => by
        rcases wordG_in ag.r e with h | h
        · rw [h]
          exact List.mem_cons_self ..
        · exact List.mem_cons_of_mem _ (List.mem_append_left _ h)
      exact ⟨fun e => ag.a.vr _ (m e) e, fun e => ag.a.rt (m e) e⟩
    have x0 := Int.emod_nonneg x (show (20 : Int) ≠ 0 by decide)
    have x1 := Int.emod_lt_of_pos x (show (0 : Int) < 20 by decide)
    simp! only [rIsL]
    refine ⟨by decide, c0 _ _ (by decide) (by decide), _, rfl, fun j hj ej => ⟨c0 _ _ (by decide) (by decide), ?_⟩⟩
    have ej2 : (lpl (x / 20)).toNat = j := by rw [← ej, Int.toNat_natCast]
    have ec : doneG rm en S x = (if x % 20 < 4 then
        (if x % 20 = 3 then newG rm en ⟨setR S.g j 0, S.wk⟩ ((S.g.roots[j]?).getD 0) (if x / 640 / 5 % 16 = 3 then x / 640 / 80 % 60 else x / 640 % 5).toNat j else newG rm en S (wordG S.g (x / 640 / 80)) (if x / 640 / 5 % 16 = 3 then x / 640 / 80 % 60 else x / 640 % 5).toNat j)
      else if x % 20 = 4 then (⟨setR S.g j (wordG S.g (x / 640)), S.wk⟩, [.str "root", .int (shown (wordG S.g (x / 640)))])
      else if 14 < x % 20 then workG S (x % 20)
      else if 9 ≤ x % 20 ∧ x % 20 < 12 then heldG S (x % 20) j (x / 640)
      else changedG S (x % 20) j (x / 640)) := by
      unfold doneG
      simp only [ej2]
    generalize doneG rm en S x = CC at ec k
    have hlt : j < S.g.roots.length := by omega
    have rj : (S.g.roots.map (rl r.ns))[j]? = some (rl r.ns S.g.roots[j]) := by rw [List.getElem?_map, List.getElem?_eq_getElem hlt]; rfl
    have wm := List.getElem_mem hlt
    have ew : (S.g.roots[j]?).getD 0 = S.g.roots[j] := by
      rw [List.getElem?_eq_getElem hlt]
      rfl
    rw [ew] at ec
    generalize S.g.roots[j] = w at rj wm ec ew
    have chg : ¬ x % 20 < 4 → ¬ x % 20 = 4 → ¬ 14 < x % 20 → ¬ (9 ≤ x % 20 ∧ x % 20 < 12) → sp_lchg8 A [V.ref sp, V.int (x % 20), V.int (j : Int), V.int (x / 640)] H Q E0 := fun c1 c2 c3 c4 => by
      rw [if_neg c1, if_neg c2, if_neg c3, if_neg c4] at ec
      subst ec
      exact ⟨sp, rm, en, al, mom, G, n, S, r, x % 20, j, x / 640, rfl, R, hj, hn, by omega, by omega, k⟩
    refine ite2 (fun d4 => ?_) (fun d4 => ite2 (fun e4 => ?_) (fun e4 => ite2 (fun d14 => ?_) (fun d14 => ite2 (fun d9 => ite2 (fun d12 => ?_) (fun d12 => chg d4 e4 d14 fun z => d12 z.2)) (fun d9 => chg d4 e4 d14 fun z => d9 z.1))))
    · rw [if_pos d4] at ec
      obtain ⟨m, em, hm⟩ : ∃ m : Nat, (if x / 640 / 5 % 16 = 3 then x / 640 / 80 % 60 else x / 640 % 5) = (m : Int) ∧ m ≤ 100 := by
        have p0 := Int.emod_nonneg (x / 640) (show (5 : Int) ≠ 0 by decide)
        have p1 := Int.emod_lt_of_pos (x / 640) (show (0 : Int) < 5 by decide)
        have q0 := Int.emod_nonneg (x / 640 / 80) (show (60 : Int) ≠ 0 by decide)
        have q1 := Int.emod_lt_of_pos (x / 640 / 80) (show (0 : Int) < 60 by decide)
        split
        · exact ⟨(x / 640 / 80 % 60).toNat, (Int.toNat_of_nonneg q0).symm, by omega⟩
        · exact ⟨(x / 640 % 5).toNat, (Int.toNat_of_nonneg p0).symm, by omega⟩
      rw [em, Int.toNat_natCast] at ec
      refine ⟨by decide, ?_⟩
      refine ⟨fun σ5 H5 => σ5 = [some (V.ref sp), some (V.int x), some (V.int (x % 20)), some (V.int (j : Int)), some (V.int (x / 640)), some (V.int (m : Int)), none] ∧ H5 = H, ?_, ?_⟩
      · simp! only [rIsL]
        refine ⟨c0 _ _ (by decide) (by decide), by decide, ite2 (fun c => ⟨c0 _ _ (by decide) (by decide), by decide, ?_⟩) (fun c => ?_)⟩
        · rw [if_pos c] at em
          rw [em]
        · rw [if_neg c] at em
          rw [em]
      · rintro σ5 H5 ⟨rfl, rfl⟩
        simp! only [rIsL]
        refine ⟨c0 _ _ (by decide) (by decide), sp, rm, en, al, mom, G, n, S, r, _, rfl, R, ?_⟩
        refine ⟨fun σ6 H6 => ∃ (S1 : GS) (kd : Int), σ6 = [some (V.ref sp), some (V.int x), some (V.int (x % 20)), some (V.int (j : Int)), some (V.int (x / 640)), some (V.int (m : Int)), some (V.int (rl r.ns kd))] ∧ Rep A H6 sp rm en al mom G n S1 r ∧ Agr S1.g.ts r.ns r.row (0 :: (S1.g.roots ++ S1.g.held ++ [kd])) ∧ CC = newG rm en S1 kd m j ∧ S1.wk = S.wk, ?_, ?_⟩
        · obtain ⟨wk, F, Z0, sg, mk⟩ := R.edit
          obtain ⟨dx, s, pr, rt, hl, mo, F1, Z⟩ := id Z0
          have ho := Z.ho
          dsimp! only [ho]
          refine ite2 (fun d3 => ?_) (fun d3 => ?_)
          · rw [if_pos d3] at ec
            refine ⟨sp, rm, en, _, _, _, _, _, _, _, _, j, _, rfl, Z0, rj, ?_⟩
            refine ⟨_, _, ho, spF_mset, sp, rm, en, _, _, _, _, _, _, _, _, j, 0, rfl, Z0, by rw [List.length_map]; omega, fun H7 Z7 => ?_⟩
            have a0 : Agr S.g.ts r.ns r.row (0 :: (S.g.roots.set j 0 ++ S.g.held)) := ag.a.root (ag.a.vr 0 (List.mem_cons_self ..)) (fun q => ag.a.rt (List.mem_cons_self ..) q)
            have RR := mk H7 r.row (setR S.g j 0) n (by
              show SQ A H7 sp rm en r.row (al, wk) mom r.na r.nc ((S.g.roots.set j 0).map (rl r.ns)) (S.g.held.map (rl r.ns)) F
              rw [List.map_set, rl_zero ag.z]
              exact Z7) ⟨a0, ag.z, ag.o, by
              show (S.g.roots.set j 0).length = 16
              rw [List.length_set]
              exact ag.r, ag.h, ag.t, ag.s⟩ rfl rfl (Nat.le_refl _)
            refine ⟨⟨setR S.g j 0, S.wk⟩, w, rfl, RR, ag.a.mono fun y hy => ?_, ec, rfl⟩
            rcases List.mem_cons.mp hy with e | hy
            · exact e ▸ List.mem_cons_self ..
            · rcases List.mem_append.mp hy with hy | hy
              · rcases List.mem_append.mp hy with hy | hy
                · rcases List.mem_or_eq_of_mem_set hy with hy | hy
                  · exact List.mem_cons_of_mem _ (List.mem_append_left _ hy)
                  · rw [hy]
                    exact List.mem_cons_self ..
                · exact List.mem_cons_of_mem _ (List.mem_append_right _ hy)
              · rw [List.mem_singleton] at hy
                rw [hy]
                exact List.mem_cons_of_mem _ (List.mem_append_left _ wm)
          · rw [if_neg d3] at ec
            obtain ⟨v2, r2⟩ := good (x / 640 / 80)
            have cc : ∀ y ∈ 0 :: (S.g.roots ++ S.g.held ++ [wordG S.g (x / 640 / 80)]), y ∈ 0 :: (S.g.roots ++ S.g.held) ∨ y = wordG S.g (x / 640 / 80) := fun y hy => by
              rcases List.mem_cons.mp hy with e | hy
              · exact .inl (e ▸ List.mem_cons_self ..)
              · rcases List.mem_append.mp hy with hy | hy
                · exact .inl (List.mem_cons_of_mem _ hy)
                · exact .inr (List.mem_singleton.mp hy)
            exact ⟨S, _, rfl, R, ag.a.sub (fun y hy => (cc y hy).elim (ag.a.vr y) fun e => e ▸ v2) (fun y hy ey => (cc y hy).elim (fun h => ag.a.rt h ey) fun h => by subst h; exact r2 ey), ec, rfl⟩
        · rintro σ6 H6 ⟨S1, kd, rfl, R1, ga, e1, e2⟩
          simp! only [rIsL]
          subst e1
          exact ⟨sp, rm, en, al, mom, G, n, S1, r, kd, m, j, rfl, R1, ga, hm, hj, hn, hrm, he, fun H' t r' gt RR ef => k H' t r' gt RR ((ef (x % 20) d4).of e2)⟩
    · rw [if_neg d4, if_pos e4] at ec
      obtain ⟨wk, F, Z0, sg, mk⟩ := R.edit
      obtain ⟨dx, s, pr, rt, hl, mo, F1, Z⟩ := id Z0
      have ho := Z.ho
      obtain ⟨v2, r2⟩ := good (x / 640)
      refine ⟨_, _, ho, spF_mset, sp, rm, en, al, mom, G, n, S, r, _, rfl, R, sp, rm, en, _, _, _, _, _, _, _, _, j, _, rfl, Z0, by rw [List.length_map]; omega, fun H3 Z3 => ?_⟩
      generalize wordG S.g (x / 640) = v at v2 r2 ec Z3
      obtain ⟨dx3, s3, pr3, rt3, hl3, mo3, F3, Y3⟩ := id Z3
      refine ⟨_, _, Y3.ho, spF_mroot, sp, rm, en, _, _, _, _, _, _, _, _, j, rl r.ns v, rfl, Z3, List.getElem?_set_self (by rw [List.length_map]; exact hlt), _, rfl, ?_⟩
      rw [shown_rl]
      refine ⟨by decide, fun t ht => ?_⟩
      have RR := mk H3 r.row (setR S.g j v) (n + 1) (by
        show SQ A H3 sp rm en r.row (al, wk) mom r.na r.nc ((S.g.roots.set j v).map (rl r.ns)) (S.g.held.map (rl r.ns)) F
        rw [List.map_set]
        exact Z3) ⟨ag.a.root v2 r2, ag.z, ag.o, by
        show (S.g.roots.set j v).length = 16
        rw [List.length_set]
        exact ag.r, Nat.le_trans ag.h (by omega), Nat.le_trans ag.t (by omega), ag.s⟩ rfl rfl (by omega)
      subst ec
      exact k _ t _ (RR.out ht) (RR.new ht) ⟨fun c => by omega, fun _ _ => ⟨rfl, rfl⟩, ⟨fun _ c => by omega, fun _ c => by omega⟩, fun _ c => by omega, fun _ c => by omega, fun _ c => by omega, fun _ _ => ⟨rfl, rfl⟩⟩
    · rw [if_neg d4, if_neg e4, if_pos d14] at ec
      subst ec
      exact ⟨sp, rm, en, al, mom, G, n, S, r, x % 20, rfl, R, d14, hn, k⟩
    · rw [if_neg d4, if_neg e4, if_neg d14, if_pos ⟨d9, d12⟩] at ec
      subst ec
      exact ⟨sp, rm, en, al, mom, G, n, S, r, x % 20, j, x / 640, rfl, R, hj, hn, d9, d12, k⟩
end

def sp_leq9 : Sp := fun vs H Q _ => ∃ (p q : Addr) (xs ys : List V), vs = [.ref p, .ref q] ∧ H p = some (.lst xs) ∧ H q = some (.lst ys) ∧ xs.length = ys.length ∧ xs.length ≤ 1000 ∧ (∀ (i : Nat) x y, xs[i]? = some x → ys[i]? = some y → (∃ a b, x = .int a ∧ y = .int b) ∨ ∃ a b, x = .str a ∧ y = .str b) ∧ Q (.bl (decide (xs = ys))) H
theorem sp_leq9_len {vs H Q E} (h : sp_leq9 vs H Q E) : vs.length = (["told", "due"] : List Str).length := by
  obtain ⟨_, _, _, _, rfl, _⟩ := h
  rfl
theorem leq_same {p q : Addr} {H : Hp} {Q : VK} {E : XK} {xs : List V} (h1 : H p = some (.lst xs)) (h2 : H q = some (.lst xs)) (hl : xs.length ≤ 1000) (ht : ∀ x ∈ xs, (∃ i, x = .int i) ∨ ∃ s, x = .str s) (k : Q (.bl true) H) : sp_leq9 [.ref p, .ref q] H Q E :=
  ⟨p, q, xs, xs, rfl, h1, h2, rfl, hl, fun i x y e1 e2 => by
    have e : x = y := Option.some.inj (e1.symm.trans e2)
    subst e
    rcases ht x (List.mem_of_getElem? e1) with ⟨a, rfl⟩ | ⟨a, rfl⟩
    · exact .inl ⟨a, a, rfl, rfl⟩
    · exact .inr ⟨a, a, rfl, rfl⟩, by rw [decide_eq_true rfl]; exact k⟩
section
variable {P : Program} {w : World} {K : PySem.W.Frag} {mg : Str → Option Value} {base : Heap} {A : Ad}
theorem ok__law_equal (T : Txt K mg A) : FnOk P w K mg base CX0 1 A.f__law_equal A.d__law_equal ["told", "due"] (sp_leq9) := by
  refine Fun.ok T.F__law_equal sc__law_equal (fun vs H Q E h => ?_) (fun cdv Ar outer s H vs Q E hr h => ?_)
  · exact sp_leq9_len h
  · have hu := hu_of hr
    refine ⟨_, (pss_cons (ps_if (pt_cmpR op_ne (pe_callB call_lenM (by rfl) T.z_len PySem.boot_len (pa_cons (pv 0) pa_nil)) (pe_callB call_lenM (by rfl) T.z_len PySem.boot_len (pa_cons (pv 1) pa_nil)) (nomark _)) (pss_one (ps_ret pe_bl)) pss_nil)
    (pss_cons (ps_for PassesOwn.never rfl (pi_range1 (by rfl) T.z_range (pa_cons (pe_callB call_lenM (by rfl) T.z_len PySem.boot_len (pa_cons (pv 1) pa_nil)) pa_nil)) (pg_name (i := 2) sc__law_equal.nd rfl (Or.inl rfl))
      (pss_one (ps_if (PW.pt (pw_or (pt_val (pe_callB call_isS (by rfl) T.z_isinstance (by decide +kernel) (pa_cons (pe_ix ix_lstM (pv 0) (pv 2) (fun _ _ => rfl)) (pa_cons (pe_bltn (v := .ty "bool") (by rfl) T.z_bool (by decide +kernel) rfl) pa_nil)))) (pw_or (pt_val (pe_callB call_isS (by rfl) T.z_isinstance (by decide +kernel) (pa_cons (pe_ix ix_lstM (pv 1) (pv 2) (fun _ _ => rfl)) (pa_cons (pe_bltn (v := .ty "bool") (by rfl) T.z_bool (by decide +kernel) rfl) pa_nil)))) (pw_or1 (pt_cmpR op_ne (pe_ix ix_lstM (pv 0) (pv 2) (fun _ _ => rfl)) (pe_ix ix_lstM (pv 1) (pv 2) (fun _ _ => rfl)) (nomark _)))))) (pss_one (ps_ret pe_bl)) pss_nil)))
    (pss_one (ps_ret pe_bl)))), ?_⟩
    obtain ⟨p, q, xs, ys, rfl, hp, hq, hl, hz, hx, k⟩ := h
    simp! only [hp, hq, List.length_map]
    rw [if_neg (by omega)]
    refine for_rng (ys.length : Int) (fun R h => ?_) (by omega) (by omega) (fun i σ' H' => ∃ kk : Option V, σ' = [some (V.ref p), some (V.ref q), kk] ∧ H' = H ∧ xs.take i = ys.take i) ⟨none, rfl, rfl, rfl⟩ ?_ ?_
    · simp! only [hp, hq, List.length_map]
      exact h
    · rintro i σ' H' hi ⟨kk, rfl, rfl, et⟩
      have hlt : i < ys.length := by omega
      have hlt1 : i < xs.length := by omega
      have g1 : xs[i]? = some xs[i] := List.getElem?_eq_getElem hlt1
      have g2 : ys[i]? = some ys[i] := List.getElem?_eq_getElem hlt
      have hat := atI_nat g1
      have hat2 := atI_nat g2
      have t1 := List.take_succ_eq_append_getElem hlt1
      have t2 := List.take_succ_eq_append_getElem hlt
      have ne : xs[i] ≠ ys[i] → ¬ xs = ys := fun h e => by
        subst e
        exact h rfl
      have hm := hx i _ _ g1 g2
      generalize xs[i] = x at *
      generalize ys[i] = y at *
      have nx : x = y → xs.take (i + 1) = ys.take (i + 1) := fun e => by rw [t1, t2, et, e]
      rcases hm with ⟨a, b, rfl, rfl⟩ | ⟨a, b, rfl, rfl⟩
      · simp! only [hp, hq, hat, hat2, List.length_map]
        refine ite2 (fun c => ?_) (fun c => nx (by rw [Decidable.not_not.mp c]))
        rw [decide_eq_false (ne fun z => c (V.int.inj z))] at k
        exact k
      · simp! only [hp, hq, hat, hat2, List.length_map]
        refine ⟨false, rfl, ?_⟩
        rw [if_neg (by decide)]
        refine ⟨false, rfl, ?_⟩
        rw [if_neg (by decide)]
        refine ite2 (fun c => ?_) (fun c => nx (by rw [Decidable.not_not.mp c]))
        rw [decide_eq_false (ne fun z => c (V.str.inj z))] at k
        exact k
    · rintro σ' H' ⟨kk, rfl, rfl, et⟩
      simp! only [rIsL]
      rw [List.take_of_length_le (by omega), List.take_of_length_le (by omega)] at et
      rw [decide_eq_true et] at k
      exact k
end

def dP (f g : Int → Int) (is : List Int) : List (Key × V) := is.map fun i => (Sum.inl (f i), V.int (g i))
theorem dP_len {f g : Int → Int} {is : List Int} : (dP f g is).length = is.length := by
  unfold dP
  rw [List.length_map]
theorem dP_none {f g : Int → Int} : ∀ {is : List Int} {n : Int}, (∀ i ∈ is, f i ≠ n) → valV (dP f g is) (Sum.inl n) = none
  | [], n, _ => rfl
  | i :: is, n, h => by
    show valV ((Sum.inl (f i), V.int (g i)) :: dP f g is) (Sum.inl n) = none
    rw [valV_neg (fun z => h i (List.mem_cons_self ..) (Sum.inl.inj z))]
    exact dP_none fun j hj => h j (List.mem_cons_of_mem _ hj)
theorem dP_some {f g : Int → Int} : ∀ {is : List Int} {i : Int}, i ∈ is → (∀ j ∈ is, f j = f i → j = i) → valV (dP f g is) (Sum.inl (f i)) = some (.int (g i))
  | j :: is, i, h, inj => by
    show valV ((Sum.inl (f j), V.int (g j)) :: dP f g is) (Sum.inl (f i)) = _
    by_cases c : f j = f i
    · rw [inj j (List.mem_cons_self ..) c]
      exact valV_pos rfl
    · rw [valV_neg (fun z => c (Sum.inl.inj z))]
      rcases List.mem_cons.mp h with e | h
      · exact absurd (by rw [e]) c
      · exact dP_some h fun k hk => inj k (List.mem_cons_of_mem _ hk)
theorem dP_put {f g : Int → Int} {is : List Int} {i : Int} (h : ∀ j ∈ is, f j ≠ f i) : putK (dP f g is) (Sum.inl (f i)) (.int (g i)) = dP f g (is ++ [i]) := by
  rw [putK_new _ (dP_none h)]
  unfold dP
  rw [List.map_append]
  rfl
structure PR where
  p : Addr
  p1 : Addr
  p2 : Addr
  ws : List Int
structure PRok (H : Hp) (wl : Addr) (ts : List TH) (ws0 N1 N2 : List Int) (pr : PR) : Prop where
  n0 : pr.p ≠ wl
  n1 : pr.p1 ≠ wl
  n2 : pr.p2 ≠ wl
  g0 : H pr.p = some (.lst [V.ref pr.p1, V.ref pr.p2])
  g1 : H pr.p1 = some (.lst ((pr.ws.map (rl N1)).map V.int))
  g2 : H pr.p2 = some (.lst ((pr.ws.map (rl N2)).map V.int))
  l : pr.ws.length ≤ 2000
  v : ∀ w ∈ pr.ws, Vw ts.length w ∧ (w % 2 = 0 → Rch (prow ts) ws0 (w / 2))
theorem PRok.same {H H' wl ts ws0 N1 N2 pr} (h : PRok H wl ts ws0 N1 N2 pr) (s : ∀ b o, b ≠ wl → (∃ xs, o = .lst xs) → H b = some o → H' b = some o) : PRok H' wl ts ws0 N1 N2 pr :=
  ⟨h.n0, h.n1, h.n2, s _ _ h.n0 ⟨_, rfl⟩ h.g0, s _ _ h.n1 ⟨_, rfl⟩ h.g1, s _ _ h.n2 ⟨_, rfl⟩ h.g2, h.l, h.v⟩
structure AL (H H' : Hp) (da db wl : Addr) (ts : List TH) (ws0 N1 N2 : List Int) (c : Nat) (is : List Int) (prs : List PR) : Prop where
  sm : Same H H'
  ga : H' da = some (.dK (dP (nu N1) (nu N2) is))
  gb : H' db = some (.dK (dP (nu N2) (nu N1) is))
  gw : H' wl = some (.lst (prs.map fun pr => V.ref pr.p))
  nd : is.Nodup
  ir : ∀ z ∈ is, Rch (prow ts) ws0 z
  pp : ∀ pr ∈ prs, PRok H' wl ts ws0 N1 N2 pr
  cnt : c + prs.length = 1 + is.length

def sp_lrow8 (A : Ad) : Sp := fun vs H Q _ => ∃ (a : Addr) (rm en : Int) (row : List OB) (al : Bool × V) (mom : List Int) (na nc : Int) (roots held : List Int) (F : Hp) (n : Int) (o : OB), vs = [.ref a, .int n] ∧ SQ A H a rm en row al mom na nc roots held F ∧ getO row n = some o ∧ o.sl.length ≤ 1000 ∧ ∀ H' p, Same H H' → H p = none → H' p = some (.lst ((o.kind :: o.sl).map V.int)) → Q (.ref p) H'
theorem sp_lrow8_len {A vs H Q E} (h : sp_lrow8 A vs H Q E) : vs.length = (["space", "number"] : List Str).length := by
  obtain ⟨_, _, _, _, _, _, _, _, _, _, _, _, _, rfl, _⟩ := h
  rfl
section
variable {P : Program} {w : World} {K : PySem.W.Frag} {mg : Str → Option Value} {base : Heap} {A : Ad}
theorem ok__law_row (T : Txt K mg A) : FnOk P w K mg base CX0 3 A.f__law_row A.d__law_row ["space", "number"] (sp_lrow8 A) := by
  refine Fun.ok T.F__law_row sc__law_row (fun vs H Q E h => ?_) (fun cdv Ar outer s H vs Q E hr h => ?_)
  · exact sp_lrow8_len h
  · have hu := hu_of hr
    refine ⟨_, (pss_one (ps_ret (pe_op op_cat (pe_lst (pa_cons (pe_meth (pe_fld (pv 0) rfl) T.cl_Store T.me_Store_kind (ok_Store_kind T) (hr.mono (by decide)) T.b_Store_kind .nil pass0 (pa_cons (pv 1) pa_nil)) pa_nil)) (pe_meth (pe_fld (pv 0) rfl) T.cl_Store T.me_Store_slots (ok_Store_slots T) (hr.mono (by decide)) T.b_Store_slots .nil pass0 (pa_cons (pv 1) pa_nil))))), ?_⟩
    obtain ⟨a, rm, en, row, al, mom, na, nc, roots, held, F, n, o, rfl, Z0, go, hl, k⟩ := h
    obtain ⟨dx, s, pr, rt, hl2, mo, F1, Z⟩ := id Z0
    have ho := Z.ho
    obtain ⟨_, _, _, _, _, hs⟩ := Z.st.ho
    dsimp! only [ho, hs, T.cl_Store, T.no_Store_room, T.no_Store_entries, T.no_Store_words, T.no_Store__places, T.no_Store__free, T.no_Store__fresh, stF_room, stF_entries, stF_words, stF_places, stF_free, stF_fresh, stF_mused, stF_mexists, stF_mnumbers, stF_mfree, stF_malloc, stF_msize, stF_mkind, stF_mskind, stF_mget, stF_mput, stF_mslots, stF_mdrop, stF_mclose, stF_msnap, stF_mrest, stF_mexch, stF_len, stF_pf, stF_pd, stF_pl]
    have sz : (300000 : Nat) ≤ sizeLine := by decide
    refine ⟨s, rm, en, row, F1, n, o, rfl, Z.st, go, by omega, fun p hp => ?_⟩
    have sm := same_new (o := HO.lst [V.int o.kind]) hp
    have gp : upd H p (HO.lst [V.int o.kind]) p = some (.lst [V.int o.kind]) := upd_same
    generalize upd H p (HO.lst [V.int o.kind]) = H1 at sm gp ⊢
    have Z2 := Z.same sm
    obtain ⟨_, _, _, _, _, hs2⟩ := Z2.st.ho
    refine ⟨_, _, _, Z2.ho, T.cl_Space, T.no_Space_store, _, spF_store, s, rfl, _, _, hs2, stF_mslots, s, rm, en, row, F1, n, o, rfl, Z2.st, go, fun q hq => ⟨q, rfl, _, same_new hq _ _ gp, _, upd_same, by rw [List.length_map, List.length_singleton]; omega, fun p3 hp3 => ?_⟩⟩
    exact k _ p3 (same_trans sm (same_trans (same_new hq) (same_new hp3))) (none_of (same_trans sm (same_new hq)) hp3) upd_same
end

def sp_lpair8 (A : Ad) : Sp := fun vs H Q _ => ∃ (H0 : Hp) (one other da db : Addr) (f s : Int) (kt kb : List (Key × V)), vs = [.ref one, .ref other, .int f, .int s, .ref da, .ref db] ∧ H da = some (.dK kt) ∧ H db = some (.dK kb) ∧ da ≠ db ∧ kt.length ≤ 2000 ∧ kb.length ≤ 2000 ∧
  ((valV kt (Sum.inl f) = some (.int s) ∧ valV kb (Sum.inl s) = some (.int f) ∧ Q (.bl true) H) ∨
   (valV kt (Sum.inl f) = none ∧ valV kb (Sum.inl s) = none ∧ Same H0 H ∧ H0 da = none ∧ H0 db = none ∧
     ∃ (rm en : Int) (row1 : List OB) (al1 : Bool × V) (mom1 : List Int) (na1 nc1 : Int) (roots1 held1 : List Int) (F1 : Hp) (row2 : List OB) (al2 : Bool × V) (mom2 : List Int) (na2 nc2 : Int) (roots2 held2 : List Int) (F2 : Hp) (o1 o2 : OB), SQ A H0 one rm en row1 al1 mom1 na1 nc1 roots1 held1 F1 ∧ SQ A H0 other rm en row2 al2 mom2 na2 nc2 roots2 held2 F2 ∧ getO row1 f = some o1 ∧ getO row2 s = some o2 ∧ o1.sl.length = o2.sl.length ∧
     Q (.bl true) (upd (upd H da (.dK (putK kt (Sum.inl f) (.int s)))) db (.dK (putK kb (Sum.inl s) (.int f))))))
theorem sp_lpair8_len {A vs H Q E} (h : sp_lpair8 A vs H Q E) : vs.length = (["one", "other", "first", "second", "there", "back"] : List Str).length := by
  obtain ⟨_, _, _, _, _, _, _, _, _, rfl, _⟩ := h
  rfl
section
variable {P : Program} {w : World} {K : PySem.W.Frag} {mg : Str → Option Value} {base : Heap} {A : Ad}
theorem ok__law_paired (T : Txt K mg A) : FnOk P w K mg base CX0 2 A.f__law_paired A.d__law_paired ["one", "other", "first", "second", "there", "back"] (sp_lpair8 A) := by
  refine Fun.ok T.F__law_paired sc__law_paired (fun vs H Q E h => ?_) (fun cdv Ar outer s H vs Q E hr h => ?_)
  · exact sp_lpair8_len h
  · have hu := hu_of hr
    refine ⟨_, (pss_cons (ps_if (PW.pt (pw_or (pt_cmpR (op_dinM hu) (pv 2) (pv 4) (by rfl)) (pw_or1 (pt_cmpR (op_dinM hu) (pv 3) (pv 5) (by rfl))))) (pss_one (ps_ret (pe_and (pe_cmpR (op_dinM hu) (pv 2) (pv 4) (by rfl)) (pe_and (pe_cmpR (op_dinM hu) (pv 3) (pv 5) (by rfl)) (pe_and (pe_cmpR op_eq (pe_ix (ix_dictM hu) (pv 4) (pv 2) (fun _ _ => rfl)) (pv 3) (nomark _)) (pe_one (pe_cmpR op_eq (pe_ix (ix_dictM hu) (pv 5) (pv 3) (fun _ _ => rfl)) (pv 2) (nomark _)))))))) pss_nil)
    (pss_cons (ps_asg (pv 3) (pg_sub (pv 4) (pv 2) (set_dictM hu)))
    (pss_cons (ps_asg (pv 2) (pg_sub (pv 5) (pv 3) (set_dictM hu)))
    (pss_cons (ps_if (PW.pt (pw_or (pt_cmpR op_isnot_bl (pe_meth (pe_fld (pv 0) rfl) T.cl_Store T.me_Store_exists (ok_Store_exists T) (hr.mono (by decide)) T.b_Store_exists .nil pass0 (pa_cons (pv 2) pa_nil)) pe_bl (nomark _)) (pw_or1 (pt_cmpR op_isnot_bl (pe_meth (pe_fld (pv 1) rfl) T.cl_Store T.me_Store_exists (ok_Store_exists T) (hr.mono (by decide)) T.b_Store_exists .nil pass0 (pa_cons (pv 3) pa_nil)) pe_bl (nomark _))))) (pss_one (ps_ret pe_bl)) pss_nil)
    (pss_one (ps_ret (pe_cmpR op_eq (pe_meth (pe_fld (pv 0) rfl) T.cl_Store T.me_Store_size (ok_Store_size T) (hr.mono (by decide)) T.b_Store_size .nil pass0 (pa_cons (pv 2) pa_nil)) (pe_meth (pe_fld (pv 1) rfl) T.cl_Store T.me_Store_size (ok_Store_size T) (hr.mono (by decide)) T.b_Store_size .nil pass0 (pa_cons (pv 3) pa_nil)) (nomark _)))))))), ?_⟩
    obtain ⟨H0, one, other, da, db, f, s, kt, kb, rfl, ht, hb, dn, l1, l2, k⟩ := h
    rcases k with ⟨v1, v2, k⟩ | ⟨v1, v2, sm, n1, n2, rm, en, row1, al1, mom1, na1, nc1, roots1, held1, F1, row2, al2, mom2, na2, nc2, roots2, held2, F2, o1, o2, Z1, Z2, g1, g2, el, k⟩
    · simp! only [ht, hb, v1, v2]
      exact k
    · simp! only [ht, hb, v1, v2]
      have sz : (300000 : Nat) ≤ sizeLine := by decide
      rw [if_neg (by decide), if_neg (by decide)]
      refine ⟨by omega, ?_⟩
      rw [upd_ne (Ne.symm dn), hb]
      refine ⟨by omega, ?_⟩
      have sm2 : Same H0 (upd (upd H da (.dK (putK kt (Sum.inl f) (.int s)))) db (.dK (putK kb (Sum.inl s) (.int f)))) := fun b u e => by
        rw [upd_ne (ne_of_none e n2), upd_ne (ne_of_none e n1)]
        exact sm _ _ e
      generalize upd (upd H da (.dK (putK kt (Sum.inl f) (.int s)))) db (.dK (putK kb (Sum.inl s) (.int f))) = H2 at sm2 k ⊢
      obtain ⟨dx1, s1, pr1, rt1, hl1, mo1, F3, Y1⟩ := Z1.same sm2
      obtain ⟨dx2, s2, pr2, rt2, hl2, mo2, F4, Y2⟩ := Z2.same sm2
      obtain ⟨_, _, _, _, _, hs1⟩ := Y1.st.ho
      obtain ⟨_, _, _, _, _, hs2⟩ := Y2.st.ho
      refine ⟨_, _, _, Y1.ho, T.cl_Space, T.no_Space_store, _, spF_store, s1, rfl, _, _, hs1, stF_mexists, s1, rm, en, row1, F3, f, rfl, Y1.st, true, by rw [decide_eq_true (getO_nums g1)], ?_⟩
      rw [if_neg (fun h => h rfl)]
      refine ⟨_, _, _, Y2.ho, T.cl_Space, T.no_Space_store, _, spF_store, s2, rfl, _, _, hs2, stF_mexists, s2, rm, en, row2, F4, s, rfl, Y2.st, true, by rw [decide_eq_true (getO_nums g2)], ?_⟩
      rw [if_neg (fun h => h rfl)]
      refine ⟨_, _, _, Y1.ho, T.cl_Space, T.no_Space_store, _, spF_store, s1, rfl, _, _, hs1, stF_msize, s1, rm, en, row1, F3, f, o1, rfl, Y1.st, g1, _, _, _, Y2.ho, T.cl_Space, T.no_Space_store, _, spF_store, s2, rfl, _, _, hs2, stF_msize, s2, rm, en, row2, F4, s, o2, rfl, Y2.st, g2, sc_ii, ?_⟩
      rw [decide_eq_true (by rw [el])]
      exact k
end

def sp_lalike8 (A : Ad) : Sp := fun vs H Q _ => ∃ (one other : Addr) (rm en : Int) (a1 a2 : Bool) (m1 m2 : List Int) (F G : Hp) (n : Nat) (S1 S2 : GS) (r1 r2 : RS), vs = [.ref one, .ref other] ∧ Rep A H one rm en a1 m1 F n S1 r1 ∧ Rep A H other rm en a2 m2 G n S2 r2 ∧ S1.g = S2.g ∧ n ≤ 900 ∧ ∀ H', Same H H' → Q (.bl true) H'
theorem sp_lalike8_len {A vs H Q E} (h : sp_lalike8 A vs H Q E) : vs.length = (["one", "other"] : List Str).length := by
  obtain ⟨_, _, _, _, _, _, _, _, _, _, _, _, _, _, _, rfl, _⟩ := h
  rfl
section
variable {P : Program} {w : World} {K : PySem.W.Frag} {mg : Str → Option Value} {base : Heap} {A : Ad}
theorem ok__law_alike (T : Txt K mg A) : FnOk P w K mg base CX0 4 A.f__law_alike A.d__law_alike ["one", "other"] (sp_lalike8 A) := by
  refine Fun.ok T.F__law_alike sc__law_alike (fun vs H Q E h => ?_) (fun cdv Ar outer s H vs Q E hr h => ?_)
  · exact sp_lalike8_len h
  · have hu := hu_of hr
    refine ⟨_, (pss_cons (ps_asg pe_dnewK (pg_name (i := 2) sc__law_alike.nd rfl (Or.inl rfl)))
    (pss_cons (ps_asg pe_dnewK (pg_name (i := 3) sc__law_alike.nd rfl (Or.inl rfl)))
    (pss_cons (ps_asg (pe_lst (pa_cons (pe_lst (pa_cons (pe_meth0 (pv 0) T.cl_Space T.me_Space_all_roots (ok_Space_all_roots T) (hr.mono (by decide)) T.b_Space_all_roots .nil pass0) (pa_cons (pe_meth0 (pv 1) T.cl_Space T.me_Space_all_roots (ok_Space_all_roots T) (hr.mono (by decide)) T.b_Space_all_roots .nil pass0) pa_nil))) pa_nil)) (pg_name (i := 4) sc__law_alike.nd rfl (Or.inl rfl)))
    (pss_cons (ps_for PassesOwn.never rfl (pi_range1 (by rfl) T.z_range (pa_cons pe_int pa_nil)) (pg_name (i := 5) sc__law_alike.nd rfl (Or.inl rfl))
      (pss_cons (ps_if (pt_not (pt_truth (pv 4) (by intro _; rfl))) (pss_one (ps_ret pe_bl)) pss_nil)
    (pss_cons (ps_asg (pe_bm0M PySem.F.slot_list_pop PySem.F.type_list_pop mt_pop (pv 4)) (pg_name (i := 6) sc__law_alike.nd rfl (Or.inl rfl)))
    (pss_cons (ps_if (pt_cmpR op_ne (pe_callB call_lenM (by rfl) T.z_len PySem.boot_len (pa_cons (pe_ix ix_lstM (pv 6) pe_int (fun _ _ => rfl)) pa_nil)) (pe_callB call_lenM (by rfl) T.z_len PySem.boot_len (pa_cons (pe_ix ix_lstM (pv 6) pe_int (fun _ _ => rfl)) pa_nil)) (nomark _)) (pss_one (ps_ret pe_bl)) pss_nil)
    (pss_one (ps_for PassesOwn.never rfl (pi_range1 (by rfl) T.z_range (pa_cons (pe_callB call_lenM (by rfl) T.z_len PySem.boot_len (pa_cons (pe_ix ix_lstM (pv 6) pe_int (fun _ _ => rfl)) pa_nil)) pa_nil)) (pg_name (i := 7) sc__law_alike.nd rfl (Or.inl rfl))
      (pss_cons (ps_asg (pe_ix ix_lstM (pe_ix ix_lstM (pv 6) pe_int (fun _ _ => rfl)) (pv 7) (fun _ _ => rfl)) (pg_name (i := 8) sc__law_alike.nd rfl (Or.inl rfl)))
    (pss_cons (ps_asg (pe_ix ix_lstM (pe_ix ix_lstM (pv 6) pe_int (fun _ _ => rfl)) (pv 7) (fun _ _ => rfl)) (pg_name (i := 9) sc__law_alike.nd rfl (Or.inl rfl)))
    (pss_one (ps_if (PW.pt (pw_or (pt_cmpR op_eq (pe_op op_mod (pe_callTy call_intI (by rfl) T.z_int (by decide +kernel) (pa_cons (pv 8) pa_nil)) pe_int) pe_int (nomark _)) (pw_or1 (pt_cmpR op_eq (pe_op op_mod (pe_callTy call_intI (by rfl) T.z_int (by decide +kernel) (pa_cons (pv 9) pa_nil)) pe_int) pe_int (nomark _))))) (pss_one (ps_if (pt_cmpR op_ne (pv 8) (pv 9) (nomark _)) (pss_one (ps_ret pe_bl)) pss_nil)) (pss_one (ps_if (PW.pt (pw_or (pt_cmpR (op_dnotinM hu) (pe_op op_fdiv (pv 8) pe_int) (pv 2) (by rfl)) (pw_or1 (pt_cmpR (op_dnotinM hu) (pe_op op_fdiv (pv 9) pe_int) (pv 3) (by rfl))))) (pss_cons (ps_if (pt_not (pt_val (pe_call (ok__law_paired T) (hr.mono (by decide)) (by rfl) T.g__law_paired T.k__law_paired T.b__law_paired .nil pass0 (pa_cons (pv 0) (pa_cons (pv 1) (pa_cons (pe_op op_fdiv (pv 8) pe_int) (pa_cons (pe_op op_fdiv (pv 9) pe_int) (pa_cons (pv 2) (pa_cons (pv 3) pa_nil))))))))) (pss_one (ps_ret pe_bl)) pss_nil)
    (pss_one (ps_expr (pe_bmM PySem.F.slot_list_append PySem.F.type_list_append mt_append (pv 4) (pa_cons (pe_lst (pa_cons (pe_call (ok__law_row T) (hr.mono (by decide)) (by rfl) T.g__law_row T.k__law_row T.b__law_row .nil pass0 (pa_cons (pv 0) (pa_cons (pe_op op_fdiv (pv 8) pe_int) pa_nil))) (pa_cons (pe_call (ok__law_row T) (hr.mono (by decide)) (by rfl) T.g__law_row T.k__law_row T.b__law_row .nil pass0 (pa_cons (pv 1) (pa_cons (pe_op op_fdiv (pv 9) pe_int) pa_nil))) pa_nil))) pa_nil))))) (pss_one (ps_if (pt_not (pt_val (pe_call (ok__law_paired T) (hr.mono (by decide)) (by rfl) T.g__law_paired T.k__law_paired T.b__law_paired .nil pass0 (pa_cons (pv 0) (pa_cons (pv 1) (pa_cons (pe_op op_fdiv (pv 8) pe_int) (pa_cons (pe_op op_fdiv (pv 9) pe_int) (pa_cons (pv 2) (pa_cons (pv 3) pa_nil))))))))) (pss_one (ps_ret pe_bl)) pss_nil))))))))))))))
    (pss_one (ps_ret pe_bl)))))), ?_⟩
    obtain ⟨one, other, rm, en, a1, a2, m1, m2, F, G, n, S1, S2, r1, r2, rfl, R1, R2, eg, hn, k⟩ := h
    obtain ⟨w1, W1, Z1, d1⟩ := R1.sq
    obtain ⟨w2, W2, Z2, d2⟩ := R2.sq
    obtain ⟨dx1, s1, pr1, rt1, hl1, mo1, F1, Y1⟩ := id Z1
    obtain ⟨dx2, s2, pr2, rt2, hl2, mo2, F2, Y2⟩ := id Z2
    have ho1 := Y1.ho
    have ho2 := Y2.ho
    dsimp! only [ho1, ho2]
    have ag1 := R1.1
    have ag2 := R2.1
    rw [← eg] at ag2 Z2 Y2
    have A1 := ag1.a
    have A2 := ag2.a
    have br := ag1.r
    have bh := ag1.h
    have bt := ag1.t
    have sz : (300000 : Nat) ≤ sizeLine := by decide
    have c0 : ∀ z y : Int, 0 < y → y < 1000 → CDiv z y := fun z y h1 h2 => ⟨by omega, by omega⟩
    have e1 : (0 :: (S1.g.roots ++ S1.g.held)).map (rl r1.ns) = 0 :: (S1.g.roots.map (rl r1.ns) ++ S1.g.held.map (rl r1.ns)) := by
      rw [List.map_cons, List.map_append, rl_zero ag1.z]
    have e2 : (0 :: (S1.g.roots ++ S1.g.held)).map (rl r2.ns) = 0 :: (S1.g.roots.map (rl r2.ns) ++ S1.g.held.map (rl r2.ns)) := by
      rw [List.map_cons, List.map_append, rl_zero ag2.z]
    show tDNewK _ H _
    intro da hda
    show tDNewK _ _ _
    intro db hdb
    have sm2 : Same H (upd (upd H da (.dK [])) db (.dK [])) := same_trans (same_new hda) (same_new hdb)
    have ab : da ≠ db := ne_of_none upd_same hdb
    have ga2 : upd (upd H da (.dK [])) db (.dK []) da = some (.dK []) := by rw [upd_ne ab, upd_same]
    have gb2 : upd (upd H da (.dK [])) db (.dK []) db = some (.dK []) := upd_same
    have nb : H db = none := none_of (same_new hda) hdb
    generalize upd (upd H da (.dK [])) db (.dK []) = H2 at sm2 ga2 gb2 ⊢
    clear hdb
    refine ⟨_, _, (Y1.same sm2).ho, spF_mall, one, rm, en, _, _, _, _, _, _, _, _, rfl, Z1.same sm2, by rw [List.length_map, List.length_map]; omega, fun H3 p1 sm3 hp1 gp1 => ?_⟩
    have sm23 := same_trans sm2 sm3
    refine ⟨_, _, (Y2.same sm23).ho, spF_mall, other, rm, en, _, _, _, _, _, _, _, _, rfl, Z2.same sm23, by rw [List.length_map, List.length_map]; omega, fun H4 p2 sm4 hp2 gp2 => ⟨by omega, fun p hp => ⟨by omega, fun wl hwl => ?_⟩⟩⟩
    have smA := same_trans sm23 sm4
    have smB := same_new (o := HO.lst [V.ref p1, V.ref p2]) hp
    have smC := same_new (o := HO.lst [V.ref p]) hwl
    have n1 : p1 ≠ wl := ne_of_none (smB _ _ (sm4 _ _ gp1)) hwl
    have n2 : p2 ≠ wl := ne_of_none (smB _ _ gp2) hwl
    have n0 : p ≠ wl := ne_of_none upd_same hwl
    have nw : H wl = none := none_of (same_trans smA smB) hwl
    have sm5 := same_trans smA (same_trans smB smC)
    have ga5 := smC _ _ (smB _ _ (sm4 _ _ (sm3 _ _ ga2)))
    have gb5 := smC _ _ (smB _ _ (sm4 _ _ (sm3 _ _ gb2)))
    have g15 := smC _ _ (smB _ _ (sm4 _ _ gp1))
    have g25 := smC _ _ (smB _ _ gp2)
    have g05 := smC p _ upd_same
    have gw5 : upd (upd H4 p (HO.lst [V.ref p1, V.ref p2])) wl (HO.lst [V.ref p]) wl = some (.lst [V.ref p]) := upd_same
    generalize upd (upd H4 p (HO.lst [V.ref p1, V.ref p2])) wl (HO.lst [V.ref p]) = H5 at sm5 ga5 gb5 g15 g25 g05 gw5 ⊢
    clear smC smB smA hwl hp gp1 gp2 hp1 hp2 sm4 sm3 sm23 sm2 ga2 gb2
    rw [← e1] at g15
    rw [← e2] at g25
    refine for_rng 20000 (fun R h => ?_) (by omega) (by omega) (fun i σ' H' => ∃ (is : List Int) (prs : List PR) (t5 n6 n7 n8 n9 : Option V), σ' = [some (V.ref one), some (V.ref other), some (V.ref da), some (V.ref db), some (V.ref wl), t5, n6, n7, n8, n9] ∧ AL H H' da db wl S1.g.ts (0 :: (S1.g.roots ++ S1.g.held)) r1.ns r2.ns i is prs)
        ⟨[], [⟨p, p1, p2, 0 :: (S1.g.roots ++ S1.g.held)⟩], _, _, _, _, _, rfl, sm5, ga5, gb5, gw5, List.nodup_nil, fun z hz => (nomatch hz), fun pr hpr => ?_, rfl⟩ ?_ ?_
    · simp! only [rIsL]
      exact h
    · rw [List.mem_singleton] at hpr
      subst hpr
      refine ⟨n0, n1, n2, g05, g15, g25, ?_, fun w hw => ⟨A1.vr w hw, fun e => A1.rt hw e⟩⟩
      show (0 :: (S1.g.roots ++ S1.g.held)).length ≤ 2000
      rw [List.length_cons, List.length_append]
      omega
    · rintro i σ' H' hi ⟨is, prs, t5, n6, n7, n8, n9, rfl, L⟩
      have il : is.length ≤ n + 1 := by
        have := nodup_le S1.g.ts.length is L.nd fun z hz => prow_nums.mp (L.ir z hz).nums
        omega
      rcases List.eq_nil_or_concat prs with hs | ⟨prs', pr, hs⟩
      · subst hs
        have gw : H' wl = some (.lst []) := L.gw
        simp! only [gw]
        exact ⟨false, .inl ⟨_, .inl (.inl gw), rfl⟩, k H' L.sm⟩
      · rw [List.concat_eq_append] at hs
        subst hs
        have gw := L.gw
        have dl : ((prs' ++ [pr]).map fun pr => V.ref pr.p).dropLast = prs'.map fun pr => V.ref pr.p := by simp
        have last : ((prs' ++ [pr]).map fun pr => V.ref pr.p)[((prs' ++ [pr]).map fun pr => V.ref pr.p).length - 1]? = some (.ref pr.p) := by simp
        simp! only [gw]
        refine ⟨true, .inl ⟨_, .inl (.inl gw), by simp⟩, ?_⟩
        rw [if_neg (by decide)]
        refine ⟨_, last, pr.p, rfl, ?_⟩
        rw [dl]
        have P0 := L.pp pr (List.mem_append_right _ (List.mem_singleton.mpr rfl))
        have aw : da ≠ wl := ne_ho L.ga L.gw (by simp)
        have bw : db ≠ wl := ne_ho L.gb L.gw (by simp)
        have L1 : AL H (upd H' wl (.lst (prs'.map fun pr => V.ref pr.p))) da db wl S1.g.ts (0 :: (S1.g.roots ++ S1.g.held)) r1.ns r2.ns (i + 1) is prs' := ⟨fun b o e => by
            rw [upd_ne (ne_of_none e nw)]
            exact L.sm _ _ e, by rw [upd_ne aw]; exact L.ga, by rw [upd_ne bw]; exact L.gb, upd_same, L.nd, L.ir, fun q hq => (L.pp q (List.mem_append_left _ hq)).same fun b o nb _ e => by rw [upd_ne nb]; exact e, by
            have := L.cnt
            rw [List.length_append, List.length_singleton] at this
            omega⟩
        have P1 : PRok (upd H' wl (.lst (prs'.map fun pr => V.ref pr.p))) wl S1.g.ts (0 :: (S1.g.roots ++ S1.g.held)) r1.ns r2.ns pr := P0.same fun b o nb _ e => by rw [upd_ne nb]; exact e
        generalize upd H' wl (.lst (prs'.map fun pr => V.ref pr.p)) = Hb at L1 P1 ⊢
        rw [P1.g0]
        refine ⟨_, atI_0, _, rfl, ?_⟩
        rw [P1.g1]
        dsimp only
        refine ⟨_, rfl, ?_⟩
        rw [P1.g0]
        refine ⟨_, atI_1, _, rfl, ?_⟩
        rw [P1.g2]
        dsimp only
        rw [if_neg (fun h => h (by simp))]
        refine for_rng (pr.ws.length : Int) (fun R h => ?_) (by omega) (by have := P1.l; omega) (fun jj σ2 H2 => ∃ (is : List Int) (prs2 : List PR) (n7 n8 n9 : Option V), σ2 = [some (V.ref one), some (V.ref other), some (V.ref da), some (V.ref db), some (V.ref wl), some (V.int (i : Int)), some (V.ref pr.p), n7, n8, n9] ∧ AL H H2 da db wl S1.g.ts (0 :: (S1.g.roots ++ S1.g.held)) r1.ns r2.ns (i + 1) is prs2 ∧ PRok H2 wl S1.g.ts (0 :: (S1.g.roots ++ S1.g.held)) r1.ns r2.ns pr)
          ⟨is, prs', _, _, _, rfl, L1, P1⟩ ?_ ?_
        · have q0 := P1.g0
          have q1 := P1.g1
          simp! only [q0, q1, atI_0, List.length_map]
          exact h
        · rintro jj σ2 H2 hjj ⟨is2, prs2, n7, n8, n9, rfl, LL, P2⟩
          have lt : jj < pr.ws.length := by omega
          have q0 := P2.g0
          have q1 := P2.g1
          have q2 := P2.g2
          have at1 : atI ((pr.ws.map (rl r1.ns)).map V.int) (jj : Int) = some (.int (rl r1.ns pr.ws[jj])) := atI_nat (by rw [List.getElem?_map, List.getElem?_map, List.getElem?_eq_getElem lt]; rfl)
          have at2 : atI ((pr.ws.map (rl r2.ns)).map V.int) (jj : Int) = some (.int (rl r2.ns pr.ws[jj])) := atI_nat (by rw [List.getElem?_map, List.getElem?_map, List.getElem?_eq_getElem lt]; rfl)
          obtain ⟨vw, vr⟩ := P2.v _ (List.getElem_mem lt)
          generalize pr.ws[jj] = w at at1 at2 vw vr
          have ga := LL.ga
          have gb := LL.gb
          have gw2 := LL.gw
          simp! only [q0, q1, q2, at1, at2, ga, gb]
          have c1 : CDiv (rl r1.ns w) 2 := c0 _ _ (by decide) (by decide)
          have c2 : CDiv (rl r2.ns w) 2 := c0 _ _ (by decide) (by decide)
          have d1l : (dP (nu r1.ns) (nu r2.ns) is2).length ≤ 2000 := by
            rw [dP_len]
            have := nodup_le S1.g.ts.length is2 LL.nd fun z hz => prow_nums.mp (LL.ir z hz).nums
            omega
          have d2l : (dP (nu r2.ns) (nu r1.ns) is2).length ≤ 2000 := by
            rw [dP_len]
            rw [dP_len] at d1l
            exact d1l
          by_cases ev : w % 2 = 0
          · have o1 := rl_par (ns := r1.ns).mpr ev
            have o2 := rl_par (ns := r2.ns).mpr ev
            refine ⟨by decide, ?_⟩
            rw [if_neg (by omega)]
            refine ⟨by decide, ?_⟩
            rw [if_neg (by omega)]
            refine ⟨c1, ?_⟩
            rw [rl_half (ns := r1.ns) ev, rl_half (ns := r2.ns) ev]
            have hz := vr ev
            have lz := vw ev
            generalize w / 2 = z at hz lz
            by_cases mz : z ∈ is2
            · have v1 : valV (dP (nu r1.ns) (nu r2.ns) is2) (Sum.inl (nu r1.ns z)) = some (.int (nu r2.ns z)) := dP_some mz fun y hy e => A1.inj y z (LL.ir y hy) hz e
              have v2 : valV (dP (nu r2.ns) (nu r1.ns) is2) (Sum.inl (nu r2.ns z)) = some (.int (nu r1.ns z)) := dP_some mz fun y hy e => A2.inj y z (LL.ir y hy) hz e
              rw [v1, if_neg (by simp)]
              refine ⟨c2, ?_⟩
              rw [v2, if_neg (by simp)]
              exact ⟨c1, c2, H, one, other, da, db, _, _, _, _, rfl, ga, gb, ab, d1l, d2l, .inl ⟨v1, v2, true, rfl, by rw [if_neg (by decide)]; exact ⟨⟨_, _, LL⟩, P2⟩⟩⟩
            · have m1 : ∀ y ∈ is2, nu r1.ns y ≠ nu r1.ns z := fun y hy e => mz (A1.inj y z (LL.ir y hy) hz e ▸ hy)
              have m2 : ∀ y ∈ is2, nu r2.ns y ≠ nu r2.ns z := fun y hy e => mz (A2.inj y z (LL.ir y hy) hz e ▸ hy)
              have v1 := dP_none (g := nu r2.ns) m1
              have v2 := dP_none (g := nu r1.ns) m2
              rw [v1, if_pos (by decide)]
              obtain ⟨jz, t, ez, tj, pj, r1j⟩ := A1.thing hz
              have r2j : getO r2.row (nu r2.ns z) = some ⟨nu r2.ns z, rl r2.ns t.k, t.sl.map (rl r2.ns), true⟩ := A2.on z hz _ pj
              have tm := List.mem_of_getElem? tj
              have ts_ := ag1.s t tm
              refine ⟨c1, c2, H, one, other, da, db, _, _, _, _, rfl, ga, gb, ab, d1l, d2l, .inr ⟨v1, v2, LL.sm, hda, nb, rm, en, _, _, _, _, _, _, _, _, _, _, _, _, _, _, _, _, _, _, Z1, Z2, r1j, r2j, by rw [List.length_map, List.length_map], true, rfl, ?_⟩⟩
              rw [if_neg (by decide), dP_put m1, dP_put m2]
              have aw : da ≠ wl := ne_ho ga gw2 (by simp)
              have bw : db ≠ wl := ne_ho gb gw2 (by simp)
              have sm3 : Same H (upd (upd H2 da (.dK (dP (nu r1.ns) (nu r2.ns) (is2 ++ [z])))) db (.dK (dP (nu r2.ns) (nu r1.ns) (is2 ++ [z])))) := fun b o e => by
                rw [upd_ne (ne_of_none e nb), upd_ne (ne_of_none e hda)]
                exact LL.sm _ _ e
              have pr3 : ∀ b o, b ≠ wl → (∃ xs, o = HO.lst xs) → H2 b = some o → upd (upd H2 da (.dK (dP (nu r1.ns) (nu r2.ns) (is2 ++ [z])))) db (.dK (dP (nu r2.ns) (nu r1.ns) (is2 ++ [z]))) b = some o := fun b o nb2 ⟨xs, eo⟩ e => by
                subst eo
                rw [upd_ne (ne_ho e gb (by simp)), upd_ne (ne_ho e ga (by simp))]
                exact e
              have ga3 : upd (upd H2 da (.dK (dP (nu r1.ns) (nu r2.ns) (is2 ++ [z])))) db (.dK (dP (nu r2.ns) (nu r1.ns) (is2 ++ [z]))) da = some (.dK (dP (nu r1.ns) (nu r2.ns) (is2 ++ [z]))) := by rw [upd_ne ab, upd_same]
              have gb3 : upd (upd H2 da (.dK (dP (nu r1.ns) (nu r2.ns) (is2 ++ [z])))) db (.dK (dP (nu r2.ns) (nu r1.ns) (is2 ++ [z]))) db = some (.dK (dP (nu r2.ns) (nu r1.ns) (is2 ++ [z]))) := upd_same
              have gw3 : upd (upd H2 da (.dK (dP (nu r1.ns) (nu r2.ns) (is2 ++ [z])))) db (.dK (dP (nu r2.ns) (nu r1.ns) (is2 ++ [z]))) wl = some (.lst (prs2.map fun pr => V.ref pr.p)) := by
                rw [upd_ne (Ne.symm bw), upd_ne (Ne.symm aw)]
                exact gw2
              generalize upd (upd H2 da (.dK (dP (nu r1.ns) (nu r2.ns) (is2 ++ [z])))) db (.dK (dP (nu r2.ns) (nu r1.ns) (is2 ++ [z]))) = H3 at sm3 pr3 ga3 gb3 gw3 ⊢
              rw [gw3]
              dsimp only
              refine ⟨c1, one, rm, en, _, _, _, _, _, _, _, _, _, _, rfl, Z1.same sm3, r1j, by rw [List.length_map]; omega, fun H4 q1 s4 hq1 gq1 => ⟨c2, other, rm, en, _, _, _, _, _, _, _, _, _, _, rfl, Z2.same (same_trans sm3 s4), r2j, by rw [List.length_map]; omega, fun H5 q2 s5 hq2 gq2 => ⟨by omega, fun pp hpp => ?_⟩⟩⟩
              have gw5 := same_new (o := HO.lst [V.ref q1, V.ref q2]) hpp _ _ (s5 _ _ (s4 _ _ gw3))
              have nq1 : q1 ≠ wl := Ne.symm (ne_of_none gw3 hq1)
              have nq2 : q2 ≠ wl := Ne.symm (ne_of_none (s4 _ _ gw3) hq2)
              have npp : pp ≠ wl := Ne.symm (ne_of_none (s5 _ _ (s4 _ _ gw3)) hpp)
              have s35 := same_trans s4 s5
              have s6 : ∀ b o, b ≠ wl → H5 b = some o → upd (upd H5 pp (HO.lst [V.ref q1, V.ref q2])) wl (HO.lst ((prs2.map fun pr => V.ref pr.p) ++ [V.ref pp])) b = some o := fun b o nb2 e => by
                rw [upd_ne nb2]
                exact same_new hpp _ _ e
              have prA : ∀ b o, b ≠ wl → (∃ xs, o = HO.lst xs) → H2 b = some o → upd (upd H5 pp (HO.lst [V.ref q1, V.ref q2])) wl (HO.lst ((prs2.map fun pr => V.ref pr.p) ++ [V.ref pp])) b = some o := fun b o nb2 hx e => s6 b o nb2 (s35 _ _ (pr3 b o nb2 hx e))
              refine ⟨_, gw5, ?_, ⟨is2 ++ [z], prs2 ++ [⟨pp, q1, q2, t.k :: t.sl⟩], fun b o e => ?_, s6 _ _ aw (s35 _ _ ga3), s6 _ _ bw (s35 _ _ gb3), ?_, ?_, fun y hy => ?_, fun q hq => ?_, ?_⟩, P2.same prA⟩
              · rw [List.length_map]
                have := LL.cnt
                rw [dP_len] at d1l
                omega
              · rw [upd_ne (ne_of_none e nw)]
                exact same_new hpp _ _ (s35 _ _ (sm3 _ _ e))
              · rw [upd_same, List.map_append]
                rfl
              · exact List.nodup_append.mpr ⟨LL.nd, by simp, fun a ha b hb => by
                  rw [List.mem_singleton] at hb
                  subst hb
                  exact fun e => mz (e ▸ ha)⟩
              · rcases List.mem_append.mp hy with h | h
                · exact LL.ir y h
                · rw [List.mem_singleton] at h
                  exact h ▸ hz
              · rcases List.mem_append.mp hq with h | h
                · exact (LL.pp q h).same prA
                · rw [List.mem_singleton] at h
                  subst h
                  refine ⟨npp, nq1, nq2, ?_, s6 _ _ nq1 (s5 _ _ gq1), s6 _ _ nq2 gq2, ?_, fun y hy => A1.words (ez ▸ hz) tj hy⟩
                  · show upd (upd H5 pp _) wl _ pp = _
                    rw [upd_ne npp, upd_same]
                  · show (t.k :: t.sl).length ≤ 2000
                    rw [List.length_cons]
                    omega
              · have := LL.cnt
                rw [List.length_append, List.length_append, List.length_singleton, List.length_singleton]
                omega
          · rw [rl_odd ev, rl_odd ev]
            refine ⟨by decide, ?_⟩
            rw [if_pos (by omega), if_neg (fun h => h rfl)]
            exact ⟨⟨_, _, LL⟩, P2⟩
        · rintro σ2 H2 ⟨is2, prs2, n7, n8, n9, rfl, LL, P2⟩
          exact ⟨⟨_, _, _, _, _, rfl⟩, is2, prs2, LL⟩
    · rintro σ' H' ⟨is, prs, t5, n6, n7, n8, n9, rfl, L⟩
      exfalso
      have il : is.length ≤ n + 1 := by
        have := nodup_le S1.g.ts.length is L.nd fun z hz => prow_nums.mp (L.ir z hz).nums
        omega
      have := L.cnt
      have : Int.toNat 20000 = 20000 := rfl
      omega
end

def sp_lpress8 (A : Ad) : Sp := fun vs H Q _ => ∃ (a : Addr) (rm en c j : Int) (al : Bool × V) (mom : List Int) (F : Hp), vs = [.ref a, .int c, .int j] ∧ SQ A H a rm en [] al mom 0 0 (List.replicate 16 0) [] F ∧ al.2 = .non ∧ ∀ H' al' mom', SQ A H' a rm en [] (al', .non) mom' 0 0 (List.replicate 16 0) [] F → Q .non H'
theorem sp_lpress8_len {A vs H Q E} (h : sp_lpress8 A vs H Q E) : vs.length = (["space", "cell", "k"] : List Str).length := by
  obtain ⟨_, _, _, _, _, _, _, _, rfl, _⟩ := h
  rfl
section
variable {P : Program} {w : World} {K : PySem.W.Frag} {mg : Str → Option Value} {base : Heap} {A : Ad}
theorem ok__law_pressed (T : Txt K mg A) : FnOk P w K mg base CX0 2 A.f__law_pressed A.d__law_pressed ["space", "cell", "k"] (sp_lpress8 A) := by
  refine Fun.ok T.F__law_pressed sc__law_pressed (fun vs H Q E h => ?_) (fun cdv Ar outer s H vs Q E hr h => ?_)
  · exact sp_lpress8_len h
  · have hu := hu_of hr
    refine ⟨_, (pss_cons (ps_asg (pe_call (ok__law_number T) (hr.mono (by decide)) (by rfl) T.g__law_number T.k__law_number T.b__law_number .nil pass0 (pa_cons (pv 1) (pa_cons (pv 2) pa_nil))) (pg_name (i := 3) sc__law_pressed.nd rfl (Or.inl rfl)))
    (pss_one (ps_if (pt_cmpR op_eq (pe_op op_mod (pe_callTy call_intI (by rfl) T.z_int (by decide +kernel) (pa_cons (pv 3) pa_nil)) pe_int) pe_int (nomark _)) (pss_one (ps_expr (pe_methN (pv 0) T.cl_Space T.me_Space_press (ok_Space_press T) (hr.mono (by decide)) T.kb_Space_press pass0 (pa_cons (pe_lst pa_nil) pa_nil) (pk_cons pe_bl pk_nil)))) (pss_one (ps_if (pt_cmpR op_gt (pe_op op_mod (pe_callTy call_intI (by rfl) T.z_int (by decide +kernel) (pa_cons (pv 3) pa_nil)) pe_int) pe_int (nomark _)) (pss_cons (ps_asg (pe_op op_fdiv (pv 3) pe_int) (pg_name (i := 3) sc__law_pressed.nd rfl (Or.inl rfl)))
    (pss_cons (ps_asg (pe_lst pa_nil) (pg_name (i := 4) sc__law_pressed.nd rfl (Or.inl rfl)))
    (pss_cons (ps_for PassesOwn.never rfl (pi_range1 (by rfl) T.z_range (pa_cons pe_int pa_nil)) (pg_name (i := 5) sc__law_pressed.nd rfl (Or.inl rfl))
      (Evl.pss_cut (ps_if (pt_cmpR op_eq (pe_op op_mod (pe_callTy call_intI (by rfl) T.z_int (by decide +kernel) (pa_cons (pv 3) pa_nil)) pe_int) pe_int (nomark _)) (pss_one (ps_expr (pe_bmM PySem.F.slot_list_append PySem.F.type_list_append mt_append (pv 4) (pa_cons (pe_op op_add (pv 5) pe_int) pa_nil)))) pss_nil)
    (pss_one (ps_asg (pe_op op_fdiv (pv 3) pe_int) (pg_name (i := 3) sc__law_pressed.nd rfl (Or.inl rfl))))))
    (pss_one (ps_expr (pe_meth (pv 0) T.cl_Space T.me_Space_press (ok_Space_press T) (hr.mono (by decide)) T.bd_Space_press.choose_spec.2 T.bd_Space_press.choose_spec.1 pass0 (pa_cons (pv 4) pa_nil))))))) pss_nil))))), ?_⟩
    obtain ⟨a, rm, en, c, j, al, mom, F, rfl, Z4, ha2, k⟩ := h
    simp! only [rIsL]
    have c0 : ∀ z y : Int, 0 < y → y < 1000 → CDiv z y := fun z y h1 h2 => ⟨by omega, by omega⟩
    obtain ⟨al, wk⟩ := al
    obtain rfl : wk = .non := ha2
    refine ⟨_, _, rfl, fun y => ⟨_, rfl, by decide, ite2 (fun _ => ?_) (fun _ => ⟨_, rfl, by decide, ite2 (fun _ => ⟨_, rfl, c0 _ _ (by decide) (by decide), by decide, fun p hp => ?_⟩) (fun _ => k _ _ _ Z4)⟩)⟩⟩
    · obtain ⟨dx8, st8, pr8, rt8, hl8, mo8, F8', Y8⟩ := id Z4
      refine ⟨_, _, Y8.ho, spF_mpress, by decide, fun p hp => ?_⟩
      refine ⟨a, p, rm, en, [], _, _, 0, 0, _, [], _, true, [], rfl, Z4.new hp, upd_same, by decide, fun H9 pr hpr Z9 => ?_⟩
      have Z5 := Z4.new (o := HO.lst []) hp
      obtain ⟨dx9, st9, rt9, hl9, mo9, F9', Y9⟩ := Z9
      exact k _ _ _ (SQ.less ⟨_, _, _, _, _, _, _, Y9⟩ (same_trans (same_new (Z4.out hp)) (same_new (Z5.out hpr))))
    · have Z5 := Z4.new (o := HO.lst []) hp
      have hp3 := Z4.out hp
      generalize upd H p (HO.lst []) = H5 at Z5 ⊢
      refine for_rng 64 (fun R h => ?_) (by omega) (by omega) (fun i σ' H' => ∃ (z : Int) (mom2 : List Int) (n8 : Option V), σ' = [some (V.ref a), some (V.int c), some (V.int j), some (V.int z), some (V.ref p), n8] ∧ mom2.length ≤ i ∧ SQ A H' a rm en [] (al, .non) mom 0 0 (List.replicate 16 0) [] (upd F p (.lst (mom2.map V.int)))) ⟨_, [], _, rfl, Nat.le_refl _, Z5⟩ ?_ ?_
      · simp! only [rIsL]
        exact h
      · rintro i σ' H' hi ⟨z, mom2, n8, rfl, hmom, Z6⟩
        have p6 := Z6.get upd_same
        simp! only [rIsL]
        refine ⟨fun σ7 H7 => ∃ mom2 : List Int, σ7 = [some (V.ref a), some (V.int c), some (V.int j), some (V.int z), some (V.ref p), some (V.int (i : Int))] ∧ mom2.length ≤ i + 1 ∧ SQ A H7 a rm en [] (al, .non) mom 0 0 (List.replicate 16 0) [] (upd F p (.lst (mom2.map V.int))), ?_, ?_⟩
        · simp! only [p6, List.length_map]
          have sz : (300000 : Nat) ≤ sizeLine := by decide
          refine ⟨by decide, ite2 (fun _ => ⟨by omega, mom2 ++ [(i : Int) + 1], by rw [List.length_append, List.length_singleton]; omega, ?_⟩) (fun _ => ⟨mom2, by omega, Z6⟩)⟩
          have Z7 := Z6.set (o := HO.lst (mom2.map V.int ++ [V.int ((i : Int) + 1)])) upd_same
          rw [upd_upd] at Z7
          rw [List.map_append]
          exact Z7
        · rintro σ7 H7 ⟨mom2, rfl, hm7, Z7⟩
          simp! only [rIsL]
          exact ⟨c0 _ _ (by decide) (by decide), mom2, hm7, Z7⟩
      · rintro σ' H' ⟨z, mom2, n8, rfl, hmom, Z6⟩
        have p6 := Z6.get upd_same
        obtain ⟨dx8, st8, pr8, rt8, hl8, mo8, F8', Y8⟩ := id Z6
        have ho6 := Y8.ho
        simp! only [ho6]
        refine ⟨spF_mpress, ?_⟩
        refine ⟨a, p, rm, en, [], _, _, 0, 0, _, [], _, false, mom2, rfl, Z6, upd_same, by omega, fun H9 pr hpr Z9 => ?_⟩
        obtain ⟨dx9, st9, rt9, hl9, mo9, F9', Y9⟩ := Z9
        exact k _ _ _ (SQ.less ⟨_, _, _, _, _, _, _, Y9⟩ (same_trans (same_new hp3) (same_new (Z6.out hpr))))
end

def sp_llim8 : Sp := fun vs H Q _ => ∃ (c : Int), vs = [.int c] ∧ ∀ t (rm en : Int), H t = none → 3 ≤ rm → rm ≤ 4000 → 1 ≤ en → en ≤ 100000 → Q (.ref t) (upd H t (.tup [.int rm, .int en]))
theorem sp_llim8_len {vs H Q E} (h : sp_llim8 vs H Q E) : vs.length = (["cell"] : List Str).length := by
  obtain ⟨_, rfl, _⟩ := h
  rfl
section
variable {P : Program} {w : World} {K : PySem.W.Frag} {mg : Str → Option Value} {base : Heap} {A : Ad}
theorem ok__law_limits (T : Txt K mg A) : FnOk P w K mg base CX0 2 A.f__law_limits A.d__law_limits ["cell"] (sp_llim8) := by
  refine Fun.ok T.F__law_limits sc__law_limits (fun vs H Q E h => ?_) (fun cdv Ar outer s H vs Q E hr h => ?_)
  · exact sp_llim8_len h
  · have hu := hu_of hr
    refine ⟨_, (pss_cons (ps_asg (pe_call (ok__law_number T) (hr.mono (by decide)) (by rfl) T.g__law_number T.k__law_number T.b__law_number .nil pass0 (pa_cons (pv 0) (pa_cons pe_int pa_nil))) (pg_name (i := 1) sc__law_limits.nd rfl (Or.inl rfl)))
    (pss_cons (ps_asg (pe_op op_add pe_int (pe_op op_mod (pe_callTy call_intI (by rfl) T.z_int (by decide +kernel) (pa_cons (pv 1) pa_nil)) pe_int)) (pg_name (i := 2) sc__law_limits.nd rfl (Or.inl rfl)))
    (Evl.pss_cut (ps_if (pt_cmpR op_eq (pe_op op_mod (pe_op op_fdiv (pv 1) pe_int) pe_int) pe_int (nomark _)) (pss_one (ps_asg (pe_op op_add pe_int (pe_op op_mod (pe_op op_fdiv (pv 1) pe_int) pe_int)) (pg_name (i := 2) sc__law_limits.nd rfl (Or.inl rfl)))) pss_nil)
    (pss_cons (ps_if (pt_cmpR op_eq (pe_op op_mod (pe_op op_fdiv (pv 1) pe_int) pe_int) pe_int (nomark _)) (pss_one (ps_ret (pe_tup (pa_cons (pv 2) (pa_cons (pe_op op_add pe_int (pe_op op_mod (pe_op op_fdiv (pv 1) pe_int) pe_int)) pa_nil))))) pss_nil)
    (pss_one (ps_ret (pe_tup (pa_cons (pv 2) (pa_cons pe_int pa_nil))))))))), ?_⟩
    obtain ⟨c, rfl, k⟩ := h
    simp! only [rIsL]
    have c0 : ∀ z y : Int, 0 < y → y < 1000 → CDiv z y := fun z y h1 h2 => ⟨by omega, by omega⟩
    refine ⟨_, _, rfl, fun x => ⟨_, rfl, by decide, ?_⟩⟩
    have x0 := Int.emod_nonneg x (show (60 : Int) ≠ 0 by decide)
    have x1 := Int.emod_lt_of_pos x (show (0 : Int) < 60 by decide)
    refine ⟨fun σ2 H2 => ∃ rm : Int, σ2 = [some (V.int c), some (V.int x), some (V.int rm)] ∧ 3 ≤ rm ∧ rm ≤ 4000 ∧ H2 = H, ?_, ?_⟩
    · simp! only [rIsL]
      have y0 := Int.emod_nonneg (x / 180) (show (400 : Int) ≠ 0 by decide)
      have y1 := Int.emod_lt_of_pos (x / 180) (show (0 : Int) < 400 by decide)
      refine ⟨c0 _ _ (by decide) (by decide), by decide, ite2 (fun _ => ⟨c0 _ _ (by decide) (by decide), by decide, by omega, by omega⟩) (fun _ => ⟨by omega, by omega⟩)⟩
    rintro σ2 H2 ⟨rm, rfl, r1, r2, rfl⟩
    simp! only [rIsL]
    have y0 := Int.emod_nonneg (x / 14) (show (9 : Int) ≠ 0 by decide)
    have y1 := Int.emod_lt_of_pos (x / 14) (show (0 : Int) < 9 by decide)
    exact ⟨c0 _ _ (by decide) (by decide), by decide, ite2 (fun _ => ⟨c0 _ _ (by decide) (by decide), by decide, by decide, fun t ht => k t _ _ ht r1 r2 (by omega) (by omega)⟩) (fun _ => ⟨by decide, fun t ht => k t _ _ ht r1 r2 (by omega) (by omega)⟩)⟩
end

theorem foot_swap {P Q : Hp → Hp → Prop} {H F G : Hp} (hp : ∃ O : Hp, Same O H ∧ (∀ p o, O p = some o → F p = none) ∧ ∀ H' G', Same O H' → Same G' H' → (∀ p o, O p = some o → G' p = none) → P H' G')
    (hq : ∃ O : Hp, Same O F ∧ (∀ p o, O p = some o → G p = none) ∧ ∀ H' G', Same O H' → Same G' H' → (∀ p o, O p = some o → G' p = none) → Q H' G') (gp : Same F H) (gq : Same G F) : ∃ F2, Q H F2 ∧ P F2 G := by
  obtain ⟨O1, a1, a2, a3⟩ := hp
  obtain ⟨O2, b1, b2, b3⟩ := hq
  have d12 : ∀ p o, O2 p = some o → O1 p = none := fun p o q => by
    cases z : O1 p with
    | none => rfl
    | some u =>
      have := a2 p u z
      rw [b1 p o q] at this
      cases this
  have dg : ∀ p o, G p = some o → O1 p = none := fun p o q => by
    cases z : O1 p with
    | none => rfl
    | some u =>
      have := a2 p u z
      rw [gq p o q] at this
      cases this
  refine ⟨My.uni O1 G, b3 H _ (fun p o q => gp p o (b1 _ _ q)) (fun p o q => ?_) (fun p o q => ?_), a3 _ G uni_l (fun p o q => ?_) fun p o q => ?_⟩
  · rcases uni_cases q with q | ⟨_, q⟩
    · exact a1 _ _ q
    · exact gp _ _ (gq _ _ q)
  · rw [uni_right (d12 p o q)]
    exact b2 p o q
  · rw [uni_right (dg p o q)]
    exact q
  · cases z : G p with
    | none => rfl
    | some u =>
      have := dg p u z
      rw [q] at this
      cases this
section
variable {A : Ad} {H : Hp} {one other : Addr} {rm en : Int} {al1 al2 : Bool} {m1 m2 : List Int} {G G' : Hp} {n : Nat} {S1 S2 : GS} {r1 r2 : RS}
theorem Two.new (h : Two A H one other rm en al1 al2 m1 m2 G n S1 S2 r1 r2) {p : Addr} {o : HO} (e : H p = none) : Two A (upd H p o) one other rm en al1 al2 m1 m2 (upd G p o) n S1 S2 r1 r2 := by
  obtain ⟨F, R1, R2⟩ := h
  exact ⟨_, R1.new e, R2.new (R1.out e)⟩
theorem Two.less (h : Two A H one other rm en al1 al2 m1 m2 G n S1 S2 r1 r2) (s : Same G' G) : Two A H one other rm en al1 al2 m1 m2 G' n S1 S2 r1 r2 := by
  obtain ⟨F, R1, R2⟩ := h
  exact ⟨_, R1, R2.less s⟩
theorem Two.get (h : Two A H one other rm en al1 al2 m1 m2 G n S1 S2 r1 r2) {p : Addr} {o : HO} (e : G p = some o) : H p = some o := by
  obtain ⟨F, R1, R2⟩ := h
  exact R1.get (R2.get e)
theorem Two.out (h : Two A H one other rm en al1 al2 m1 m2 G n S1 S2 r1 r2) {p : Addr} (e : H p = none) : G p = none := by
  obtain ⟨F, R1, R2⟩ := h
  exact R2.out (R1.out e)
theorem Two.same {H' : Hp} (h : Two A H one other rm en al1 al2 m1 m2 G n S1 S2 r1 r2) (s : Same H H') : Two A H' one other rm en al1 al2 m1 m2 G n S1 S2 r1 r2 := by
  obtain ⟨F, R1, R2⟩ := h
  exact ⟨_, R1.same s, R2⟩
theorem Two.up {n' : Nat} (h : Two A H one other rm en al1 al2 m1 m2 G n S1 S2 r1 r2) (c : n ≤ n') : Two A H one other rm en al1 al2 m1 m2 G n' S1 S2 r1 r2 := by
  obtain ⟨F, R1, R2⟩ := h
  exact ⟨_, R1.up c, R2.up c⟩
end
/-- what lives, told by the plain world -/
theorem Ag.live {rm en : Int} {g : PG} {row : List OB} {ns ks : List Int} {n : Nat} (ag : Ag rm en g row ns n) (L : Live row (g.roots.map (rl ns) ++ g.held.map (rl ns)) ks) : total row ks = liveT g 0 := by
  have ga : Agr g.ts ns row (0 :: (g.roots ++ g.held ++ [0])) := ag.a.mono fun w h => by
    rcases List.mem_cons.mp h with e | h
    · exact e ▸ List.mem_cons_self ..
    · rcases List.mem_append.mp h with h | h
      · exact List.mem_cons_of_mem _ h
      · rw [List.mem_singleton] at h
        exact h ▸ List.mem_cons_self ..
  have L2 : Live row (g.roots.map (rl ns) ++ g.held.map (rl ns) ++ [rl ns 0]) ks := ⟨L.1, fun z => by
    rw [L.2, rl_zero ag.z]
    exact rch_congr (fun w => by
      simp only [List.mem_cons, List.mem_append, List.not_mem_nil, or_false]
      constructor
      · rintro (h | h)
        · exact .inl h
        · exact .inr (.inl h)
      · rintro (h | h | h)
        · exact .inl h
        · exact .inr h
        · exact .inl h) z⟩
  exact (live_told ga ag.z L2).1
/-- one thing, one object, nothing else -/
theorem Ag.first {rm en : Int} (h1 : 3 ≤ rm) (h2 : 1 ≤ en) : Ag rm en ⟨[⟨0, 0, 0, []⟩], List.replicate 16 0, []⟩ [⟨0, 0, [], true⟩] [0] 0 := by
  have z0 : ∀ w ∈ (0 : Int) :: (List.replicate 16 0 ++ []), w = 0 := fun w hw => by
    rcases List.mem_cons.mp hw with e | hw
    · exact e
    · rw [List.append_nil] at hw
      exact List.eq_of_mem_replicate hw
  have l1 : ([⟨0, 0, 0, []⟩] : List TH).length = 1 := rfl
  have z : ∀ i, Rch (prow [⟨0, 0, 0, []⟩]) (0 :: (List.replicate 16 0 ++ [])) i → i = 0 := fun i hi => by
    have := prow_nums.mp hi.nums
    omega
  refine ⟨⟨rfl, fun t ht w hw => ?_, fun w hw => ?_, fun i hi o ho => ?_, fun i j hi hj _ => (z i hi).trans (z j hj).symm⟩, rfl, ?_, rfl, Nat.le_refl _, Nat.le_refl _, fun x hx => ?_⟩
  · rw [List.mem_singleton] at ht
    subst ht
    rw [List.mem_singleton] at hw
    subst hw
    exact fun _ => ⟨(by decide : (0 : Int) ≤ 0 / 2), (by decide : (0 : Int) / 2 < ((1 : Nat) : Int))⟩
  · rw [z0 w hw]
    exact fun _ => ⟨(by decide : (0 : Int) ≤ 0 / 2), (by decide : (0 : Int) / 2 < ((1 : Nat) : Int))⟩
  · rw [z i hi] at ho ⊢
    have := prow_at (ts := [⟨0, 0, 0, []⟩]) (j := 0) rfl
    rw [show ((0 : Nat) : Int) = 0 from rfl] at this
    rw [this] at ho
    cases ho
    rfl
  · have := (Ok.nil (rm := rm) (en := en) (by omega)).add (n := 0) (kd := 0) (m := 0) ⟨Int.le_refl _, by simp [nums], fun m h1 h2 => by omega⟩ (by omega) (by show (0 : Int) + (3 + 0) ≤ rm; omega)
    exact this
  · rw [List.mem_singleton] at hx
    subst hx
    exact Nat.zero_le _
def S00 : GS := ⟨⟨[⟨0, 0, 0, []⟩], List.replicate 16 0, []⟩, none⟩
/-- the first call of new -/
theorem new_first {A : Ad} {H : Hp} {sp : Addr} {rm en : Int} {al : Bool} {mom : List Int} {F : Hp} {Q : VK} {E : XK} (Z : SQ A H sp rm en [] (al, .non) mom 0 0 (List.replicate 16 0) [] F) (h1 : 3 ≤ rm) (h2 : 1 ≤ en)
    (k : ∀ H' r, Rep A H' sp rm en al mom F 0 S00 r → Q (.int 0) H') : sp_newF A [.ref sp, .int 0, .int 0] H Q E := by
  have z0 : ∀ n, IsFree [] n → n = 0 := fun n h => (IsFree.uniq h ⟨Int.le_refl _, by simp [nums], fun m h1 h2 => by omega⟩)
  refine .inl ⟨sp, rm, en, [], (al, .non), mom, 0, 0, _, [], F, 0, 0, rfl, rfl, Z, by decide, by decide, fun row1 nc1 tr => ?_⟩
  have er : row1 = [] := by
    rcases tr with ⟨_, e, _⟩ | ⟨_, _, ks, _, e⟩
    · exact e
    · exact e
  subst er
  refine ⟨fun _ n hn hlt H7 Z7 => ?_, fun nf => ?_⟩
  · cases z0 n hn
    exact k H7 ⟨[⟨0, 0, [], true⟩], 1, nc1, [0], [], []⟩ ⟨Ag.first h1 h2, Z7⟩
  · exfalso
    rcases nf with h | ⟨_, h⟩
    · have : ((flat []).length : Int) = 0 := rfl
      omega
    · have := h 0 ⟨Int.le_refl _, by simp [nums], fun m h1 h2 => by omega⟩
      omega

def Tk (xs : List V) : Prop := xs.length ≤ 3 ∧ ∀ x ∈ xs, (∃ i, x = .int i) ∨ ∃ s, x = .str s
theorem Tk.si {s : Str} {i : Int} : Tk [.str s, .int i] := ⟨by simp, fun x hx => by
  simp only [List.mem_cons, List.not_mem_nil, or_false] at hx
  rcases hx with rfl | rfl
  · exact .inr ⟨_, rfl⟩
  · exact .inl ⟨_, rfl⟩⟩
theorem Tk.sii {s : Str} {i j : Int} : Tk [.str s, .int i, .int j] := ⟨by simp, fun x hx => by
  simp only [List.mem_cons, List.not_mem_nil, or_false] at hx
  rcases hx with rfl | rfl | rfl
  · exact .inr ⟨_, rfl⟩
  · exact .inl ⟨_, rfl⟩
  · exact .inl ⟨_, rfl⟩⟩
theorem Tk.ss {s u : Str} : Tk [.str s, .str u] := ⟨by simp, fun x hx => by
  simp only [List.mem_cons, List.not_mem_nil, or_false] at hx
  rcases hx with rfl | rfl
  · exact .inr ⟨_, rfl⟩
  · exact .inr ⟨_, rfl⟩⟩
theorem Tk.if_ {α : Type} {c : Prop} [Decidable c] {a b : α × List V} (h1 : Tk a.2) (h2 : Tk b.2) : Tk (if c then a else b).2 := by
  split
  · exact h1
  · exact h2
theorem newG_tk {rm en S kd m j} : Tk (newG rm en S kd m j).2 := by
  unfold newG
  split
  · exact .if_ .si (.if_ .si .si)
  · exact .if_ .si (.if_ .si .si)
theorem heldG_tk {S d j r} : Tk (heldG S d j r).2 := by
  unfold heldG
  exact .if_ .si (.if_ .si (.if_ .si .si))
theorem changedG_tk {S d j r} : Tk (changedG S d j r).2 := by
  unfold changedG
  exact .if_ .si (.if_ (.if_ .sii .sii) (.if_ .sii (.if_ .sii .sii)))
theorem workG_tk {S d} : Tk (workG S d).2 := by
  unfold workG
  split
  · exact .if_ .si .ss
  · exact .if_ .ss (.if_ .si .si)
theorem doneG_tk {rm en S x} : Tk (doneG rm en S x).2 := by
  unfold doneG
  exact .if_ (.if_ newG_tk newG_tk) (.if_ .si (.if_ workG_tk (.if_ heldG_tk changedG_tk)))

/-- lists of whole numbers, and lists of such lists, compared -/
def dI (xs : List Int) : PyData := .list (xs.map PyData.int)
def dL (xss : List (List Int)) : PyData := .list (xss.map dI)
theorem dpa_ints {K : PySem.W.Frag} {H : Hp} : ∀ xs : List Int, DpAll K H (xs.map V.int) (xs.map PyData.int)
  | [] => .nil
  | x :: xs => .cons (.int x) (dpa_ints xs)
theorem dp_ints {K : PySem.W.Frag} {H : Hp} {p : Addr} {xs : List Int} (h : H p = some (.lst (xs.map V.int))) : Dp K H (.ref p) (dI xs) := .lst (.inl (.inl h)) (dpa_ints xs)
theorem lay_ints : ∀ xs : List Int, PyData.canLayAll0 (xs.map PyData.int) = true
  | [] => rfl
  | x :: xs => by
    show (PyData.canLay0 (.int x) && PyData.canLayAll0 (xs.map PyData.int)) = true
    rw [lay_ints xs]
    rfl
theorem dep_ints : ∀ xs : List Int, PyData.depthAll (xs.map PyData.int) = 0
  | [] => rfl
  | x :: xs => by
    show max (PyData.depth (.int x)) (PyData.depthAll (xs.map PyData.int)) = 0
    rw [dep_ints xs]
    rfl
theorem dI_shaped (xs : List Int) : SeqAt.shaped (dI xs) = true := by
  unfold SeqAt.shaped
  have h1 : PyData.canLay0 (dI xs) = true := lay_ints xs
  have h2 : PyData.depth (dI xs) = 1 := by
    show PyData.depthAll (xs.map PyData.int) + 1 = 1
    rw [dep_ints]
  rw [h1, h2]
  rfl
theorem eqv_ints : ∀ xs ys : List Int, PyData.eqvAll (xs.map PyData.int) (ys.map PyData.int) = decide (xs = ys)
  | [], [] => rfl
  | x :: xs, [] => rfl
  | [], y :: ys => rfl
  | x :: xs, y :: ys => by
    show ((x == y) && PyData.eqvAll (xs.map PyData.int) (ys.map PyData.int)) = _
    rw [eqv_ints xs ys, Bool.eq_iff_iff]
    simp
theorem dI_eqv (xs ys : List Int) : PyData.eqv (dI xs) (dI ys) = decide (xs = ys) := eqv_ints xs ys
theorem lay_lists : ∀ xss : List (List Int), PyData.canLayAll0 (xss.map dI) = true
  | [] => rfl
  | x :: xs => by
    show (PyData.canLayAll0 (x.map PyData.int) && PyData.canLayAll0 (xs.map dI)) = true
    rw [lay_lists xs, lay_ints]
    rfl
theorem dep_lists : ∀ xss : List (List Int), PyData.depthAll (xss.map dI) ≤ 1
  | [] => Nat.zero_le _
  | x :: xs => by
    show max (PyData.depthAll (x.map PyData.int) + 1) (PyData.depthAll (xs.map dI)) ≤ 1
    have := dep_lists xs
    rw [dep_ints]
    omega
theorem dL_shaped (xss : List (List Int)) : SeqAt.shaped (dL xss) = true := by
  unfold SeqAt.shaped
  have h1 : PyData.canLay0 (dL xss) = true := lay_lists xss
  have h2 : PyData.depth (dL xss) ≤ 64 := by
    show PyData.depthAll (xss.map dI) + 1 ≤ 64
    have := dep_lists xss
    omega
  rw [h1, decide_eq_true h2]
  rfl
theorem eqv_lists : ∀ xss yss : List (List Int), PyData.eqvAll (xss.map dI) (yss.map dI) = decide (xss = yss)
  | [], [] => rfl
  | x :: xs, [] => rfl
  | [], y :: ys => rfl
  | x :: xs, y :: ys => by
    show (PyData.eqv (dI x) (dI y) && PyData.eqvAll (xs.map dI) (ys.map dI)) = _
    rw [eqv_lists xs ys, dI_eqv, Bool.eq_iff_iff]
    simp
theorem dL_eqv (xss yss : List (List Int)) : PyData.eqv (dL xss) (dL yss) = decide (xss = yss) := eqv_lists xss yss
theorem dp_lists {K : PySem.W.Frag} {H : Hp} {p : Addr} {ps : List Addr} {xss : List (List Int)} (h : H p = some (.lst (ps.map V.ref))) (hc : ps.length = xss.length) (he : ∀ (i : Nat) a xs, ps[i]? = some a → xss[i]? = some xs → H a = some (.lst (xs.map V.int))) : Dp K H (.ref p) (dL xss) := by
  refine .lst (.inl (.inl h)) ?_
  clear h
  induction ps generalizing xss with
  | nil =>
    cases xss with
    | nil => exact .nil
    | cons x xs => cases hc
  | cons a ps ih =>
    cases xss with
    | nil => cases hc
    | cons x xs => exact .cons (dp_ints (he 0 a x rfl rfl)) (ih (by simpa using hc) fun i b ys h1 h2 => he (i + 1) b ys h1 h2)
/-- what the law tells of a space's state -/
structure StL (D : Hp) (st : Addr) (ws ns rs : List Int) (a c : Int) : Prop where
  ex : ∃ w n r q : Addr, D st = some (.lst ([w, n, r, q].map V.ref)) ∧ D w = some (.lst (ws.map V.int)) ∧ D n = some (.lst (ns.map V.int)) ∧ D r = some (.lst (rs.map V.int)) ∧ D q = some (.lst (([a, c] : List Int).map V.int))
theorem StL.same {D D' : Hp} {st ws ns rs a c} (h : StL D st ws ns rs a c) (s : Same D D') : StL D' st ws ns rs a c := by
  obtain ⟨w, n, r, q, h1, h2, h3, h4, h5⟩ := h.ex
  exact ⟨w, n, r, q, s _ _ h1, s _ _ h2, s _ _ h3, s _ _ h4, s _ _ h5⟩
theorem StL.dp {K : PySem.W.Frag} {D : Hp} {st ws ns rs a c} (h : StL D st ws ns rs a c) : Dp K D (.ref st) (dL [ws, ns, rs, [a, c]]) := by
  obtain ⟨w, n, r, q, h1, h2, h3, h4, h5⟩ := h.ex
  refine dp_lists h1 rfl fun i b xs e1 e2 => ?_
  match i, e1, e2 with
  | 0, e1, e2 => cases e1; cases e2; exact h2
  | 1, e1, e2 => cases e1; cases e2; exact h3
  | 2, e1, e2 => cases e1; cases e2; exact h4
  | 3, e1, e2 => cases e1; cases e2; exact h5
def Srt (row : List OB) (ys : List Int) : Prop := ys.Perm (nums row) ∧ ys.Pairwise (· ≤ ·)
theorem Srt.uniq {row : List OB} {xs ys : List Int} (h : Srt row xs) (g : Srt row ys) : xs = ys := sorted_eq (h.1.trans g.1.symm) h.2 g.2

noncomputable def collG (S : GS) : List V := if S.wk = none then [.str "collected", .int (liveT S.g 0)] else [.str "wrong", .str "open"]
noncomputable def bothG (rm en : Int) (S : GS) (x : Int) : GS × List V := if x % 20 = 14 then (S, collG S) else doneG rm en S x
theorem collG_tk {S} : Tk (collG S) := by
  unfold collG
  split
  · exact .si
  · exact .ss
theorem bothG_tk {rm en S x} : Tk (bothG rm en S x).2 := by
  unfold bothG
  exact .if_ collG_tk doneG_tk
structure Eff9 (deed : Int) (S S' : GS) (r r' : RS) : Prop where
  done : deed ≠ 14 → Eff deed S S' r r'
  coll : deed = 14 → (S.wk = none → ((flat r'.row).length : Int) = liveT S.g 0) ∧ (S.wk ≠ none → r' = r)
/-- new objects beside H, kept in a frame -/
theorem Fresh.grow {G H H' D : Hp} (f : Fresh H H' D) : Same D (My.grow G H H') := fun b o e => grow_new (f b o e).1 (f b o e).2
theorem Fresh.out {A : Ad} {H H' D : Hp} {sp : Addr} {rm en : Int} {al : Bool} {mom : List Int} {G : Hp} {n : Nat} {S : GS} {r : RS} (f : Fresh H H' D) (R : Rep A H sp rm en al mom G n S r) : ∀ b o, D b = some o → G b = none := fun b o e => R.out (f b o e).1
def SavedOk (D : Hp) (sv : Addr) (S : GS) (r : RS) : Prop := match S.wk with
  | none => D sv = some (.lst [])
  | some (_, _, g0) => ∃ st ns a c, D sv = some (.lst [.ref st]) ∧ StL D st (flat r.row0) ns (0 :: (g0.roots.map (rl r.ns0) ++ g0.held.map (rl r.ns0))) a c ∧ Srt r.row0 ns

def sp_lstate9 (A : Ad) : Sp := fun vs H Q _ => ∃ (sp : Addr) (rm en : Int) (al : Bool) (mom : List Int) (G : Hp) (n : Nat) (S : GS) (r : RS), vs = [.ref sp] ∧ Rep A H sp rm en al mom G n S r ∧ n ≤ 900 ∧
  ∀ H' D st ns, Same H H' → Fresh H H' D → StL D st (flat r.row) ns (0 :: (S.g.roots.map (rl r.ns) ++ S.g.held.map (rl r.ns))) r.na r.nc → Srt r.row ns → Q (.ref st) H'
theorem sp_lstate9_len {A vs H Q E} (h : sp_lstate9 A vs H Q E) : vs.length = (["space"] : List Str).length := by
  obtain ⟨_, _, _, _, _, _, _, _, _, rfl, _⟩ := h
  rfl
section
variable {P : Program} {w : World} {K : PySem.W.Frag} {mg : Str → Option Value} {base : Heap} {A : Ad}
theorem ok__law_state (T : Txt K mg A) : FnOk P w K mg base CX0 2 A.f__law_state A.d__law_state ["space"] (sp_lstate9 A) := by
  refine Fun.ok T.F__law_state sc__law_state (fun vs H Q E h => ?_) (fun cdv Ar outer s H vs Q E hr h => ?_)
  · exact sp_lstate9_len h
  · have hu := hu_of hr
    refine ⟨_, (pss_one (ps_ret (pe_lst (pa_cons (pe_callTy call_listM (by rfl) T.z_list (by decide +kernel) (pa_cons (pe_fld (pe_fld (pv 0) rfl) rfl) pa_nil)) (pa_cons (pe_meth0 (pe_fld (pv 0) rfl) T.cl_Store T.me_Store_numbers (ok_Store_numbers T) (hr.mono (by decide)) T.b_Store_numbers .nil pass0) (pa_cons (pe_meth0 (pv 0) T.cl_Space T.me_Space_all_roots (ok_Space_all_roots T) (hr.mono (by decide)) T.b_Space_all_roots .nil pass0) (pa_cons (pe_lst (pa_cons (pe_fld (pv 0) rfl) (pa_cons (pe_fld (pv 0) rfl) pa_nil))) pa_nil))))))), ?_⟩
    obtain ⟨sp, rm, en, al, mom, G, n, S, r, rfl, R, hn, k⟩ := h
    have ag := R.1
    obtain ⟨w1, W1, Z1, d1⟩ := R.sq
    obtain ⟨dx, s, pr, rt, hl, mo, F1, Z⟩ := id Z1
    have ho := Z.ho
    obtain ⟨dx7, w7, dd7, f7, ws7, kvs7, fr7, fs7, I7, R7⟩ := id Z.st
    have hs := I7.ho
    have hw7 := I7.hw
    rw [R7.ws] at hw7
    have agr := ag.r
    have agh := ag.h
    have sz : (300000 : Nat) ≤ sizeLine := by decide
    dsimp! only [ho, hs, T.cl_Store, T.no_Store_room, T.no_Store_entries, T.no_Store_words, T.no_Store__places, T.no_Store__free, T.no_Store__fresh, stF_room, stF_entries, stF_words, stF_places, stF_free, stF_fresh, stF_mused, stF_mexists, stF_mnumbers, stF_mfree, stF_malloc, stF_msize, stF_mkind, stF_mskind, stF_mget, stF_mput, stF_mslots, stF_mdrop, stF_mclose, stF_msnap, stF_mrest, stF_mexch, stF_len, stF_pf, stF_pd, stF_pl]
    rw [hw7]
    intro l hl
    have f1 : Fresh H (upd H l (HO.lst ((flat r.row).map V.int))) (upd (fun _ => none) l (HO.lst ((flat r.row).map V.int))) := Fresh.one hl upd_same
    have sm1 := same_new (o := HO.lst ((flat r.row).map V.int)) hl
    have g1 : upd (fun _ => none) l (HO.lst ((flat r.row).map V.int)) l = some (HO.lst ((flat r.row).map V.int)) := upd_same
    generalize upd (fun _ => none) l (HO.lst ((flat r.row).map V.int)) = D1 at f1 g1
    generalize upd H l (HO.lst ((flat r.row).map V.int)) = H1 at f1 sm1 ⊢
    have Y1 := Z.same sm1
    obtain ⟨_, _, _, _, _, hs1⟩ := Y1.st.ho
    refine ⟨_, _, _, Y1.ho, T.cl_Space, T.no_Space_store, _, spF_store, s, rfl, _, _, hs1, stF_mnumbers, s, rm, en, _, _, rfl, Y1.st, fun ys q p1 p2 hq => ?_⟩
    have f2 := f1.new (o := HO.lst (ys.map V.int)) sm1 hq
    have dq : D1 q = none := by
      cases z : D1 q with
      | none => rfl
      | some u =>
        have := (f1 _ _ z).2
        rw [hq] at this
        cases this
    have g12 := same_new (o := HO.lst (ys.map V.int)) dq _ _ g1
    have g2 : upd D1 q (HO.lst (ys.map V.int)) q = some (HO.lst (ys.map V.int)) := upd_same
    have sm2 := same_trans sm1 (same_new (o := HO.lst (ys.map V.int)) hq)
    generalize upd D1 q (HO.lst (ys.map V.int)) = D2 at f2 g12 g2
    generalize upd H1 q (HO.lst (ys.map V.int)) = H2 at f2 sm2 ⊢
    have Y2 := Z.same sm2
    refine ⟨_, _, Y2.ho, spF_mall, sp, rm, en, _, _, _, _, _, _, _, _, rfl, ⟨_, _, _, _, _, _, _, Y2⟩, by rw [List.length_map, List.length_map]; omega, fun H3 p3 sm3 hp3 gp3 => ?_⟩
    have f3 : Fresh H H3 (upd D2 p3 (HO.lst ((0 :: (S.g.roots.map (rl r.ns) ++ S.g.held.map (rl r.ns))).map V.int))) := fun b o e => by
      by_cases c : b = p3
      · subst c
        rw [upd_same] at e
        exact ⟨none_of sm2 hp3, by rw [gp3]; exact e⟩
      · rw [upd_ne c] at e
        exact ⟨(f2 b o e).1, sm3 _ _ (f2 b o e).2⟩
    have dp3 : D2 p3 = none := by
      cases z : D2 p3 with
      | none => rfl
      | some u =>
        have := (f2 _ _ z).2
        rw [hp3] at this
        cases this
    have s3 := same_new (o := HO.lst ((0 :: (S.g.roots.map (rl r.ns) ++ S.g.held.map (rl r.ns))).map V.int)) dp3
    have g13 := s3 _ _ g12
    have g23 := s3 _ _ g2
    have g3 : upd D2 p3 (HO.lst ((0 :: (S.g.roots.map (rl r.ns) ++ S.g.held.map (rl r.ns))).map V.int)) p3 = _ := upd_same
    generalize upd D2 p3 (HO.lst ((0 :: (S.g.roots.map (rl r.ns) ++ S.g.held.map (rl r.ns))).map V.int)) = D3 at f3 g13 g23 g3
    have smA := same_trans sm2 sm3
    have Y3 := Z.same smA
    have ho3 := Y3.ho
    dsimp! only [ho3]
    refine ⟨by omega, fun p4 hp4 => ⟨by omega, fun p5 hp5 => ?_⟩⟩
    have f4 := f3.new (o := HO.lst [V.int r.na, V.int r.nc]) smA hp4
    have smB := same_trans smA (same_new (o := HO.lst [V.int r.na, V.int r.nc]) hp4)
    have f5 := f4.new (o := HO.lst [V.ref l, V.ref q, V.ref p3, V.ref p4]) smB hp5
    have dn : ∀ {D Hx : Hp} {b : Addr}, Fresh H Hx D → Hx b = none → D b = none := fun {D Hx b} f e => by
      cases z : D b with
      | none => rfl
      | some u =>
        have := (f _ _ z).2
        rw [e] at this
        cases this
    have s4 := same_new (o := HO.lst [V.int r.na, V.int r.nc]) (dn f3 hp4)
    have s5 := same_new (o := HO.lst [V.ref l, V.ref q, V.ref p3, V.ref p4]) (dn f4 hp5)
    exact k _ _ p5 ys (same_trans smB (same_new hp5)) f5 ⟨⟨l, q, p3, p4, upd_same, s5 _ _ (s4 _ _ g13), s5 _ _ (s4 _ _ g23), s5 _ _ (s4 _ _ g3), s5 _ _ upd_same⟩⟩ ⟨p1, p2⟩
end

def sp_lcoll9 (A : Ad) : Sp := fun vs H Q _ => ∃ (sp : Addr) (rm en : Int) (al : Bool) (mom : List Int) (G : Hp) (n : Nat) (S : GS) (r : RS), vs = [.ref sp] ∧ Rep A H sp rm en al mom G n S r ∧ n ≤ 900 ∧
  ∀ H' t r', G t = none → Rep A H' sp rm en al mom (upd G t (.lst (collG S))) n S r' → Eff9 14 S S r r' → Q (.ref t) H'
theorem sp_lcoll9_len {A vs H Q E} (h : sp_lcoll9 A vs H Q E) : vs.length = (["space"] : List Str).length := by
  obtain ⟨_, _, _, _, _, _, _, _, _, rfl, _⟩ := h
  rfl
section
variable {P : Program} {w : World} {K : PySem.W.Frag} {mg : Str → Option Value} {base : Heap} {A : Ad}
theorem ok__law_collected (T : Txt K mg A) : FnOk P w K mg base CX0 7 A.f__law_collected A.d__law_collected ["space"] (sp_lcoll9 A) := by
  refine Fun.ok T.F__law_collected sc__law_collected (fun vs H Q E h => ?_) (fun cdv Ar outer s H vs Q E hr h => ?_)
  · exact sp_lcoll9_len h
  · have hu := hu_of hr
    refine ⟨_, (pss_cons (L2N.ps_try_as (i := 1) rfl rfl sc__law_collected.nd rfl rfl ⟨rfl, by decide, Or.inl T.m_SaggarError⟩ takesN (fun W pn xe tk _ => (pss_one (ps_expr (pe_methE0 (pv 0) T.cl_Space T.me_Space_collect (ok_Space_collect T) (hr.mono (by decide)) T.b_Space_collect (fun σ => L2N.passAt tk σ)))))
      (fun a oe cls d pn hz hf => (pss_cons (ps_if (pt_val (pe_callB (call_isXs hz hf) (by rfl) T.z_isinstance (by decide +kernel) (pa_cons (pv 1) (pa_cons (pe_glob (v := .ref A.C_Wrong) (by rfl) T.m_Wrong rfl) pa_nil)))) (pss_one (ps_ret (pe_lst (pa_cons pe_str (pa_cons (pe_fxs hz hf (pv 1)) pa_nil))))) pss_nil)
    (pss_one (ps_ret (pe_lst (pa_cons pe_str pa_nil)))))))
    (pss_one (ps_ret (pe_lst (pa_cons pe_str (pa_cons (pe_meth0 (pv 0) T.cl_Space T.me_Space_live_words (ok_Space_live_words T) (hr.mono (by decide)) T.b_Space_live_words .nil pass0) pa_nil)))))), ?_⟩
    obtain ⟨sp, rm, en, al, mom, G, n, S, r, rfl, R, hn, k⟩ := h
    have ag := R.1
    have rh : (S.g.roots.map (rl r.ns)).length + (S.g.held.map (rl r.ns)).length ≤ 10000 := by
      rw [List.length_map, List.length_map]
      have := ag.r
      have := ag.h
      omega
    obtain ⟨_, R2⟩ := id R
    cases hw : S.wk with
    | none =>
      rw [hw] at R2
      have Z1 : SQ A H sp rm en r.row (al, .non) mom r.na r.nc (S.g.roots.map (rl r.ns)) (S.g.held.map (rl r.ns)) G := R2
      obtain ⟨dx, s, pr, rt, hl, mo, F1, Z⟩ := id Z1
      have ho := Z.ho
      dsimp! only [ho]
      refine ⟨sp, rm, en, r.row, (al, .non), mom, _, _, _, _, G, rfl, Z1, rh, .inl ⟨rfl, fun H' ks Z' nd ch => ?_⟩⟩
      have ke : ∀ z, z ∈ ks ↔ Rch r.row ((0 :: (S.g.roots ++ S.g.held)).map (rl r.ns)) z := fun z => by
        rw [List.map_cons, List.map_append, rl_zero ag.z]
        exact ch z
      have L : Live r.row (S.g.roots.map (rl r.ns) ++ S.g.held.map (rl r.ns)) ks := ⟨nd, ch⟩
      have agk : Ag rm en S.g (keep r.row ks) r.ns n := ⟨ag.a.keep ke, ag.z, ag.o.keep ks, ag.r, ag.h, ag.t, ag.s⟩
      have mem : ∀ z ∈ ks, z ∈ nums r.row := fun z hz => ((ch z).mp hz).nums
      have fl : ((flat (keep r.row ks)).length : Int) = liveT S.g 0 := by
        rw [← total_keep ag.o.nd nd mem, ag.live L]
      have R' : Rep A H' sp rm en al mom G n S ⟨keep r.row ks, r.na, r.nc + 1, r.ns, r.row0, r.ns0⟩ := ⟨agk, by
        rw [hw]
        exact Z'⟩
      obtain ⟨dx2, s2, pr2, rt2, hl2, mo2, F2, Y2⟩ := id Z'
      refine ⟨_, _, Y2.ho, spF_mlive, sp, rm, en, _, _, _, _, _, _, _, _, rfl, Z', rh, fun H3 ks3 s3 L3 => ⟨by decide, fun p hp => ?_⟩⟩
      rw [agk.live L3]
      have e : collG S = [.str "collected", .int (liveT S.g 0)] := if_pos hw
      rw [e] at k
      have R3 := R'.same s3
      exact k _ p _ (R3.out hp) (R3.new hp) ⟨fun c => absurd rfl c, fun _ => ⟨fun _ => fl, fun c => absurd hw c⟩⟩
    | some wk =>
      obtain ⟨u, c2, g0⟩ := wk
      have hn2 : S.wk ≠ none := by rw [hw]; simp
      rw [hw] at R2
      obtain ⟨h1, h2, h3, W, tk, Z0, wkk, wd⟩ := R2
      obtain ⟨dx, s, pr, rt, hl, mo, F1, Z⟩ := id Z0
      have ho := Z.ho
      dsimp! only [ho]
      refine ⟨sp, rm, en, r.row, (al, .ref tk), mom, _, _, _, _, My.uni W G, rfl, Z0, rh, .inr ⟨tk, rfl, fun dd hdd => ?_⟩⟩
      show wAs K (Value.ref A.C_SaggarError) 1 _ _ _ (.ref A.C_Wrong) (some dd) _ _
      unfold wAs
      refine ⟨true, T.ex_Wrong_SaggarError, fun _ x hx => ?_, fun z => absurd z (by decide)⟩
      have R3 := R.same (same_new (o := HO.xd [("why", V.str "open")]) hdd)
      have gdd : upd H dd (HO.xd [("why", V.str "open")]) dd = some (HO.xd [("why", V.str "open")]) := upd_same
      generalize upd H dd (HO.xd [("why", V.str "open")]) = H1 at gdd R3 ⊢
      simp! only [gdd]
      refine ⟨by decide, fun p hp => ?_⟩
      have e : collG S = [.str "wrong", .str "open"] := if_neg hn2
      rw [e] at k
      exact k _ p r (R3.out hp) (R3.new hp) ⟨fun c => absurd rfl c, fun _ => ⟨fun c => absurd c hn2, fun _ => rfl⟩⟩
end

def sp_lboth9 (A : Ad) : Sp := fun vs H Q _ => ∃ (sp : Addr) (rm en : Int) (al : Bool) (mom : List Int) (G : Hp) (n : Nat) (S : GS) (r : RS) (x : Int), vs = [.ref sp, .int x] ∧ Rep A H sp rm en al mom G n S r ∧ n < 900 ∧ rm ≤ 4000 ∧ 0 ≤ en ∧
  ∀ H' t r', G t = none → Rep A H' sp rm en al mom (upd G t (.lst (bothG rm en S x).2)) (n + 1) (bothG rm en S x).1 r' → Eff9 (x % 20) S (bothG rm en S x).1 r r' → Q (.ref t) H'
theorem sp_lboth9_len {A vs H Q E} (h : sp_lboth9 A vs H Q E) : vs.length = (["space", "x"] : List Str).length := by
  obtain ⟨_, _, _, _, _, _, _, _, _, _, rfl, _⟩ := h
  rfl
section
variable {P : Program} {w : World} {K : PySem.W.Frag} {mg : Str → Option Value} {base : Heap} {A : Ad}
theorem ok__law_both (T : Txt K mg A) : FnOk P w K mg base CX0 9 A.f__law_both A.d__law_both ["space", "x"] (sp_lboth9 A) := by
  refine Fun.ok T.F__law_both sc__law_both (fun vs H Q E h => ?_) (fun cdv Ar outer s H vs Q E hr h => ?_)
  · exact sp_lboth9_len h
  · have hu := hu_of hr
    refine ⟨_, (pss_cons (ps_if (pt_cmpR op_eq (pe_op op_mod (pe_callTy call_intI (by rfl) T.z_int (by decide +kernel) (pa_cons (pv 1) pa_nil)) pe_int) pe_int (nomark _)) (pss_one (ps_ret (pe_call (ok__law_collected T) (hr.mono (by decide)) (by rfl) T.g__law_collected T.k__law_collected T.b__law_collected .nil pass0 (pa_cons (pv 0) pa_nil)))) pss_nil)
    (pss_one (ps_ret (pe_call (ok__law_done T) (hr.mono (by decide)) (by rfl) T.g__law_done T.k__law_done T.b__law_done .nil pass0 (pa_cons (pv 0) (pa_cons (pv 1) pa_nil)))))), ?_⟩
    obtain ⟨sp, rm, en, al, mom, G, n, S, r, x, rfl, R, hn, hrm, he, k⟩ := h
    simp! only [rIsL]
    refine ⟨by decide, ite2 (fun c => ?_) (fun c => ?_)⟩
    · have e : bothG rm en S x = (S, collG S) := if_pos c
      rw [e] at k
      refine ⟨sp, rm, en, al, mom, G, n, S, r, rfl, R, by omega, fun H' t r' gt R' ef => k H' t r' gt (R'.up (by omega)) ?_⟩
      rw [c]
      exact ef
    · have e : bothG rm en S x = doneG rm en S x := if_neg c
      rw [e] at k
      exact ⟨sp, rm, en, al, mom, G, n, S, r, x, rfl, R, hn, hrm, he, c, fun H' t r' gt R' ef => k H' t r' gt R' ⟨fun _ => ef, fun z => absurd z c⟩⟩
end

def fate : List Int → Bool
  | [] => false
  | d :: ds => if 16 < d % 20 then decide (17 < d % 20) else fate ds
def und : Bool → List Int → List Bool
  | _, [] => []
  | false, d :: ds => if 14 < d % 20 ∧ d % 20 < 17 then fate ds :: und true ds else false :: und false ds
  | true, d :: ds => if 16 < d % 20 then decide (17 < d % 20) :: und false ds else fate ds :: und true ds
theorem und_len : ∀ (o : Bool) (ds : List Int), (und o ds).length = ds.length
  | _, [] => by
    unfold und
    rfl
  | false, d :: ds => by
    unfold und
    split
    · rw [List.length_cons, List.length_cons, und_len true ds]
    · rw [List.length_cons, List.length_cons, und_len false ds]
  | true, d :: ds => by
    unfold und
    split
    · rw [List.length_cons, List.length_cons, und_len false ds]
    · rw [List.length_cons, List.length_cons, und_len true ds]
/-- what the law's list holds in front of deed k -/
structure UL (ds : List Int) (k : Nat) (L : List Bool) (start : Int) : Prop where
  ex : ∃ (o : Bool) (P : List Bool) (j : Nat), und false ds = P ++ List.replicate j (fate (ds.drop k)) ++ und o (ds.drop k) ∧ L = P ++ List.replicate (ds.length - P.length) false ∧ k = P.length + j ∧ ((o = false ∧ j = 0 ∧ start = -1) ∨ (o = true ∧ 1 ≤ j ∧ start = (P.length : Int)))
theorem UL.start {ds : List Int} : UL ds 0 (List.replicate ds.length false) (-1) := ⟨false, [], 0, rfl, rfl, rfl, .inl ⟨rfl, rfl, rfl⟩⟩
theorem UL.stop {ds : List Int} {L : List Bool} {start : Int} (h : UL ds ds.length L start) : L = und false ds := by
  obtain ⟨o, P, j, e1, e2, e3, _⟩ := h.ex
  rw [List.drop_length] at e1
  rw [e1, e2, e3, show P.length + j - P.length = j by omega]
  cases o <;> simp [fate, und]
theorem rep_succ {α : Type} (n : Nat) (a : α) : List.replicate n a ++ [a] = List.replicate (n + 1) a := by
  rw [List.replicate_succ']
section
variable {ds : List Int} {k : Nat} {L : List Bool} {start d : Int}
theorem drop_at {ds : List Int} {k : Nat} {d : Int} (h : ds[k]? = some d) : ds.drop k = d :: ds.drop (k + 1) := by
  obtain ⟨lt, e⟩ := List.getElem?_eq_some_iff.mp h
  rw [List.drop_eq_getElem_cons lt, e]
theorem UL.begin_ (h : UL ds k L start) (hd : ds[k]? = some d) (c1 : start < 0) (c2 : 14 < d % 20 ∧ d % 20 < 17) : UL ds (k + 1) L (k : Int) := by
  obtain ⟨o, P, j, e1, e2, e3, (⟨rfl, rfl, e4⟩ | ⟨rfl, h1, e4⟩)⟩ := h.ex
  · refine ⟨true, P, 1, ?_, e2, by omega, .inr ⟨rfl, Nat.le_refl _, by omega⟩⟩
    rw [e1, drop_at hd]
    show P ++ [] ++ und false (d :: ds.drop (k + 1)) = _
    rw [und, if_pos c2]
    simp
  · omega
theorem UL.calm (h : UL ds k L start) (hd : ds[k]? = some d) (c1 : start < 0) (c2 : ¬ (14 < d % 20 ∧ d % 20 < 17)) : UL ds (k + 1) L start := by
  obtain ⟨o, P, j, e1, e2, e3, (⟨rfl, rfl, e4⟩ | ⟨rfl, h1, e4⟩)⟩ := h.ex
  · have lt := (List.getElem?_eq_some_iff.mp hd).1
    refine ⟨false, P ++ [false], 0, ?_, ?_, by rw [List.length_append, List.length_singleton]; omega, .inl ⟨rfl, rfl, e4⟩⟩
    · rw [e1, drop_at hd]
      show P ++ [] ++ und false (d :: ds.drop (k + 1)) = _
      rw [und, if_neg c2]
      simp
    · rw [e2, List.append_assoc]
      congr 1
      rw [List.length_append, List.length_singleton, show ds.length - P.length = (ds.length - (P.length + 1)) + 1 by omega, List.replicate_succ]
      rfl
  · omega
theorem UL.on (h : UL ds k L start) (hd : ds[k]? = some d) (c1 : 0 ≤ start) (c2 : ¬ 16 < d % 20) : UL ds (k + 1) L start := by
  obtain ⟨o, P, j, e1, e2, e3, (⟨rfl, rfl, e4⟩ | ⟨rfl, h1, e4⟩)⟩ := h.ex
  · omega
  · refine ⟨true, P, j + 1, ?_, e2, by omega, .inr ⟨rfl, by omega, e4⟩⟩
    rw [e1, drop_at hd, und, if_neg c2, fate, if_neg c2, ← rep_succ]
    simp
theorem UL.commit (h : UL ds k L start) (hd : ds[k]? = some d) (c1 : 0 ≤ start) (c2 : 16 < d % 20) (c3 : ¬ 17 < d % 20) : UL ds (k + 1) L (-1) := by
  obtain ⟨o, P, j, e1, e2, e3, (⟨rfl, rfl, e4⟩ | ⟨rfl, h1, e4⟩)⟩ := h.ex
  · omega
  · have lt := (List.getElem?_eq_some_iff.mp hd).1
    refine ⟨false, P ++ List.replicate (j + 1) false, 0, ?_, ?_, by rw [List.length_append, List.length_replicate]; omega, .inl ⟨rfl, rfl, rfl⟩⟩
    · rw [e1, drop_at hd, und, if_pos c2, fate, if_pos c2, decide_eq_false c3, ← rep_succ]
      simp
    · rw [e2, List.append_assoc]
      congr 1
      rw [List.length_append, List.length_replicate, List.replicate_append_replicate]
      congr 1
      omega
theorem UL.abort (h : UL ds k L start) (hd : ds[k]? = some d) (c1 : 0 ≤ start) (c3 : 17 < d % 20) : start.toNat ≤ k ∧ L.length = ds.length ∧ UL ds (k + 1) (L.take start.toNat ++ List.replicate (k + 1 - start.toNat) true ++ L.drop (k + 1)) (-1) := by
  obtain ⟨o, P, j, e1, e2, e3, (⟨rfl, rfl, e4⟩ | ⟨rfl, h1, e4⟩)⟩ := h.ex
  · omega
  · have lt := (List.getElem?_eq_some_iff.mp hd).1
    have es : start.toNat = P.length := by omega
    refine ⟨by omega, by rw [e2, List.length_append, List.length_replicate]; omega, ?_⟩
    refine ⟨false, P ++ List.replicate (j + 1) true, 0, ?_, ?_, by rw [List.length_append, List.length_replicate]; omega, .inl ⟨rfl, rfl, rfl⟩⟩
    · rw [e1, drop_at hd, und, if_pos (by omega), fate, if_pos (by omega), decide_eq_true c3, ← rep_succ]
      simp
    · rw [es, e2, List.take_left' rfl, show k + 1 - P.length = j + 1 by omega]
      congr 1
      rw [List.drop_append, List.drop_of_length_le (by omega), List.nil_append, List.drop_replicate, List.length_append, List.length_replicate]
      congr 1
      omega
end
theorem repB : ∀ m : Nat, (List.replicate m [V.bl false]).flatten = (List.replicate m false).map V.bl
  | 0 => rfl
  | m + 1 => by
    rw [List.replicate_succ, List.replicate_succ, List.flatten_cons, repB m]
    rfl

def sp_lundone9 : Sp := fun vs H Q _ => ∃ (p : Addr) (ds : List Int), vs = [.ref p] ∧ H p = some (.lst (ds.map V.int)) ∧ ds.length ≤ 1000 ∧ ∀ H' q, Same H H' → H q = none → H' q = some (.lst ((und false ds).map V.bl)) → Q (.ref q) H'
theorem sp_lundone9_len {vs H Q E} (h : sp_lundone9 vs H Q E) : vs.length = (["deeds"] : List Str).length := by
  obtain ⟨_, _, rfl, _⟩ := h
  rfl
section
variable {P : Program} {w : World} {K : PySem.W.Frag} {mg : Str → Option Value} {base : Heap} {A : Ad}
theorem ok__law_undone (T : Txt K mg A) : FnOk P w K mg base CX0 1 A.f__law_undone A.d__law_undone ["deeds"] (sp_lundone9) := by
  refine Fun.ok T.F__law_undone sc__law_undone (fun vs H Q E h => ?_) (fun cdv Ar outer s H vs Q E hr h => ?_)
  · exact sp_lundone9_len h
  · have hu := hu_of hr
    refine ⟨_, (pss_cons (ps_asg (pe_op op_rep (pe_lst (pa_cons pe_bl pa_nil)) (pe_callB call_lenM (by rfl) T.z_len PySem.boot_len (pa_cons (pv 0) pa_nil))) (pg_name (i := 1) sc__law_undone.nd rfl (Or.inl rfl)))
    (pss_cons (ps_asg (pe_un un_neg pe_int) (pg_name (i := 2) sc__law_undone.nd rfl (Or.inl rfl)))
    (pss_cons (ps_for PassesOwn.never rfl (pi_range1 (by rfl) T.z_range (pa_cons (pe_callB call_lenM (by rfl) T.z_len PySem.boot_len (pa_cons (pv 0) pa_nil)) pa_nil)) (pg_name (i := 3) sc__law_undone.nd rfl (Or.inl rfl))
      (pss_cons (ps_asg (pe_op op_mod (pe_callTy call_intI (by rfl) T.z_int (by decide +kernel) (pa_cons (pe_ix ix_lstM (pv 0) (pv 3) (fun _ _ => rfl)) pa_nil)) pe_int) (pg_name (i := 4) sc__law_undone.nd rfl (Or.inl rfl)))
    (pss_one (ps_if (PW.pt (pw_and (pt_cmpR op_lt (pv 2) pe_int (nomark _)) (pw_and1 (pt_chain op_lt op_lt pe_int (pv 4) pe_int)))) (pss_one (ps_asg (pv 3) (pg_name (i := 2) sc__law_undone.nd rfl (Or.inl rfl)))) (pss_one (ps_if (PW.pt (pw_and (pt_cmpR op_ge (pv 2) pe_int (nomark _)) (pw_and1 (pt_cmpR op_gt (pv 4) pe_int (nomark _))))) (Evl.pss_cut (ps_if (pt_cmpR op_gt (pv 4) pe_int (nomark _)) (pss_one (ps_for PassesOwn.never rfl (pi_range2 (by rfl) T.z_range (pa_cons (pv 2) (pa_cons (pe_op op_add (pv 3) pe_int) pa_nil))) (pg_name (i := 5) sc__law_undone.nd rfl (Or.inl rfl))
      (pss_one (ps_asg pe_bl (pg_sub (pv 1) (pv 5) set_lstM))))) pss_nil)
    (pss_one (ps_asg (pe_un un_neg pe_int) (pg_name (i := 2) sc__law_undone.nd rfl (Or.inl rfl))))) pss_nil))))))
    (pss_one (ps_ret (pv 1)))))), ?_⟩
    obtain ⟨p, ds, rfl, hp, hl, k⟩ := h
    simp! only [hp, List.length_map]
    have sz : (300000 : Nat) ≤ sizeLine := by decide
    refine ⟨by omega, fun z hz => ?_⟩
    have hp1 := same_new (o := HO.lst [V.bl false]) hz _ _ hp
    rw [hp1]
    dsimp only
    rw [List.length_map]
    refine ⟨by omega, by omega, by rw [Int.toNat_natCast]; omega, fun q hq => ?_⟩
    rw [Int.toNat_natCast, repB]
    have sm2 : Same H (upd (upd H z (HO.lst [V.bl false])) q (HO.lst ((List.replicate ds.length false).map V.bl))) := same_trans (same_new hz) (same_new hq)
    have nq : H q = none := none_of (same_new hz) hq
    have gq : upd (upd H z (HO.lst [V.bl false])) q (HO.lst ((List.replicate ds.length false).map V.bl)) q = some (.lst ((List.replicate ds.length false).map V.bl)) := upd_same
    generalize upd (upd H z (HO.lst [V.bl false])) q (HO.lst ((List.replicate ds.length false).map V.bl)) = H1 at sm2 gq ⊢
    clear hz hq hp1
    refine for_rng (ds.length : Int) (fun R h => ?_) (by omega) (by omega) (fun i σ' H' => ∃ (L : List Bool) (st : Int) (n3 n4 n5 : Option V), σ' = [some (V.ref p), some (V.ref q), some (V.int st), n3, n4, n5] ∧ Same H H' ∧ H' q = some (.lst (L.map V.bl)) ∧ UL ds i L st) ⟨_, _, _, _, _, rfl, sm2, gq, UL.start⟩ ?_ ?_
    · have hp2 := sm2 _ _ hp
      simp! only [hp2, List.length_map]
      exact h
    · rintro i σ' H' hi ⟨L, st, n3, n4, n5, rfl, sm, gL, U⟩
      have lt : i < ds.length := by omega
      have hd : ds[i]? = some ds[i] := List.getElem?_eq_getElem lt
      have hat : atI (ds.map V.int) (i : Int) = some (.int ds[i]) := atI_nat (by rw [List.getElem?_map, hd]; rfl)
      generalize ds[i] = d at hd hat
      have hpH := sm _ _ hp
      simp! only [hpH, hat]
      refine ⟨by decide, ite2 (fun s0 => ite2 (fun a => ite2 (fun b => ⟨sm, L, gL, U.begin_ hd s0 ⟨a, b⟩⟩) (fun b => ite2 (fun c => absurd c (by omega)) (fun _ => ⟨sm, L, gL, U.calm hd s0 (fun z => b z.2)⟩))) (fun a => ite2 (fun c => absurd c (by omega)) (fun _ => ⟨sm, L, gL, U.calm hd s0 (fun z => a z.1)⟩))) (fun s0 => ite2 (fun s1 => ite2 (fun c => ?_) (fun c => ⟨sm, L, gL, U.on hd s1 c⟩)) (fun c => absurd (show 0 ≤ st by omega) c))⟩
      refine ⟨fun σ2 H2 => ∃ (L2_ : List Bool) (n6 : Option V), σ2 = [some (V.ref p), some (V.ref q), some (V.int st), some (V.int (i : Int)), some (V.int (d % 20)), n6] ∧ Same H H2 ∧ H2 q = some (.lst (L2_.map V.bl)) ∧ UL ds (i + 1) L2_ (-1), ?_, ?_⟩
      · simp! only [rIsL]
        refine ite2 (fun c7 => ?_) (fun c7 => ⟨sm, L, gL, U.commit hd s1 c c7⟩)
        obtain ⟨b1, b2, U2⟩ := U.abort hd s1 c7
        have es : ((st.toNat : Nat) : Int) = st := Int.toNat_of_nonneg s1
        refine for_rng2 st ((i : Int) + 1) (fun R h => ?_) (by omega) (by omega) (by omega) (by omega) (fun m σ3 H3 => ∃ (n6 : Option V), σ3 = [some (V.ref p), some (V.ref q), some (V.int st), some (V.int (i : Int)), some (V.int (d % 20)), n6] ∧ Same H H3 ∧ H3 q = some (.lst ((L.take st.toNat ++ List.replicate m true ++ L.drop (st.toNat + m)).map V.bl))) ⟨_, rfl, sm, by rw [List.replicate_zero, List.append_nil, Nat.add_zero, List.take_append_drop]; exact gL⟩ ?_ ?_
        · simp! only [rIsL]
          exact h
        · rintro m σ3 H3 hm ⟨n6, rfl, sm3, g3⟩
          have st3 : setI ((L.take st.toNat ++ List.replicate m true ++ L.drop (st.toNat + m)).map V.bl) (st + (m : Int)) (V.bl true) = some ((L.take st.toNat ++ List.replicate (m + 1) true ++ L.drop (st.toNat + (m + 1))).map V.bl) := by
            have l1 : (L.take st.toNat ++ List.replicate m true).length = st.toNat + m := by
              rw [List.length_append, List.length_take, List.length_replicate]
              omega
            have lt2 : st.toNat + m < L.length := by omega
            rw [show st + (m : Int) = ((st.toNat + m : Nat) : Int) by omega, setI_nat (by rw [List.length_map, List.length_append, l1, List.length_drop]; omega), ← List.map_set, List.set_append_right _ _ (by omega), l1, Nat.sub_self, List.drop_eq_getElem_cons lt2, List.set_cons_zero, ← rep_succ, List.append_assoc, List.append_assoc, List.append_assoc]
            rfl
          simp! only [g3, st3]
          intro b o e
          rw [upd_ne (ne_of_none e nq)]
          exact sm3 _ _ e
        · rintro σ3 H3 ⟨n6, rfl, sm3, g3⟩
          have e4 : Int.toNat ((i : Int) + 1 - st) = i + 1 - st.toNat := by omega
          rw [e4, show st.toNat + (i + 1 - st.toNat) = i + 1 by omega] at g3
          exact ⟨⟨_, rfl⟩, sm3, _, g3, U2⟩
      · rintro σ2 H2 ⟨L2_, n6, rfl, sm2, g2, U2⟩
        simp! only [rIsL]
        exact ⟨sm2, _, g2, U2⟩
    · rintro σ' H' ⟨L, st, n3, n4, n5, rfl, sm, gL, U⟩
      simp! only [rIsL]
      rw [Int.toNat_natCast] at U
      rw [U.stop] at gL
      exact k _ q sm nq gL
end

theorem lc_mapI {K : PySem.W.Frag} {tl : TE} {te : TE} {c : Nat} {σ : L2.St} {H : Hp} {Q : VK} {a : Addr} (f : Int → Int) (ns : List Int) (htl : ∀ R : V → Hp → Prop, R (.ref a) H → tl σ H R) (ha : H a = some (.lst (ns.map V.int))) (hn : ns.length ≤ 100000)
    (he : ∀ w ∈ ns, ∀ H' (R : VK), Same H H' → R (.int (f w)) H' → te ((σ.set c none).set c (some (.int w))) H' R)
    (k : ∀ D, H D = none → Q (.ref D) (upd H D (.lst ((ns.map f).map V.int)))) : tLc (iList K tl) (gName c) tYes te [c] σ H Q := by
  refine lc_lstI (K := K) (a := a) (ns.map V.int) (fun _ => true) (fun i y => y = (ns[i]?.map fun w => V.int (f w)).getD .non) htl (.inl (.inl ha)) (by rw [List.length_map]; exact hn) (fun i x H' R hx _ h => h) (fun i x H' R hx _ sm h => ?_) (fun D ys hD hy => ?_)
  · rw [List.getElem?_map] at hx
    obtain ⟨w, hw, rfl⟩ := Option.map_eq_some_iff.mp hx
    exact he w (List.mem_of_getElem? hw) H' R sm (h _ (by rw [hw]; rfl))
  · have e := hy.allF
    rw [List.length_map, range_all (fun w => V.int (f w)) ns] at e
    subst e
    have := k D hD
    rw [List.map_map] at this
    exact this

section
variable {rm en : Int} {S : GS} {x : Int}
theorem newG_none {kd : Int} {m j : Nat} (h : S.wk = none) : newG rm en S kd m j = if rm < liveT S.g kd + (3 + (m : Int)) then (S, [.str "room", .int (3 + (m : Int))]) else if en ≤ liveN S.g kd then (S, [.str "number", .int en]) else (⟨addG S.g kd m j, none⟩, [.str "made", .int (m : Int)]) := by
  unfold newG
  rw [h]
theorem newG_some {kd u c : Int} {g0 : PG} {m j : Nat} (h : S.wk = some (u, c, g0)) : newG rm en S kd m j = if rm < u + (3 + (m : Int)) then (S, [.str "room", .int (3 + (m : Int))]) else if en ≤ c then (S, [.str "number", .int en]) else (⟨addG S.g kd m j, some (u + (3 + (m : Int)), c + 1, g0)⟩, [.str "made", .int (m : Int)]) := by
  unfold newG
  rw [h]
theorem workG_none {d : Int} (h : S.wk = none) : workG S d = if d < 17 then (⟨S.g, some (liveT S.g 0, liveN S.g 0, S.g)⟩, [.str "work", .int d]) else (S, [.str "wrong", .str "closed"]) := by
  unfold workG
  rw [h]
theorem workG_some {d u c : Int} {g0 : PG} (h : S.wk = some (u, c, g0)) : workG S d = if d < 17 then (S, [.str "wrong", .str "open"]) else if d = 17 then (⟨S.g, none⟩, [.str "work", .int d]) else (⟨g0, none⟩, [.str "work", .int d]) := by
  unfold workG
  rw [h]
theorem newG_wk {kd : Int} {m j : Nat} : (S.wk = none → (newG rm en S kd m j).1.wk = none) ∧ (∀ u c g0, S.wk = some (u, c, g0) → ∃ u' c', (newG rm en S kd m j).1.wk = some (u', c', g0)) := by
  constructor
  · intro h
    rw [newG_none h]
    split
    · exact h
    · split
      · exact h
      · rfl
  · intro u c g0 h
    rw [newG_some h]
    split
    · exact ⟨_, _, h⟩
    · split
      · exact ⟨_, _, h⟩
      · exact ⟨_, _, rfl⟩
theorem heldG_wk {d : Int} {j : Nat} {r : Int} : (heldG S d j r).1.wk = S.wk := by
  unfold heldG
  repeat' split
  all_goals rfl
theorem changedG_wk {d : Int} {j : Nat} {r : Int} : (changedG S d j r).1.wk = S.wk := by
  unfold changedG
  dsimp only
  repeat' split
  all_goals rfl
theorem both_none (h : S.wk = none) (hd : ¬ (14 < x % 20 ∧ x % 20 < 17)) : (bothG rm en S x).1.wk = none := by
  unfold bothG
  split
  · exact h
  · unfold doneG
    dsimp only
    split
    · split
      · exact newG_wk.1 h
      · exact newG_wk.1 h
    · split
      · exact h
      · split
        · rw [workG_none h, if_neg (by omega)]
          exact h
        · split
          · rw [heldG_wk]
            exact h
          · rw [changedG_wk]
            exact h
theorem both_some {u c : Int} {g0 : PG} (h : S.wk = some (u, c, g0)) (hd : ¬ 16 < x % 20) : ∃ u' c', (bothG rm en S x).1.wk = some (u', c', g0) := by
  unfold bothG
  split
  · exact ⟨_, _, h⟩
  · unfold doneG
    dsimp only
    split
    · split
      · exact newG_wk.2 _ _ _ h
      · exact newG_wk.2 _ _ _ h
    · split
      · exact ⟨_, _, h⟩
      · split
        · rw [workG_some h, if_pos (by omega)]
          exact ⟨_, _, h⟩
        · split
          · rw [heldG_wk]
            exact ⟨_, _, h⟩
          · rw [changedG_wk]
            exact ⟨_, _, h⟩
theorem both_work (hd : 14 < x % 20) : bothG rm en S x = workG S (x % 20) := by
  unfold bothG
  rw [if_neg (by omega)]
  unfold doneG
  dsimp only
  rw [if_neg (by omega), if_neg (by omega), if_pos hd]
theorem both_begin (h : S.wk = none) (h1 : 14 < x % 20) (h2 : x % 20 < 17) : bothG rm en S x = (⟨S.g, some (liveT S.g 0, liveN S.g 0, S.g)⟩, [.str "work", .int (x % 20)]) := by
  rw [both_work h1, workG_none h, if_pos h2]
theorem both_closed (h : S.wk = none) (h1 : 16 < x % 20) : bothG rm en S x = (S, [.str "wrong", .str "closed"]) := by
  rw [both_work (by omega), workG_none h, if_neg (by omega)]
theorem both_open (h : S.wk ≠ none) (h1 : 13 < x % 20) (h2 : x % 20 < 17) : bothG rm en S x = (S, [.str "wrong", .str "open"]) := by
  by_cases c : x % 20 = 14
  · unfold bothG
    rw [if_pos c]
    unfold collG
    rw [if_neg h]
  · rw [both_work (by omega)]
    unfold workG
    split
    · rename_i e
      exact absurd e h
    · rw [if_pos h2]
theorem both_commit (h : S.wk ≠ none) (h1 : x % 20 = 17) : bothG rm en S x = (⟨S.g, none⟩, [.str "work", .int (x % 20)]) := by
  rw [both_work (by omega)]
  unfold workG
  split
  · rename_i e
    exact absurd e h
  · rw [if_neg (by omega), if_pos h1]
theorem both_abort {u c : Int} {g0 : PG} (h : S.wk = some (u, c, g0)) (h1 : 17 < x % 20) : bothG rm en S x = (⟨g0, none⟩, [.str "work", .int (x % 20)]) := by
  rw [both_work (by omega), workG_some h, if_neg (by omega), if_neg (by omega)]
theorem both_coll (h : S.wk = none) (h1 : x % 20 = 14) : bothG rm en S x = (S, [.str "collected", .int (liveT S.g 0)]) := by
  unfold bothG
  rw [if_pos h1]
  unfold collG
  rw [if_pos h]
end
theorem cut2 {a b c d : Addr} : cutV (([a, b, c, d] : List Addr).map V.ref) none (some 2) = ([a, b] : List Addr).map V.ref := by
  rw [show (2 : Int) = ((2 : Nat) : Int) from rfl, cutV_to]
  rfl
def sizeG (x : Int) : Int := if x / 640 / 5 % 16 = 3 then x / 640 / 80 % 60 else x / 640 % 5
theorem sizeG_in (x : Int) : 0 ≤ sizeG x ∧ sizeG x ≤ 100 := by
  unfold sizeG
  have p0 := Int.emod_nonneg (x / 640) (show (5 : Int) ≠ 0 by decide)
  have p1 := Int.emod_lt_of_pos (x / 640) (show (0 : Int) < 5 by decide)
  have q0 := Int.emod_nonneg (x / 640 / 80) (show (60 : Int) ≠ 0 by decide)
  have q1 := Int.emod_lt_of_pos (x / 640 / 80) (show (0 : Int) < 60 by decide)
  split <;> omega
/-- new while work is open -/
theorem both_new {rm en : Int} {S : GS} {x u c : Int} {g0 : PG} (h : S.wk = some (u, c, g0)) (h1 : x % 20 < 4) :
    (rm < u + (3 + sizeG x) → (bothG rm en S x).2 = [.str "room", .int (3 + sizeG x)] ∧ (bothG rm en S x).1.wk = some (u, c, g0)) ∧
    (u + (3 + sizeG x) ≤ rm → en ≤ c → (bothG rm en S x).2 = [.str "number", .int en] ∧ (bothG rm en S x).1.wk = some (u, c, g0)) ∧
    (u + (3 + sizeG x) ≤ rm → c < en → (bothG rm en S x).2 = [.str "made", .int (sizeG x)] ∧ (bothG rm en S x).1.wk = some (u + (3 + sizeG x), c + 1, g0)) := by
  have sz : (((sizeG x).toNat : Nat) : Int) = sizeG x := Int.toNat_of_nonneg (sizeG_in x).1
  have one : ∀ S1 : GS, S1.wk = some (u, c, g0) → ∀ kd j, (rm < u + (3 + sizeG x) → (newG rm en S1 kd (sizeG x).toNat j).2 = [.str "room", .int (3 + sizeG x)] ∧ (newG rm en S1 kd (sizeG x).toNat j).1.wk = some (u, c, g0)) ∧
    (u + (3 + sizeG x) ≤ rm → en ≤ c → (newG rm en S1 kd (sizeG x).toNat j).2 = [.str "number", .int en] ∧ (newG rm en S1 kd (sizeG x).toNat j).1.wk = some (u, c, g0)) ∧
    (u + (3 + sizeG x) ≤ rm → c < en → (newG rm en S1 kd (sizeG x).toNat j).2 = [.str "made", .int (sizeG x)] ∧ (newG rm en S1 kd (sizeG x).toNat j).1.wk = some (u + (3 + sizeG x), c + 1, g0)) := fun S1 hs kd j => by
    have e : newG rm en S1 kd (sizeG x).toNat j = if rm < u + (3 + sizeG x) then (S1, [.str "room", .int (3 + sizeG x)]) else if en ≤ c then (S1, [.str "number", .int en]) else (⟨addG S1.g kd (sizeG x).toNat j, some (u + (3 + sizeG x), c + 1, g0)⟩, [.str "made", .int (sizeG x)]) := by
      unfold newG
      rw [hs, sz]
    rw [e]
    refine ⟨fun a => ?_, fun a b => ?_, fun a b => ?_⟩
    · rw [if_pos a]
      exact ⟨rfl, hs⟩
    · rw [if_neg (by omega), if_pos b]
      exact ⟨rfl, hs⟩
    · rw [if_neg (by omega), if_neg (by omega)]
      exact ⟨rfl, rfl⟩
  have eb : bothG rm en S x = (if x % 20 = 3 then newG rm en ⟨setR S.g (lpl (x / 20)).toNat 0, S.wk⟩ ((S.g.roots[(lpl (x / 20)).toNat]?).getD 0) (sizeG x).toNat (lpl (x / 20)).toNat else newG rm en S (wordG S.g (x / 640 / 80)) (sizeG x).toNat (lpl (x / 20)).toNat) := by
    unfold bothG
    rw [if_neg (by omega)]
    unfold doneG
    dsimp only
    rw [if_pos h1]
    rfl
  rw [eb]
  split
  · exact one ⟨setR S.g (lpl (x / 20)).toNat 0, S.wk⟩ h _ _
  · exact one S h _ _

def sp_lbegun9 (A : Ad) : Sp := fun vs H Q _ => ∃ (sp bf tt : Addr) (rm en : Int) (al : Bool) (mom : List Int) (G : Hp) (n : Nat) (S : GS) (r : RS) (ws ns rs : List Int) (a c d : Int), vs = [.ref sp, .ref bf, .ref tt] ∧ Rep A H sp rm en al mom G n S r ∧ n ≤ 900 ∧ rm ≤ 4000 ∧ StL G bf ws ns rs a c ∧ G tt = some (.lst [.str "work", .int d]) ∧ (d = 15 ∨ d = 16) ∧
  rs = 0 :: (S.g.roots.map (rl r.ns) ++ S.g.held.map (rl r.ns)) ∧ r.na = a ∧ r.nc = c + 1 ∧ ((flat r.row).length : Int) = liveT S.g 0 ∧ ∀ H', Same H H' → Q (.bl true) H'
theorem sp_lbegun9_len {A vs H Q E} (h : sp_lbegun9 A vs H Q E) : vs.length = (["space", "before", "told"] : List Str).length := by
  obtain ⟨_, _, _, _, _, _, _, _, _, _, _, _, _, _, _, _, _, rfl, _⟩ := h
  rfl
section
variable {P : Program} {w : World} {K : PySem.W.Frag} {mg : Str → Option Value} {base : Heap} {A : Ad}
theorem ok__law_begun (T : Txt K mg A) : FnOk P w K mg base CX0 5 A.f__law_begun A.d__law_begun ["space", "before", "told"] (sp_lbegun9 A) := by
  refine Fun.ok T.F__law_begun sc__law_begun (fun vs H Q E h => ?_) (fun cdv Ar outer s H vs Q E hr h => ?_)
  · exact sp_lbegun9_len h
  · have hu := hu_of hr
    refine ⟨_, (Evl.pss_cut (ps_if (PW.pt (pw_and (pt_not (pt_val (pe_call (ok__law_equal T) (hr.mono (by decide)) (by rfl) T.g__law_equal T.k__law_equal T.b__law_equal .nil pass0 (pa_cons (pv 2) (pa_cons (pe_lst (pa_cons pe_str (pa_cons pe_int pa_nil))) pa_nil))))) (pw_and1 (pt_not (pt_val (pe_call (ok__law_equal T) (hr.mono (by decide)) (by rfl) T.g__law_equal T.k__law_equal T.b__law_equal .nil pass0 (pa_cons (pv 2) (pa_cons (pe_lst (pa_cons pe_str (pa_cons pe_int pa_nil))) pa_nil)))))))) (pss_one (ps_ret pe_bl)) pss_nil)
    (pss_cons (ps_asg (pe_call (ok__law_state T) (hr.mono (by decide)) (by rfl) T.g__law_state T.k__law_state T.b__law_state .nil pass0 (pa_cons (pv 0) pa_nil)) (pg_name (i := 3) sc__law_begun.nd rfl (Or.inl rfl)))
    (Evl.pss_cut (ps_if (PW.pt (pw_or (pt_cmpR (op_neD hr.units) (pe_ix ix_lstM (pv 3) pe_int (fun _ _ => rfl)) (pe_ix ix_lstM (pv 1) pe_int (fun _ _ => rfl)) (nomark _)) (pw_or (pt_cmpR op_ne (pe_ix ix_lstM (pe_ix ix_lstM (pv 3) pe_int (fun _ _ => rfl)) pe_int (fun _ _ => rfl)) (pe_ix ix_lstM (pe_ix ix_lstM (pv 1) pe_int (fun _ _ => rfl)) pe_int (fun _ _ => rfl)) (nomark _)) (pw_or1 (pt_cmpR op_ne (pe_ix ix_lstM (pe_ix ix_lstM (pv 3) pe_int (fun _ _ => rfl)) pe_int (fun _ _ => rfl)) (pe_op op_add (pe_ix ix_lstM (pe_ix ix_lstM (pv 1) pe_int (fun _ _ => rfl)) pe_int (fun _ _ => rfl)) pe_int) (nomark _)))))) (pss_one (ps_ret pe_bl)) pss_nil)
    (pss_cons (ps_if (pt_cmpR op_ne (pe_callB call_lenM (by rfl) T.z_len PySem.boot_len (pa_cons (pe_ix ix_lstM (pv 3) pe_int (fun _ _ => rfl)) pa_nil)) (pe_meth0 (pv 0) T.cl_Space T.me_Space_live_words (ok_Space_live_words T) (hr.mono (by decide)) T.b_Space_live_words .nil pass0) (nomark _)) (pss_one (ps_ret pe_bl)) pss_nil)
    (pss_one (ps_ret (pe_cmpR op_eq (pe_callB (call_sumM rfl) (by rfl) T.z_sum (by decide +kernel) (pa_cons (pe_lc (own := [("number", 4)]) (g := gName 4) rfl sc__law_begun.nd (pi_list (pe_ix ix_lstM (pv 3) pe_int (fun _ _ => rfl))) (blkOk_by (own := [("number", 4)]) (N := ["space", "before", "told", "after", "number"]) (sc := defScope s__law_begun) (by decide +kernel)) (fun _ _ _ _ _ => pg_name (i := 4) sc__law_begun.nd rfl (Or.inl rfl)) (fun _ _ _ _ _ => pts_nil) (fun _ _ _ _ _ => (pe_op op_add pe_int (pe_meth (pe_fldK (K' := K) rfl (pv 0) rfl) T.cl_Store T.me_Store_size (ok_Store_size T) (hr.mono (by decide)) T.b_Store_size .nil pass0 (pa_cons (pv 4) pa_nil))))) pa_nil)) (pe_callB call_lenM (by rfl) T.z_len PySem.boot_len (pa_cons (pe_ix ix_lstM (pv 3) pe_int (fun _ _ => rfl)) pa_nil)) (nomark _)))))))), ?_⟩
    obtain ⟨sp, bf, tt, rm, en, al, mom, G, n, S, r, ws, ns, rs, a, c, d, rfl, R, hn, hrm, bs, gtt, hd, ers, ea, ec, ef, k⟩ := h
    have ag := R.1
    obtain ⟨w, nn, rr, q, b0, b1, b2, b3, b4⟩ := bs.ex
    have tH := R.get gtt
    have sz : (300000 : Nat) ≤ sizeLine := by decide
    have o1 := ag.o.sz
    have o2 := nums_len (row := r.row)
    have o3 := flat_rows r.row
    have rh : (S.g.roots.map (rl r.ns)).length + (S.g.held.map (rl r.ns)).length ≤ 10000 := by
      rw [List.length_map, List.length_map]
      have := ag.r
      have := ag.h
      omega
    simp! only []
    refine ⟨fun σ2 H2 => σ2 = [some (V.ref sp), some (V.ref bf), some (V.ref tt), none, none] ∧ Same H H2, ?_, ?_⟩
    · simp! only [rIsL]
      refine ⟨by omega, fun p hp => ?_⟩
      have sm1 := same_new (o := HO.lst [V.str "work", V.int 15]) hp
      refine ⟨tt, p, _, _, rfl, sm1 _ _ tH, upd_same, rfl, by show 2 ≤ 1000; decide, fun i x y e1 e2 => ?_, _, rfl, ?_⟩
      · match i, e1, e2 with
        | 0, e1, e2 => cases e1; cases e2; exact .inr ⟨_, _, rfl, rfl⟩
        | 1, e1, e2 => cases e1; cases e2; exact .inl ⟨_, _, rfl, rfl⟩
      generalize upd H p (HO.lst [V.str "work", V.int 15]) = H1 at sm1 ⊢
      refine ite2 (fun c => ?_) (fun _ => sm1)
      have d16 : d = 16 := by
        rcases hd with e | e
        · exact absurd (of_decide_eq_false c) (by rw [e]; simp)
        · exact e
      refine ⟨by omega, fun p2 hp2 => ?_⟩
      have sm2 := same_trans sm1 (same_new (o := HO.lst [V.str "work", V.int 16]) hp2)
      refine leq_same (sm2 _ _ tH) (by rw [upd_same, d16]) (by show 2 ≤ 1000; decide) (fun x hx => ?_) ⟨true, rfl, ?_⟩
      · simp only [List.mem_cons, List.not_mem_nil, or_false] at hx
        rcases hx with rfl | rfl
        · exact .inr ⟨_, rfl⟩
        · exact .inl ⟨_, rfl⟩
      · rw [if_neg (by decide)]
        exact sm2
    rintro σ2 H2 ⟨rfl, sm2⟩
    have R2 := R.same sm2
    simp! only [rIsL]
    refine ⟨sp, rm, en, al, mom, G, n, S, r, rfl, R2, hn, fun H3 D st ns3 sm3 fr3 st3 srt => ?_⟩
    have D3 : Same D H3 := fun b o e => (fr3 b o e).2
    obtain ⟨x1, x2, x3, x4, a0, a1, a2, a3, a4⟩ := (st3.same D3).ex
    have sm23 := same_trans sm2 sm3
    have c0_ := R.same sm23
    have B0 := c0_.get b0
    have B1 := c0_.get b1
    have B3 := c0_.get b3
    have B4 := c0_.get b4
    clear D3 c0_
    refine ⟨fun σ4 H4 => σ4 = [some (V.ref sp), some (V.ref bf), some (V.ref tt), some (V.ref st), none] ∧ Same H3 H4, ?_, ?_⟩
    · simp! only [a0, a3, a4, B0, B3, B4, rNeD, List.map_cons, List.map_nil]
      refine ⟨dI _, dp_ints a3, dI rs, dp_ints B3, dI_shaped _, dI_shaped _, ?_⟩
      rw [dI_eqv, decide_eq_true ers.symm, if_neg (by decide), if_neg (fun h => h ea), if_neg (fun h => h ec)]
      exact fun _ _ e => e
    rintro σ4 H4 ⟨rfl, sm4⟩
    have a0 := sm4 _ _ a0
    have a1 := sm4 _ _ a1
    have a2 := sm4 _ _ a2
    have sm34 := same_trans sm23 sm4
    have R4 := R.same sm34
    obtain ⟨w1, W1, Z1, d1⟩ := R4.sq
    obtain ⟨dx, s, pr, rt, hl, mo, F1, Z⟩ := id Z1
    have ho := Z.ho
    dsimp! only [a0, a1, ho, List.length_map]
    refine ⟨sp, rm, en, _, _, _, _, _, _, _, _, rfl, Z1, rh, fun H5 ks s5 L => ⟨sc_ii, ?_⟩⟩
    rw [ag.live L, ef, if_neg (fun h => h rfl)]
    have Z5 := Z.same s5
    have a0 := s5 _ _ a0
    have a1 := s5 _ _ a1
    have a2 := s5 _ _ a2
    have pl := srt.1.length_eq
    refine lc_mapI (K := K) (a := x2) (szO r.row) ns3 (fun R h => ?_) a2 (by omega) (fun w hw H6 R s6 h => ?_) (fun D hD => ?_)
    · simp! only [a0]
      exact h
    · have Z6 := Z5.same s6
      have ho6 := Z6.ho
      obtain ⟨_, _, _, _, _, hs6⟩ := Z6.st.ho
      obtain ⟨o, go⟩ := getO_of_mem (srt.1.mem_iff.mp hw)
      dsimp! only [ho6, hs6, T.cl_Store, T.no_Store_room, T.no_Store_entries, T.no_Store_words, T.no_Store__places, T.no_Store__free, T.no_Store__fresh, stF_room, stF_entries, stF_words, stF_places, stF_free, stF_fresh, stF_mused, stF_mexists, stF_mnumbers, stF_mfree, stF_malloc, stF_msize, stF_mkind, stF_mskind, stF_mget, stF_mput, stF_mslots, stF_mdrop, stF_mclose, stF_msnap, stF_mrest, stF_mexch, stF_len, stF_pf, stF_pd, stF_pl]
      refine ⟨s, rm, en, _, _, w, o, rfl, Z6.st, go, _, rfl, ?_⟩
      rw [← szO_of go]
      exact h
    · have s56 := same_new (o := HO.lst ((ns3.map (szO r.row)).map V.int)) hD
      have g0 := s56 _ _ a0
      have gx1 := s56 _ _ a1
      have gD : upd H5 D (HO.lst ((ns3.map (szO r.row)).map V.int)) D = some (.lst ((ns3.map (szO r.row)).map V.int)) := upd_same
      generalize upd H5 D (HO.lst ((ns3.map (szO r.row)).map V.int)) = H7 at s56 g0 gx1 gD ⊢
      refine ⟨D, rfl, ?_⟩
      rw [gD]
      refine ⟨_, rfl, ?_⟩
      rw [g0]
      refine ⟨_, atI_0, _, rfl, ?_⟩
      rw [gx1]
      have tot : (ns3.map (szO r.row)).sum = ((flat r.row).length : Int) := by
        have h1 : total r.row ns3 = total r.row (nums r.row) := total_perm srt.1
        have h2 := total_keep ag.o.nd ag.o.nd (fun _ h => h)
        have h3 : keep r.row (nums r.row) = r.row := by
          unfold keep
          refine List.filter_eq_self.mpr fun o ho2 => ?_
          have al2 := ag.o.al o ho2
          have : o.num ∈ nums r.row := by
            unfold nums
            exact List.mem_map.mpr ⟨o, List.mem_filter.mpr ⟨ho2, al2⟩, rfl⟩
          simp [al2, this]
        rw [h3] at h2
        show total r.row ns3 = _
        rw [h1, h2]
      dsimp only
      rw [List.length_map, decide_eq_true tot]
      exact k _ (same_trans sm34 (same_trans s5 s56))
end

def sp_lgrown9 (A : Ad) : Sp := fun vs H Q _ => ∃ (sp tl bf tt : Addr) (rm en : Int) (al : Bool) (mom : List Int) (G : Hp) (n : Nat) (S : GS) (r : RS) (ws ns rs : List Int) (a c x : Int) (tks : List V), vs = [.ref sp, .ref tl, .ref bf, .int x, .ref tt] ∧ Rep A H sp rm en al mom G n S r ∧ n ≤ 900 ∧ rm ≤ 4000 ∧ G tl = some (.tup [.int rm, .int en]) ∧ StL G bf ws ns rs a c ∧ G tt = some (.lst tks) ∧ r.na = a + 1 ∧ r.nc = c ∧ (ws.length : Int) ≤ rm ∧ (ns.length : Int) ≤ rm ∧
  ((rm < (ws.length : Int) + 3 + sizeG x ∧ tks = [.str "room", .int (3 + sizeG x)] ∧ flat r.row = ws ∧ Srt r.row ns) ∨
   (¬ rm < (ws.length : Int) + 3 + sizeG x ∧ en ≤ (ns.length : Int) ∧ tks = [.str "number", .int en] ∧ flat r.row = ws ∧ Srt r.row ns) ∨
   (¬ rm < (ws.length : Int) + 3 + sizeG x ∧ ¬ en ≤ (ns.length : Int) ∧ tks = [.str "made", .int (sizeG x)] ∧ (nums r.row).length = ns.length + 1 ∧ (flat r.row).take ws.length = ws ∧ ((flat r.row).length : Int) = (ws.length : Int) + 3 + sizeG x)) ∧ ∀ H', Same H H' → Q (.bl true) H'
theorem sp_lgrown9_len {A vs H Q E} (h : sp_lgrown9 A vs H Q E) : vs.length = (["space", "limits", "before", "x", "told"] : List Str).length := by
  obtain ⟨_, _, _, _, _, _, _, _, _, _, _, _, _, _, _, _, _, _, _, rfl, _⟩ := h
  rfl
section
variable {P : Program} {w : World} {K : PySem.W.Frag} {mg : Str → Option Value} {base : Heap} {A : Ad}
theorem ok__law_grown (T : Txt K mg A) : FnOk P w K mg base CX0 3 A.f__law_grown A.d__law_grown ["space", "limits", "before", "x", "told"] (sp_lgrown9 A) := by
  refine Fun.ok T.F__law_grown sc__law_grown (fun vs H Q E h => ?_) (fun cdv Ar outer s H vs Q E hr h => ?_)
  · exact sp_lgrown9_len h
  · have hu := hu_of hr
    refine ⟨_, (pss_cons (ps_asg (pe_op op_fdiv (pv 3) pe_int) (pg_name (i := 5) sc__law_grown.nd rfl (Or.inl rfl)))
    (pss_cons (ps_asg (pe_op op_mod (pe_callTy call_intI (by rfl) T.z_int (by decide +kernel) (pa_cons (pv 5) pa_nil)) pe_int) (pg_name (i := 6) sc__law_grown.nd rfl (Or.inl rfl)))
    (Evl.pss_cut (ps_if (pt_cmpR op_eq (pe_op op_mod (pe_op op_fdiv (pv 5) pe_int) pe_int) pe_int (nomark _)) (pss_one (ps_asg (pe_op op_mod (pe_op op_fdiv (pv 5) pe_int) pe_int) (pg_name (i := 6) sc__law_grown.nd rfl (Or.inl rfl)))) pss_nil)
    (pss_cons (ps_asg (pe_call (ok__law_state T) (hr.mono (by decide)) (by rfl) T.g__law_state T.k__law_state T.b__law_state .nil pass0 (pa_cons (pv 0) pa_nil)) (pg_name (i := 7) sc__law_grown.nd rfl (Or.inl rfl)))
    (Evl.pss_cut (ps_if (pt_cmpR (op_neD hr.units) (pe_ix ix_lstM (pv 7) pe_int (fun _ _ => rfl)) (pe_lst (pa_cons (pe_op op_add (pe_ix ix_lstM (pe_ix ix_lstM (pv 2) pe_int (fun _ _ => rfl)) pe_int (fun _ _ => rfl)) pe_int) (pa_cons (pe_ix ix_lstM (pe_ix ix_lstM (pv 2) pe_int (fun _ _ => rfl)) pe_int (fun _ _ => rfl)) pa_nil))) (nomark _)) (pss_one (ps_ret pe_bl)) pss_nil)
    (Evl.pss_cut (ps_if (pt_cmpR op_gt (pe_op op_add (pe_op op_add (pe_callB call_lenM (by rfl) T.z_len PySem.boot_len (pa_cons (pe_ix ix_lstM (pv 2) pe_int (fun _ _ => rfl)) pa_nil)) pe_int) (pv 6)) (pe_ix ix_tup (pv 1) pe_int (fun _ _ => rfl)) (nomark _)) (pss_one (ps_ret (pe_and (pe_call (ok__law_equal T) (hr.mono (by decide)) (by rfl) T.g__law_equal T.k__law_equal T.b__law_equal .nil pass0 (pa_cons (pv 4) (pa_cons (pe_lst (pa_cons pe_str (pa_cons (pe_op op_add pe_int (pv 6)) pa_nil))) pa_nil))) (pe_one (pe_cmpR (op_eqD hr.units) (pe_slice sl_listM (pv 7) po_none (po_some pe_int)) (pe_slice sl_listM (pv 2) po_none (po_some pe_int)) (nomark _)))))) pss_nil)
    (Evl.pss_cut (ps_if (pt_cmpR op_ge (pe_callB call_lenM (by rfl) T.z_len PySem.boot_len (pa_cons (pe_ix ix_lstM (pv 2) pe_int (fun _ _ => rfl)) pa_nil)) (pe_ix ix_tup (pv 1) pe_int (fun _ _ => rfl)) (nomark _)) (pss_one (ps_ret (pe_and (pe_call (ok__law_equal T) (hr.mono (by decide)) (by rfl) T.g__law_equal T.k__law_equal T.b__law_equal .nil pass0 (pa_cons (pv 4) (pa_cons (pe_lst (pa_cons pe_str (pa_cons (pe_ix ix_tup (pv 1) pe_int (fun _ _ => rfl)) pa_nil))) pa_nil))) (pe_one (pe_cmpR (op_eqD hr.units) (pe_slice sl_listM (pv 7) po_none (po_some pe_int)) (pe_slice sl_listM (pv 2) po_none (po_some pe_int)) (nomark _)))))) pss_nil)
    (Evl.pss_cut (ps_if (PW.pt (pw_or (pt_not (pt_val (pe_call (ok__law_equal T) (hr.mono (by decide)) (by rfl) T.g__law_equal T.k__law_equal T.b__law_equal .nil pass0 (pa_cons (pv 4) (pa_cons (pe_lst (pa_cons pe_str (pa_cons (pv 6) pa_nil))) pa_nil))))) (pw_or1 (pt_cmpR op_ne (pe_callB call_lenM (by rfl) T.z_len PySem.boot_len (pa_cons (pe_ix ix_lstM (pv 7) pe_int (fun _ _ => rfl)) pa_nil)) (pe_op op_add (pe_callB call_lenM (by rfl) T.z_len PySem.boot_len (pa_cons (pe_ix ix_lstM (pv 2) pe_int (fun _ _ => rfl)) pa_nil)) pe_int) (nomark _))))) (pss_one (ps_ret pe_bl)) pss_nil)
    (pss_one (ps_ret (pe_and (pe_cmpR (op_eqD hr.units) (pe_slice sl_listM (pe_ix ix_lstM (pv 7) pe_int (fun _ _ => rfl)) po_none (po_some (pe_callB call_lenM (by rfl) T.z_len PySem.boot_len (pa_cons (pe_ix ix_lstM (pv 2) pe_int (fun _ _ => rfl)) pa_nil)))) (pe_ix ix_lstM (pv 2) pe_int (fun _ _ => rfl)) (nomark _)) (pe_one (pe_cmpR op_eq (pe_callB call_lenM (by rfl) T.z_len PySem.boot_len (pa_cons (pe_ix ix_lstM (pv 7) pe_int (fun _ _ => rfl)) pa_nil)) (pe_op op_add (pe_op op_add (pe_callB call_lenM (by rfl) T.z_len PySem.boot_len (pa_cons (pe_ix ix_lstM (pv 2) pe_int (fun _ _ => rfl)) pa_nil)) pe_int) (pv 6)) (nomark _)))))))))))))), ?_⟩
    obtain ⟨sp, tl, bf, tt, rm, en, al, mom, G, n, S, r, ws, ns, rs, a, c, x, tks, rfl, R, hn, hrm, gtl, bs, gtt, ea, ec, wl, nl, hc, k⟩ := h
    have ag := R.1
    obtain ⟨w, nn, rr, q, b0, b1, b2, b3, b4⟩ := bs.ex
    have sz : (300000 : Nat) ≤ sizeLine := by decide
    have o1 := ag.o.sz
    have o2 := nums_len (row := r.row)
    have o3 := flat_rows r.row
    have c0 : ∀ z y : Int, 0 < y → y < 1000 → CDiv z y := fun z y h1 h2 => ⟨by omega, by omega⟩
    have szb := sizeG_in x
    simp! only [rIsL]
    refine ⟨c0 _ _ (by decide) (by decide), by decide, ?_⟩
    refine ⟨fun σ2 H2 => σ2 = [some (V.ref sp), some (V.ref tl), some (V.ref bf), some (V.int x), some (V.ref tt), some (V.int (x / 640)), some (V.int (sizeG x)), none] ∧ H2 = H, ?_, ?_⟩
    · simp! only [rIsL]
      unfold sizeG
      exact ⟨c0 _ _ (by decide) (by decide), by decide, ite2 (fun c => ⟨c0 _ _ (by decide) (by decide), by decide, by rw [if_pos c]⟩) (fun c => by rw [if_neg c])⟩
    rintro σ2 H2 ⟨rfl, rfl⟩
    simp! only [rIsL]
    refine ⟨sp, rm, en, al, mom, G, n, S, r, rfl, R, hn, fun H3 D st ns3 sm3 fr3 st3 srt => ?_⟩
    have D3 : Same D H3 := fun b o e => (fr3 b o e).2
    obtain ⟨x1, x2, x3, x4, a0, a1, a2, a3, a4⟩ := (st3.same D3).ex
    have R3 := R.same sm3
    have B0 := R3.get b0
    have B1 := R3.get b1
    have B2 := R3.get b2
    have B3 := R3.get b3
    have B4 := R3.get b4
    have gt3 := R3.get gtt
    have gl3 := R3.get gtl
    clear D3 R3
    have pl := srt.1.length_eq
    refine ⟨fun σ4 H4 => σ4 = [some (V.ref sp), some (V.ref tl), some (V.ref bf), some (V.int x), some (V.ref tt), some (V.int (x / 640)), some (V.int (sizeG x)), some (V.ref st)] ∧ Same H3 H4, ?_, ?_⟩
    · simp! only [a0, a4, B0, B4, rNeD, List.map_cons, List.map_nil]
      refine ⟨by omega, fun p hp => ⟨dI _, dp_ints (same_new hp _ _ a4), dI [a + 1, c], dp_ints upd_same, dI_shaped _, dI_shaped _, ?_⟩⟩
      rw [dI_eqv, decide_eq_true (by rw [ea, ec]), if_neg (by decide)]
      exact same_new hp
    rintro σ4 H4 ⟨rfl, sm4⟩
    refine ⟨fun σ5 H5 => σ5 = [some (V.ref sp), some (V.ref tl), some (V.ref bf), some (V.int x), some (V.ref tt), some (V.int (x / 640)), some (V.int (sizeG x)), some (V.ref st)] ∧ Same H4 H5 ∧ ¬ rm < (ws.length : Int) + 3 + sizeG x, ?_, ?_⟩
    · have B0 := sm4 _ _ B0
      have B1 := sm4 _ _ B1
      have a0 := sm4 _ _ a0
      simp! only [a0, B0, B1, rEqD, List.map_cons, List.map_nil, List.length_map]
      refine ⟨_, .inl (.inl (sm4 _ _ gl3)), _, rfl, _, rfl, ite2 (fun cr => ?_) (fun cr => ⟨fun _ _ e => e, cr⟩)⟩
      obtain ⟨et, ef, es⟩ : tks = [.str "room", .int (3 + sizeG x)] ∧ flat r.row = ws ∧ Srt r.row ns := by
        rcases hc with ⟨_, h⟩ | ⟨h, _⟩ | ⟨h, _⟩
        · exact h
        · exact absurd cr h
        · exact absurd cr h
      refine ⟨by omega, fun p hp => ?_⟩
      have s5 := same_new (o := HO.lst [V.str "room", V.int (3 + sizeG x)]) hp
      have g5 : upd H4 p (HO.lst [V.str "room", V.int (3 + sizeG x)]) p = some (.lst [V.str "room", V.int (3 + sizeG x)]) := upd_same
      have gt5 := s5 _ _ (sm4 _ _ gt3)
      rw [et] at gt5
      have a1 := sm4 _ _ a1
      have a2 := sm4 _ _ a2
      have B2 := sm4 _ _ B2
      generalize upd H4 p (HO.lst [V.str "room", V.int (3 + sizeG x)]) = H8 at s5 g5 gt5 ⊢
      refine leq_same gt5 g5 (by show 2 ≤ 1000; decide) Tk.si.2 ⟨true, rfl, ?_⟩
      rw [if_pos rfl]
      have A0 := s5 _ _ a0
      have A1 := s5 _ _ a1
      have A2 := s5 _ _ a2
      have C0 := s5 _ _ B0
      have C1 := s5 _ _ B1
      have C2 := s5 _ _ B2
      rw [A0]
      intro l hl
      have s6 := same_new (o := HO.lst (cutV (([x1, x2, x3, x4] : List Addr).map V.ref) none (some 2))) hl
      rw [cut2] at s6 ⊢
      have gl_ : upd H8 l (HO.lst (([x1, x2] : List Addr).map V.ref)) l = some (.lst (([x1, x2] : List Addr).map V.ref)) := upd_same
      have A1 := s6 _ _ A1
      have A2 := s6 _ _ A2
      have C0 := s6 _ _ C0
      have C1 := s6 _ _ C1
      have C2 := s6 _ _ C2
      generalize upd H8 l (HO.lst (([x1, x2] : List Addr).map V.ref)) = H9 at s6 gl_ A1 A2 C0 C1 C2 ⊢
      rw [C0]
      intro l2 hl2
      have s7 := same_new (o := HO.lst (cutV (([w, nn, rr, q] : List Addr).map V.ref) none (some 2))) hl2
      have gl2 : upd H9 l2 (HO.lst (cutV (([w, nn, rr, q] : List Addr).map V.ref) none (some 2))) l2 = some (.lst (cutV (([w, nn, rr, q] : List Addr).map V.ref) none (some 2))) := upd_same
      rw [cut2] at s7 gl2 ⊢
      have gl_ := s7 _ _ gl_
      have A1 := s7 _ _ A1
      have A2 := s7 _ _ A2
      have C1 := s7 _ _ C1
      have C2 := s7 _ _ C2
      generalize upd H9 l2 (HO.lst (([w, nn] : List Addr).map V.ref)) = H10 at s7 gl_ gl2 A1 A2 C1 C2 ⊢
      refine ⟨dL [flat r.row, ns3], dp_lists gl_ rfl fun i b xs e1 e2 => ?_, dL [ws, ns], dp_lists gl2 rfl fun i b xs e1 e2 => ?_, dL_shaped _, dL_shaped _, ?_⟩
      · match i, e1, e2 with
        | 0, e1, e2 => cases e1; cases e2; exact A1
        | 1, e1, e2 => cases e1; cases e2; exact A2
      · match i, e1, e2 with
        | 0, e1, e2 => cases e1; cases e2; exact C1
        | 1, e1, e2 => cases e1; cases e2; exact C2
      · rw [dL_eqv, decide_eq_true (by rw [ef, srt.uniq es])]
        exact k _ (same_trans sm3 (same_trans sm4 (same_trans s5 (same_trans s6 s7))))
    rintro σ5 H5 ⟨rfl, sm5, nr⟩
    refine ⟨fun σ6 H6 => σ6 = [some (V.ref sp), some (V.ref tl), some (V.ref bf), some (V.int x), some (V.ref tt), some (V.int (x / 640)), some (V.int (sizeG x)), some (V.ref st)] ∧ Same H5 H6 ∧ ¬ en ≤ (ns.length : Int), ?_, ?_⟩
    · have B0 := sm5 _ _ (sm4 _ _ B0)
      have B2 := sm5 _ _ (sm4 _ _ B2)
      have a0 := sm5 _ _ (sm4 _ _ a0)
      simp! only [a0, B0, B2, rEqD, List.map_cons, List.map_nil, List.length_map]
      have gl5 := sm5 _ _ (sm4 _ _ gl3)
      refine ⟨_, .inl (.inl gl5), _, rfl, _, rfl, ite2 (fun cr => ?_) (fun cr => ⟨fun _ _ e => e, cr⟩)⟩
      obtain ⟨et, ef, es⟩ : tks = [.str "number", .int en] ∧ flat r.row = ws ∧ Srt r.row ns := by
        rcases hc with ⟨h, _⟩ | ⟨_, _, h⟩ | ⟨_, h, _⟩
        · exact absurd h nr
        · exact h
        · exact absurd cr h
      refine ⟨_, .inl (.inl gl5), _, rfl, by omega, fun p hp => ?_⟩
      have s5 := same_new (o := HO.lst [V.str "number", V.int en]) hp
      have g5 : upd H5 p (HO.lst [V.str "number", V.int en]) p = some (.lst [V.str "number", V.int en]) := upd_same
      have gt5 := s5 _ _ (sm5 _ _ (sm4 _ _ gt3))
      rw [et] at gt5
      have a1 := sm5 _ _ (sm4 _ _ a1)
      have a2 := sm5 _ _ (sm4 _ _ a2)
      have B1 := sm5 _ _ (sm4 _ _ B1)
      generalize upd H5 p (HO.lst [V.str "number", V.int en]) = H8 at s5 g5 gt5 ⊢
      refine leq_same gt5 g5 (by show 2 ≤ 1000; decide) Tk.si.2 ⟨true, rfl, ?_⟩
      rw [if_pos rfl]
      have A0 := s5 _ _ a0
      have A1 := s5 _ _ a1
      have A2 := s5 _ _ a2
      have C0 := s5 _ _ B0
      have C1 := s5 _ _ B1
      have C2 := s5 _ _ B2
      rw [A0]
      intro l hl
      have s6 := same_new (o := HO.lst (cutV (([x1, x2, x3, x4] : List Addr).map V.ref) none (some 2))) hl
      rw [cut2] at s6 ⊢
      have gl_ : upd H8 l (HO.lst (([x1, x2] : List Addr).map V.ref)) l = some (.lst (([x1, x2] : List Addr).map V.ref)) := upd_same
      have A1 := s6 _ _ A1
      have A2 := s6 _ _ A2
      have C0 := s6 _ _ C0
      have C1 := s6 _ _ C1
      have C2 := s6 _ _ C2
      generalize upd H8 l (HO.lst (([x1, x2] : List Addr).map V.ref)) = H9 at s6 gl_ A1 A2 C0 C1 C2 ⊢
      rw [C0]
      intro l2 hl2
      have s7 := same_new (o := HO.lst (cutV (([w, nn, rr, q] : List Addr).map V.ref) none (some 2))) hl2
      have gl2 : upd H9 l2 (HO.lst (cutV (([w, nn, rr, q] : List Addr).map V.ref) none (some 2))) l2 = some (.lst (cutV (([w, nn, rr, q] : List Addr).map V.ref) none (some 2))) := upd_same
      rw [cut2] at s7 gl2 ⊢
      have gl_ := s7 _ _ gl_
      have A1 := s7 _ _ A1
      have A2 := s7 _ _ A2
      have C1 := s7 _ _ C1
      have C2 := s7 _ _ C2
      generalize upd H9 l2 (HO.lst (([w, nn] : List Addr).map V.ref)) = H10 at s7 gl_ gl2 A1 A2 C1 C2 ⊢
      refine ⟨dL [flat r.row, ns3], dp_lists gl_ rfl fun i b xs e1 e2 => ?_, dL [ws, ns], dp_lists gl2 rfl fun i b xs e1 e2 => ?_, dL_shaped _, dL_shaped _, ?_⟩
      · match i, e1, e2 with
        | 0, e1, e2 => cases e1; cases e2; exact A1
        | 1, e1, e2 => cases e1; cases e2; exact A2
      · match i, e1, e2 with
        | 0, e1, e2 => cases e1; cases e2; exact C1
        | 1, e1, e2 => cases e1; cases e2; exact C2
      · rw [dL_eqv, decide_eq_true (by rw [ef, srt.uniq es])]
        exact k _ (same_trans sm3 (same_trans (same_trans sm4 sm5) (same_trans s5 (same_trans s6 s7))))
    rintro σ6 H6 ⟨rfl, sm6, nn2⟩
    have B0 := sm6 _ _ (sm5 _ _ (sm4 _ _ B0))
    have B1 := sm6 _ _ (sm5 _ _ (sm4 _ _ B1))
    have B2 := sm6 _ _ (sm5 _ _ (sm4 _ _ B2))
    have a0 := sm6 _ _ (sm5 _ _ (sm4 _ _ a0))
    have a1 := sm6 _ _ (sm5 _ _ (sm4 _ _ a1))
    have a2 := sm6 _ _ (sm5 _ _ (sm4 _ _ a2))
    refine ⟨fun σ7 H7 => σ7 = [some (V.ref sp), some (V.ref tl), some (V.ref bf), some (V.int x), some (V.ref tt), some (V.int (x / 640)), some (V.int (sizeG x)), some (V.ref st)] ∧ Same H6 H7, ?_, ?_⟩
    · simp! only [a0, B0, B2, a2, rEqD, List.map_cons, List.map_nil, List.length_map]
      obtain ⟨et, el, _⟩ : tks = [.str "made", .int (sizeG x)] ∧ (nums r.row).length = ns.length + 1 ∧ True := by
        rcases hc with ⟨h, _⟩ | ⟨_, h, _⟩ | ⟨_, _, h1, h2, _⟩
        · exact absurd h nr
        · exact absurd h nn2
        · exact ⟨h1, h2, trivial⟩
      refine ⟨by omega, fun p hp => ?_⟩
      have s5 := same_new (o := HO.lst [V.str "made", V.int (sizeG x)]) hp
      have g5 : upd H6 p (HO.lst [V.str "made", V.int (sizeG x)]) p = some (.lst [V.str "made", V.int (sizeG x)]) := upd_same
      have gt5 := s5 _ _ (sm6 _ _ (sm5 _ _ (sm4 _ _ gt3)))
      rw [et] at gt5
      generalize upd H6 p (HO.lst [V.str "made", V.int (sizeG x)]) = H8 at s5 g5 gt5 ⊢
      refine leq_same gt5 g5 (by show 2 ≤ 1000; decide) Tk.si.2 ⟨true, rfl, ?_⟩
      rw [if_neg (by decide), s5 _ _ a0]
      refine ⟨_, atI_1, _, rfl, ?_⟩
      rw [s5 _ _ a2, s5 _ _ B0]
      refine ⟨_, atI_1, _, rfl, ?_⟩
      rw [s5 _ _ B2]
      dsimp only
      rw [if_neg (fun h => h (by rw [List.length_map, List.length_map]; omega))]
      exact s5
    rintro σ7 H7 ⟨rfl, sm7⟩
    have B0 := sm7 _ _ B0
    have B1 := sm7 _ _ B1
    have a0 := sm7 _ _ a0
    have a1 := sm7 _ _ a1
    simp! only [a0, B0, B1, a1, rEqD, List.map_cons, List.map_nil, List.length_map]
    obtain ⟨tw, tl_⟩ : (flat r.row).take ws.length = ws ∧ ((flat r.row).length : Int) = (ws.length : Int) + 3 + sizeG x := by
      rcases hc with ⟨h, _⟩ | ⟨_, h, _⟩ | ⟨_, _, _, _, h1, h2⟩
      · exact absurd h nr
      · exact absurd h nn2
      · exact ⟨h1, h2⟩
    intro l hl
    have cut : cutV ((flat r.row).map V.int) none (some (ws.length : Int)) = ws.map V.int := by rw [cutV_to, ← List.map_take, tw]
    rw [cut]
    have s8 := same_new (o := HO.lst (ws.map V.int)) hl
    have gl_ : upd H7 l (HO.lst (ws.map V.int)) l = some (.lst (ws.map V.int)) := upd_same
    generalize upd H7 l (HO.lst (ws.map V.int)) = H8 at s8 gl_ ⊢
    rw [s8 _ _ B0]
    refine ⟨_, atI_0, dI ws, dp_ints gl_, dI ws, dp_ints (s8 _ _ B1), dI_shaped _, dI_shaped _, ?_⟩
    rw [dI_eqv, decide_eq_true rfl, if_pos rfl, s8 _ _ a0]
    refine ⟨_, atI_0, _, rfl, ?_⟩
    rw [s8 _ _ a1]
    dsimp only
    refine ⟨_, atI_0, _, rfl, ?_⟩
    rw [s8 _ _ B1]
    dsimp only
    rw [decide_eq_true (by rw [List.length_map, List.length_map]; exact tl_)]
    exact k _ (same_trans sm3 (same_trans sm4 (same_trans sm5 (same_trans sm6 (same_trans sm7 s8)))))
end

theorem newpart {G Gk : Hp} (s : Same G Gk) : ∃ D, My.uni D G = Gk ∧ (∀ b o, D b = some o → G b = none) ∧ ∀ b o, Gk b = some o → G b = none → D b = some o := by
  classical
  let D : Hp := fun b => if G b = none then Gk b else none
  have dn : ∀ b, G b = none → D b = Gk b := fun b h => if_pos h
  have ds : ∀ b, G b ≠ none → D b = none := fun b h => if_neg h
  refine ⟨D, funext fun b => ?_, fun b o e => ?_, fun b o e n => ?_⟩
  · by_cases c : G b = none
    · unfold My.uni
      rw [dn b c, c]
      cases Gk b <;> rfl
    · rw [uni_right (ds b c)]
      cases q : G b with
      | none => exact absurd q c
      | some u => exact (s b u q).symm
  · by_cases c : G b = none
    · exact c
    · rw [ds b c] at e
      cases e
  · rw [dn b n]
    exact e
theorem SavedOk.iffN {D sv S r} (h : S.wk = none) : SavedOk D sv S r ↔ D sv = some (.lst []) := by
  unfold SavedOk
  rw [h]
theorem SavedOk.iffS {D sv S r} {u c : Int} {g0 : PG} (h : S.wk = some (u, c, g0)) : SavedOk D sv S r ↔ ∃ st ns a c, D sv = some (.lst [.ref st]) ∧ StL D st (flat r.row0) ns (0 :: (g0.roots.map (rl r.ns0) ++ g0.held.map (rl r.ns0))) a c ∧ Srt r.row0 ns := by
  unfold SavedOk
  rw [h]
theorem SavedOk.list {D sv S r} (h : SavedOk D sv S r) : ∃ xs, D sv = some (.lst xs) ∧ ((!xs.isEmpty) = true ↔ S.wk ≠ none) := by
  cases hw : S.wk with
  | none => exact ⟨_, (SavedOk.iffN hw).mp h, by simp⟩
  | some wk =>
    obtain ⟨u, c, g0⟩ := wk
    obtain ⟨st, ns, a, c, h1, _⟩ := (SavedOk.iffS hw).mp h
    exact ⟨_, h1, by simp⟩
theorem SavedOk.same {D D' sv S r} (h : SavedOk D sv S r) (s : Same D D') : SavedOk D' sv S r := by
  cases hw : S.wk with
  | none => exact (SavedOk.iffN hw).mpr (s _ _ ((SavedOk.iffN hw).mp h))
  | some wk =>
    obtain ⟨u, c, g0⟩ := wk
    obtain ⟨st, ns, a, c, h1, h2, h3⟩ := (SavedOk.iffS hw).mp h
    exact (SavedOk.iffS hw).mpr ⟨st, ns, a, c, s _ _ h1, h2.same s, h3⟩
theorem SavedOk.step {D sv S S' r r'} (h : SavedOk D sv S r) (h1 : S.wk = none → S'.wk = none) (h2 : ∀ u c g0, S.wk = some (u, c, g0) → (∃ u' c', S'.wk = some (u', c', g0)) ∧ r'.row0 = r.row0 ∧ r'.ns0 = r.ns0) : SavedOk D sv S' r' := by
  cases hw : S.wk with
  | none => exact (SavedOk.iffN (h1 hw)).mpr ((SavedOk.iffN hw).mp h)
  | some wk =>
    obtain ⟨u, c, g0⟩ := wk
    obtain ⟨⟨u', c', e⟩, e2, e3⟩ := h2 u c g0 hw
    rw [SavedOk.iffS e, e2, e3]
    exact (SavedOk.iffS hw).mp h
theorem Rep.wk {A : Ad} {H : Hp} {sp : Addr} {rm en : Int} {al : Bool} {mom : List Int} {G : Hp} {n : Nat} {S : GS} {r : RS} {u c : Int} {g0 : PG} (R : Rep A H sp rm en al mom G n S r) (h : S.wk = some (u, c, g0)) : ((flat r.row).length : Int) = u ∧ ((nums r.row).length : Int) = c := by
  obtain ⟨_, R2⟩ := R
  rw [h] at R2
  exact ⟨R2.1, R2.2.1⟩

def sp_lfirst9 (A : Ad) : Sp := fun vs H Q _ => ∃ (sp tl sv : Addr) (rm en : Int) (al : Bool) (mom : List Int) (G : Hp) (n : Nat) (S : GS) (r : RS) (x : Int), vs = [.ref sp, .ref tl, .ref sv, .int x] ∧ Rep A H sp rm en al mom G n S r ∧ n < 900 ∧ rm ≤ 4000 ∧ 0 ≤ en ∧ G tl = some (.tup [.int rm, .int en]) ∧ SavedOk G sv S r ∧
  ∀ H' D t tt sv' r', (∀ b o, D b = some o → G b = none) → Rep A H' sp rm en al mom (My.uni D G) (n + 1) (bothG rm en S x).1 r' → D t = some (.tup [.bl true, .ref sv', .ref tt]) → D tt = some (.lst (bothG rm en S x).2) → (∀ X, Same D X → SavedOk X sv S r → SavedOk X sv' (bothG rm en S x).1 r') → Q (.ref t) H'
theorem sp_lfirst9_len {A vs H Q E} (h : sp_lfirst9 A vs H Q E) : vs.length = (["space", "limits", "saved", "x"] : List Str).length := by
  obtain ⟨_, _, _, _, _, _, _, _, _, _, _, _, rfl, _⟩ := h
  rfl
section
variable {P : Program} {w : World} {K : PySem.W.Frag} {mg : Str → Option Value} {base : Heap} {A : Ad}
theorem ok__law_first (T : Txt K mg A) : FnOk P w K mg base CX0 10 A.f__law_first A.d__law_first ["space", "limits", "saved", "x"] (sp_lfirst9 A) := by
  refine Fun.ok T.F__law_first sc__law_first (fun vs H Q E h => ?_) (fun cdv Ar outer s H vs Q E hr h => ?_)
  · exact sp_lfirst9_len h
  · have hu := hu_of hr
    refine ⟨_, (pss_cons (ps_asg (pe_op op_mod (pe_callTy call_intI (by rfl) T.z_int (by decide +kernel) (pa_cons (pv 3) pa_nil)) pe_int) (pg_name (i := 4) sc__law_first.nd rfl (Or.inl rfl)))
    (pss_cons (ps_asg (pe_call (ok__law_state T) (hr.mono (by decide)) (by rfl) T.g__law_state T.k__law_state T.b__law_state .nil pass0 (pa_cons (pv 0) pa_nil)) (pg_name (i := 5) sc__law_first.nd rfl (Or.inl rfl)))
    (pss_cons (ps_asg (pe_call (ok__law_both T) (hr.mono (by decide)) (by rfl) T.g__law_both T.k__law_both T.b__law_both .nil pass0 (pa_cons (pv 0) (pa_cons (pv 3) pa_nil))) (pg_name (i := 6) sc__law_first.nd rfl (Or.inl rfl)))
    (Evl.pss_cut (ps_if (PW.pt (pw_and (pt_cmpR op_lt (pv 4) pe_int (nomark _)) (pw_and1 (PW.pt (pw_or (pt_truth (pv 2) (by intro _; rfl)) (pw_or1 (pt_cmpR op_gt (pv 4) pe_int (nomark _)))))))) (pss_cons (ps_if (pt_cmpR op_lt (pv 4) pe_int (nomark _)) (pss_one (ps_ret (pe_tup (pa_cons (pe_call (ok__law_grown T) (hr.mono (by decide)) (by rfl) T.g__law_grown T.k__law_grown T.b__law_grown .nil pass0 (pa_cons (pv 0) (pa_cons (pv 1) (pa_cons (pv 5) (pa_cons (pv 3) (pa_cons (pv 6) pa_nil)))))) (pa_cons (pv 2) (pa_cons (pv 6) pa_nil)))))) pss_nil)
    (pss_one (ps_ret (pe_tup (pa_cons (pe_and (pe_cmpR op_eq (pe_fld (pv 0) rfl) (pe_ix ix_lstM (pe_ix ix_lstM (pv 5) pe_int (fun _ _ => rfl)) pe_int (fun _ _ => rfl)) (nomark _)) (pe_one (pe_cmpR op_eq (pe_fld (pv 0) rfl) (pe_ix ix_lstM (pe_ix ix_lstM (pv 5) pe_int (fun _ _ => rfl)) pe_int (fun _ _ => rfl)) (nomark _)))) (pa_cons (pv 2) (pa_cons (pv 6) pa_nil))))))) pss_nil)
    (Evl.pss_cut (ps_if (pt_cmpR op_lt (pv 4) pe_int (nomark _)) (pss_one (ps_ret (pe_tup (pa_cons pe_bl (pa_cons (pv 2) (pa_cons (pv 6) pa_nil)))))) pss_nil)
    (Evl.pss_cut (ps_if (PW.pt (pw_and (pt_truth (pv 2) (by intro _; rfl)) (pw_and1 (pt_cmpR op_lt (pv 4) pe_int (nomark _))))) (pss_one (ps_ret (pe_tup (pa_cons (pe_and (pe_call (ok__law_equal T) (hr.mono (by decide)) (by rfl) T.g__law_equal T.k__law_equal T.b__law_equal .nil pass0 (pa_cons (pv 6) (pa_cons (pe_lst (pa_cons pe_str (pa_cons pe_str pa_nil))) pa_nil))) (pe_one (pe_cmpR (op_eqD hr.units) (pe_call (ok__law_state T) (hr.mono (by decide)) (by rfl) T.g__law_state T.k__law_state T.b__law_state .nil pass0 (pa_cons (pv 0) pa_nil)) (pv 5) (nomark _)))) (pa_cons (pv 2) (pa_cons (pv 6) pa_nil)))))) pss_nil)
    (Evl.pss_cut (ps_if (PW.pt (pw_and (pt_not (pt_truth (pv 2) (by intro _; rfl))) (pw_and1 (pt_cmpR op_gt (pv 4) pe_int (nomark _))))) (pss_one (ps_ret (pe_tup (pa_cons (pe_and (pe_call (ok__law_equal T) (hr.mono (by decide)) (by rfl) T.g__law_equal T.k__law_equal T.b__law_equal .nil pass0 (pa_cons (pv 6) (pa_cons (pe_lst (pa_cons pe_str (pa_cons pe_str pa_nil))) pa_nil))) (pe_one (pe_cmpR (op_eqD hr.units) (pe_call (ok__law_state T) (hr.mono (by decide)) (by rfl) T.g__law_state T.k__law_state T.b__law_state .nil pass0 (pa_cons (pv 0) pa_nil)) (pv 5) (nomark _)))) (pa_cons (pv 2) (pa_cons (pv 6) pa_nil)))))) pss_nil)
    (pss_cons (ps_if (pt_cmpR op_eq (pv 4) pe_int (nomark _)) (pss_one (ps_ret (pe_tup (pa_cons (pe_and (pe_cmpR op_eq (pe_ix ix_lstM (pv 6) pe_int (fun _ _ => rfl)) pe_str (nomark _)) (pe_one (pe_cmpR op_eq (pe_callB call_lenM (by rfl) T.z_len PySem.boot_len (pa_cons (pe_fld (pe_fld (pv 0) rfl) rfl) pa_nil)) (pe_meth0 (pv 0) T.cl_Space T.me_Space_live_words (ok_Space_live_words T) (hr.mono (by decide)) T.b_Space_live_words .nil pass0) (nomark _)))) (pa_cons (pv 2) (pa_cons (pv 6) pa_nil)))))) pss_nil)
    (pss_cons (ps_if (pt_cmpR op_lt (pv 4) pe_int (nomark _)) (pss_one (ps_ret (pe_tup (pa_cons (pe_call (ok__law_begun T) (hr.mono (by decide)) (by rfl) T.g__law_begun T.k__law_begun T.b__law_begun .nil pass0 (pa_cons (pv 0) (pa_cons (pv 5) (pa_cons (pv 6) pa_nil)))) (pa_cons (pe_lst (pa_cons (pe_call (ok__law_state T) (hr.mono (by decide)) (by rfl) T.g__law_state T.k__law_state T.b__law_state .nil pass0 (pa_cons (pv 0) pa_nil)) pa_nil)) (pa_cons (pv 6) pa_nil)))))) pss_nil)
    (pss_cons (ps_if (pt_cmpR op_eq (pv 4) pe_int (nomark _)) (pss_one (ps_ret (pe_tup (pa_cons (pe_and (pe_call (ok__law_equal T) (hr.mono (by decide)) (by rfl) T.g__law_equal T.k__law_equal T.b__law_equal .nil pass0 (pa_cons (pv 6) (pa_cons (pe_lst (pa_cons pe_str (pa_cons pe_int pa_nil))) pa_nil))) (pe_one (pe_cmpR (op_eqD hr.units) (pe_call (ok__law_state T) (hr.mono (by decide)) (by rfl) T.g__law_state T.k__law_state T.b__law_state .nil pass0 (pa_cons (pv 0) pa_nil)) (pv 5) (nomark _)))) (pa_cons (pe_lst pa_nil) (pa_cons (pv 6) pa_nil)))))) pss_nil)
    (pss_cons (ps_asg (pe_lst (pa_cons (pe_ix ix_lstM (pe_ix ix_lstM (pv 2) pe_int (fun _ _ => rfl)) pe_int (fun _ _ => rfl)) (pa_cons (pe_ix ix_lstM (pe_ix ix_lstM (pv 2) pe_int (fun _ _ => rfl)) pe_int (fun _ _ => rfl)) (pa_cons (pe_ix ix_lstM (pe_ix ix_lstM (pv 2) pe_int (fun _ _ => rfl)) pe_int (fun _ _ => rfl)) (pa_cons (pe_ix ix_lstM (pv 5) pe_int (fun _ _ => rfl)) pa_nil))))) (pg_name (i := 7) sc__law_first.nd rfl (Or.inl rfl)))
    (pss_one (ps_ret (pe_tup (pa_cons (pe_and (pe_call (ok__law_equal T) (hr.mono (by decide)) (by rfl) T.g__law_equal T.k__law_equal T.b__law_equal .nil pass0 (pa_cons (pv 6) (pa_cons (pe_lst (pa_cons pe_str (pa_cons (pv 4) pa_nil))) pa_nil))) (pe_one (pe_cmpR (op_eqD hr.units) (pe_call (ok__law_state T) (hr.mono (by decide)) (by rfl) T.g__law_state T.k__law_state T.b__law_state .nil pass0 (pa_cons (pv 0) pa_nil)) (pv 7) (nomark _)))) (pa_cons (pe_lst pa_nil) (pa_cons (pv 6) pa_nil))))))))))))))))), ?_⟩
    obtain ⟨sp, tl, sv, rm, en, al, mom, G, n, S, r, x, rfl, R, hn, hrm, he, gtl, so, k⟩ := h
    have ag := R.1
    have sz : (300000 : Nat) ≤ sizeLine := by decide
    have x0 := Int.emod_nonneg x (show (20 : Int) ≠ 0 by decide)
    have x1 := Int.emod_lt_of_pos x (show (0 : Int) < 20 by decide)
    simp! only [rIsL]
    refine ⟨by decide, sp, rm, en, al, mom, G, n, S, r, rfl, R, by omega, fun H1 D1 bf ns1 sm1 fr1 st1 srt1 => ?_⟩
    have R1 := R.grow sm1
    have sG1 : Same G (My.grow G H H1) := R.grow_old
    have st1 := st1.same (fr1.grow (G := G))
    generalize My.grow G H H1 = G1 at R1 sG1 st1
    refine ⟨sp, rm, en, al, mom, G1, n, S, r, x, rfl, R1, hn, hrm, he, fun H2 tt r' gt1 R2 ef => ?_⟩
    have ntt : G tt = none := none_of sG1 gt1
    have st2 := st1.same (same_new (o := HO.lst (bothG rm en S x).2) gt1)
    have gtt : upd G1 tt (HO.lst (bothG rm en S x).2) tt = some (HO.lst (bothG rm en S x).2) := upd_same
    have sG2 : Same G (upd G1 tt (HO.lst (bothG rm en S x).2)) := same_trans sG1 (same_new gt1)
    generalize upd G1 tt (HO.lst (bothG rm en S x).2) = G2 at R2 st2 gtt sG2
    clear st1 fr1 R1 sG1 gt1
    have fin : ∀ H3 G3 sv', Rep A H3 sp rm en al mom G3 (n + 1) (bothG rm en S x).1 r' → Same G2 G3 → (∀ X, (∀ b o, G3 b = some o → G b = none → X b = some o) → SavedOk X sv S r → SavedOk X sv' (bothG rm en S x).1 r') → ∀ t, H3 t = none → Q (.ref t) (upd H3 t (.tup [.bl true, .ref sv', .ref tt])) := fun H3 G3 sv' R3 s3 hsv t ht => by
      have R4 := R3.new (o := HO.tup [.bl true, .ref sv', .ref tt]) ht
      have g3n := R3.out ht
      have s4 : Same G (upd G3 t (HO.tup [.bl true, .ref sv', .ref tt])) := same_trans sG2 (same_trans s3 (same_new g3n))
      obtain ⟨D, e1, e2, e3⟩ := newpart s4
      rw [← e1] at R4
      refine k _ D t tt sv' r' e2 R4 (e3 _ _ upd_same (none_of (same_trans sG2 s3) g3n)) (e3 _ _ (same_new g3n _ _ (s3 _ _ gtt)) ntt) fun X sX hs => hsv X (fun b o q1 q2 => sX _ _ (e3 _ _ (same_new g3n _ _ q1) q2)) hs
    obtain ⟨xs, gsv, hx⟩ := (so.same sG2).list
    have gsv := R2.get gsv
    have tv : TruV K (V.ref sv) H2 (!xs.isEmpty) := .inl ⟨_, .inl (.inl gsv), rfl⟩
    have gt2 := R2.get gtt
    have gl2 := R2.get (sG2 _ _ gtl)
    obtain ⟨w, nn, rr, q, b0, b1, b2, b3, b4⟩ := st2.ex
    have B0 := R2.get b0
    have B4 := R2.get b4
    have ag2 := R2.1
    obtain ⟨w1, W1, Z1, d1⟩ := R2.sq
    obtain ⟨dx, s, pr, rt, hl, mo, F1, Z⟩ := id Z1
    have ho := Z.ho
    obtain ⟨dx7, w7, dd7, f7, ws7, kvs7, fr7, fs7, I7, R7⟩ := id Z.st
    have hs := I7.ho
    have hw7 := I7.hw
    rw [R7.ws] at hw7
    have rh : ((bothG rm en S x).1.g.roots.map (rl r'.ns)).length + ((bothG rm en S x).1.g.held.map (rl r'.ns)).length ≤ 10000 := by
      rw [List.length_map, List.length_map]
      have := ag2.r
      have := ag2.h
      omega
    have osz := ag.o.sz
    have on1 := nums_len (row := r.row)
    have on2 := flat_rows r.row
    have pl := srt1.1.length_eq
    have stay : ¬ (14 < x % 20 ∧ x % 20 < 17 ∧ S.wk = none) → ¬ (16 < x % 20 ∧ S.wk ≠ none) → ∀ X, (∀ b o, G2 b = some o → G b = none → X b = some o) → SavedOk X sv S r → SavedOk X sv (bothG rm en S x).1 r' := fun c1 c2 X _ hs => hs.step (fun h => both_none h fun z => c1 ⟨z.1, z.2, h⟩) fun u c g0 h => by
      have hn2 : S.wk ≠ none := by rw [h]; simp
      obtain ⟨u', c', e⟩ := both_some (rm := rm) (en := en) (x := x) h fun z => c2 ⟨z, hn2⟩
      refine ⟨⟨u', c', e⟩, ?_⟩
      by_cases c14 : x % 20 = 14
      · rw [(ef.coll c14).2 hn2]
        exact ⟨rfl, rfl⟩
      · exact (ef.done c14).on hn2 (by rw [e]; simp)
    have cmpst : r'.row = r.row → (bothG rm en S x).1.g = S.g → r'.ns = r.ns → r'.na = r.na → r'.nc = r.nc → ∀ H3, Same H2 H3 → ∀ Kc : VK, (∀ H4, Same H3 H4 → Kc (.bl true) H4) → sp_lstate9 A [.ref sp] H3 (fun x H1 => rEqD K x (V.ref bf) H1 Kc) E0 := fun e1 e2 e3 e4 e5 H3 s3 Kc hK => by
      refine ⟨sp, rm, en, al, mom, G2, n + 1, _, r', rfl, R2.same s3, by omega, fun H4 D st ns sm fr stl srt => ?_⟩
      rw [e1, e2, e3, e4, e5] at stl
      rw [e1] at srt
      have e6 := srt.uniq srt1
      subst e6
      have R4 := R2.same (same_trans s3 sm)
      refine ⟨_, _, (stl.same fun b o e => (fr b o e).2).dp, (st2.same fun b o e => R4.get e).dp, dL_shaped _, dL_shaped _, ?_⟩
      rw [dL_eqv, decide_eq_true rfl]
      exact hK H4 sm
    have mid : 4 ≤ x % 20 → x % 20 < 14 → r'.na = r.na ∧ r'.nc = r.nc := fun a b => (ef.done (by omega)).mid a b
    refine ⟨fun σ4 H4 => σ4 = [some (V.ref sp), some (V.ref tl), some (V.ref sv), some (V.int x), some (V.int (x % 20)), some (V.ref bf), some (V.ref tt), none] ∧ H4 = H2 ∧ ¬ (x % 20 < 14 ∧ (S.wk ≠ none ∨ 3 < x % 20)), ?_, ?_⟩
    · dsimp! only [ho, B0, B4, List.map_cons, List.map_nil]
      refine ite2 (fun a => ⟨_, tv, ite2 (fun b => ?_) (fun b => ite2 (fun c => ?_) (fun c => ?_))⟩) (fun a => ?_)
      · have hn2 : S.wk ≠ none := hx.mp b
        refine ite2 (fun c4 => ?_) (fun c4 => ?_)
        · cases hw : S.wk with
          | none => exact absurd hw hn2
          | some wk =>
            obtain ⟨u, c, g0⟩ := wk
            obtain ⟨q1, q2, q3⟩ := both_new (rm := rm) (en := en) hw c4
            obtain ⟨w1_, w2_⟩ := R.wk hw
            obtain ⟨e1, e2, e3⟩ := (ef.done (by omega)).new_ c4 hn2
            have keepr : (bothG rm en S x).1.wk = some (u, c, g0) → r'.row = r.row := fun e => by
              rcases e3 with e3 | ⟨o, e3⟩
              · exact e3
              · exfalso
                have := (R2.wk e).1
                rw [e3, flat_app, flat_one, List.length_append, flatO_len] at this
                omega
            refine ⟨sp, tl, bf, tt, rm, en, al, mom, G2, n + 1, _, r', flat r.row, ns1, _, r.na, r.nc, x, _, rfl, R2, by omega, hrm, sG2 _ _ gtl, st2, gtt, e1, e2, osz, by omega, ?_, fun H3 s3 => ⟨by omega, fin H3 G2 sv (R2.same s3) (fun _ _ e => e) (stay (by omega) (by omega))⟩⟩
            by_cases z1 : rm < u + (3 + sizeG x)
            · obtain ⟨a1, a2⟩ := q1 z1
              have e4 := keepr a2
              exact .inl ⟨by omega, a1, by rw [e4], by rw [e4]; exact srt1⟩
            · by_cases z2 : en ≤ c
              · obtain ⟨a1, a2⟩ := q2 (by omega) z2
                have e4 := keepr a2
                exact .inr (.inl ⟨by omega, by omega, a1, by rw [e4], by rw [e4]; exact srt1⟩)
              · obtain ⟨a1, a2⟩ := q3 (by omega) (by omega)
                obtain ⟨f1, f2⟩ := R2.wk a2
                refine .inr (.inr ⟨by omega, by omega, a1, by omega, ?_, by omega⟩)
                rcases e3 with e3 | ⟨o, e3⟩
                · rw [e3, List.take_length]
                · rw [e3, flat_app, List.take_left' rfl]
        · obtain ⟨m1, m2⟩ := mid (by omega) a
          rw [if_pos m2, decide_eq_true m1]
          exact ⟨by omega, fin H2 G2 sv R2 (fun _ _ e => e) (stay (by omega) (by omega))⟩
      · obtain ⟨m1, m2⟩ := mid (by omega) a
        rw [if_neg (by omega), if_pos m2, decide_eq_true m1]
        exact ⟨by omega, fin H2 G2 sv R2 (fun _ _ e => e) (stay (by omega) (by omega))⟩
      · exact fun z => z.2.elim (fun y => b (hx.mpr y)) c
      · exact fun z => a z.1
    rintro σ4 H4 ⟨rfl, rfl, n1⟩
    refine ⟨fun σ4 H5 => σ4 = [some (V.ref sp), some (V.ref tl), some (V.ref sv), some (V.int x), some (V.int (x % 20)), some (V.ref bf), some (V.ref tt), none] ∧ H5 = H4 ∧ ¬ x % 20 < 14, ?_, ?_⟩
    · simp! only [rIsL]
      refine ite2 (fun a => ⟨by omega, ?_⟩) (fun a => a)
      exact fin H4 G2 sv R2 (fun _ _ e => e) (stay (by omega) (by omega))
    rintro σ4 H5 ⟨rfl, rfl, n2⟩
    refine ⟨fun σ4 H4 => σ4 = [some (V.ref sp), some (V.ref tl), some (V.ref sv), some (V.int x), some (V.int (x % 20)), some (V.ref bf), some (V.ref tt), none] ∧ H4 = H5 ∧ ¬ (S.wk ≠ none ∧ x % 20 < 17), ?_, ?_⟩
    · simp! only [rIsL]
      refine ⟨_, tv, ite2 (fun a => ite2 (fun b => ⟨by omega, ?_⟩) (fun b => fun z => b z.2)) (fun a => fun z => a (hx.mpr z.1))⟩
      have hn2 : S.wk ≠ none := hx.mp a
      have er : r' = r := by
        by_cases c14 : x % 20 = 14
        · exact (ef.coll c14).2 hn2
        · exact (ef.done c14).wrong.1 hn2 (by omega) b
      have hs0 : bothG rm en S x = (S, [.str "wrong", .str "open"]) := both_open hn2 (by omega) b
      intro p hp
      have s5 := same_new (o := HO.lst [V.str "wrong", V.str "open"]) hp
      have g5 : upd H5 p (HO.lst [V.str "wrong", V.str "open"]) p = some (HO.lst [V.str "wrong", V.str "open"]) := upd_same
      have gt5 := s5 _ _ gt2
      rw [hs0] at gt5
      generalize upd H5 p (HO.lst [V.str "wrong", V.str "open"]) = H8 at s5 g5 gt5 ⊢
      refine leq_same gt5 g5 (by show 2 ≤ 1000; decide) Tk.ss.2 ⟨true, rfl, ?_⟩
      rw [if_pos rfl]
      exact cmpst (by rw [er]) (by rw [hs0]) (by rw [er]) (by rw [er]) (by rw [er]) H8 s5 _ fun H9 s9 => ⟨by omega, fin H9 G2 sv (R2.same (same_trans s5 s9)) (fun _ _ e => e) (stay (fun z => by first | omega | exact absurd z.2.2 hn2 | exact absurd hn2 z.2) (fun z => by first | omega | exact absurd z.2 (fun y => y hn2) | exact z.2 hn2))⟩
    rintro σ4 H4 ⟨rfl, rfl, n3⟩
    refine ⟨fun σ4 H5 => σ4 = [some (V.ref sp), some (V.ref tl), some (V.ref sv), some (V.int x), some (V.int (x % 20)), some (V.ref bf), some (V.ref tt), none] ∧ H5 = H4 ∧ ¬ (S.wk = none ∧ 16 < x % 20), ?_, ?_⟩
    · simp! only [rIsL]
      refine ⟨_, tv, ite2 (fun a => ite2 (fun b => ⟨by omega, ?_⟩) (fun b => fun z => b z.2)) (fun a => fun z => ?_)⟩
      · have hn2 : S.wk = none := by
          cases q : S.wk with
          | none => rfl
          | some wk =>
            have := hx.mpr (by rw [q]; simp)
            rw [a] at this
            cases this
        have er : r' = r := (ef.done (by omega)).wrong.2 hn2 b
        have hs0 : bothG rm en S x = (S, [.str "wrong", .str "closed"]) := both_closed hn2 b
        intro p hp
        have s5 := same_new (o := HO.lst [V.str "wrong", V.str "closed"]) hp
        have g5 : upd H4 p (HO.lst [V.str "wrong", V.str "closed"]) p = some (HO.lst [V.str "wrong", V.str "closed"]) := upd_same
        have gt5 := s5 _ _ gt2
        rw [hs0] at gt5
        generalize upd H4 p (HO.lst [V.str "wrong", V.str "closed"]) = H8 at s5 g5 gt5 ⊢
        refine leq_same gt5 g5 (by show 2 ≤ 1000; decide) Tk.ss.2 ⟨true, rfl, ?_⟩
        rw [if_pos rfl]
        exact cmpst (by rw [er]) (by rw [hs0]) (by rw [er]) (by rw [er]) (by rw [er]) H8 s5 _ fun H9 s9 => ⟨by omega, fin H9 G2 sv (R2.same (same_trans s5 s9)) (fun _ _ e => e) (stay (fun z => by first | omega | exact absurd z.2.2 hn2 | exact absurd hn2 z.2) (fun z => by first | omega | exact absurd z.2 (fun y => y hn2) | exact z.2 hn2))⟩
      · have : (!xs.isEmpty) = true := by
          cases q : (!xs.isEmpty) with
          | true => rfl
          | false => exact absurd q a
        exact hx.mp this z.1
    rintro σ4 H5 ⟨rfl, rfl, n4⟩
    dsimp! only [ho, gt2]
    have gb5 := st2
    refine ite2 (fun c14 => ?_) (fun c14 => ite2 (fun c17 => ?_) (fun c17 => ite2 (fun e17 => ?_) (fun e17 => ?_)))
    · have hw : S.wk = none := by
        cases q : S.wk with
        | none => rfl
        | some wk => exact absurd ⟨(by rw [q]; simp), (by omega)⟩ n3
      have hs0 : bothG rm en S x = (S, [.str "collected", .int (liveT S.g 0)]) := both_coll hw c14
      have fl := (ef.coll c14).1 hw
      have ea : atI (bothG rm en S x).2 0 = some (.str "collected") := by
        rw [hs0]
        exact atI_0
      refine ⟨_, ea, sc_ss, ?_⟩
      rw [if_pos rfl]
      refine ⟨_, _, _, hs, T.cl_Store, T.no_Store_words, _, stF_words, w7, rfl, ?_⟩
      rw [hw7]
      dsimp only
      refine ⟨sp, rm, en, _, _, _, _, _, _, _, _, rfl, Z1, rh, fun H6 ks s6 L => ⟨sc_ii, by omega, ?_⟩⟩
      rw [decide_eq_true (show V.int (((flat r'.row).map V.int).length : Int) = V.int (total r'.row ks) by rw [List.length_map, ag2.live L, fl, hs0])]
      exact fin H6 G2 sv (R2.same s6) (fun _ _ e => e) (stay (fun z => by omega) (fun z => z.2 hw))
    · have hw : S.wk = none := by
        cases q : S.wk with
        | none => rfl
        | some wk => exact absurd ⟨(by rw [q]; simp), c17⟩ n3
      have hs0 : bothG rm en S x = (⟨S.g, some (liveT S.g 0, liveN S.g 0, S.g)⟩, [.str "work", .int (x % 20)]) := both_begin hw (by omega) c17
      obtain ⟨e1, e2, e3, e4, e5⟩ := (ef.done c14).begin_ hw (by omega) c17
      have wk1 : (bothG rm en S x).1.wk = some (liveT S.g 0, liveN S.g 0, S.g) := by rw [hs0]
      have fl := (R2.wk wk1).1
      have gtt0 := gtt
      rw [hs0] at gtt0
      have eg : (bothG rm en S x).1.g = S.g := by rw [hs0]
      refine ⟨sp, bf, tt, rm, en, al, mom, G2, n + 1, _, r', flat r.row, ns1, _, r.na, r.nc, x % 20, rfl, R2, by omega, hrm, st2, gtt0, by omega, by rw [eg, e3], e1, e2, by rw [eg]; exact fl, fun H3 s3 => ?_⟩
      have R3 := R2.same s3
      refine ⟨sp, rm, en, al, mom, G2, n + 1, _, r', rfl, R3, by omega, fun H4 D st ns4 sm4 fr4 st4 srt4 => ⟨by omega, fun p hp => ⟨by omega, ?_⟩⟩⟩
      have R4 := (R3.grow sm4).new (o := HO.lst [.ref st]) hp
      have sG4 : Same G2 (My.grow G2 H3 H4) := R3.grow_old
      have D4 : Same D (My.grow G2 H3 H4) := fr4.grow
      have g4n := (R3.grow sm4).out hp
      have sG5 := same_new (o := HO.lst [.ref st]) g4n
      have gp : upd (My.grow G2 H3 H4) p (HO.lst [.ref st]) p = some (HO.lst [.ref st]) := upd_same
      have np : G p = none := none_of (same_trans sG2 sG4) g4n
      have dG : ∀ b o, D b = some o → G b = none := fun b o e => none_of sG2 (R3.out (fr4 b o e).1)
      refine fin _ _ p R4 (same_trans sG4 sG5) fun X hX _ => (SavedOk.iffS wk1).mpr ⟨st, ns4, r'.na, r'.nc, hX _ _ gp np, ?_, ?_⟩
      · have st5 := st4.same (D' := X) fun b o e => hX b o (sG5 _ _ (D4 _ _ e)) (dG b o e)
        rw [eg] at st5
        rw [e4, e5]
        exact st5
      · rw [e4]
        exact srt4
    · have hn2 : S.wk ≠ none := fun h => n4 ⟨h, by omega⟩
      have hs0 : bothG rm en S x = (⟨S.g, none⟩, [.str "work", .int (x % 20)]) := both_commit hn2 e17
      obtain ⟨e1, e2, e3, e4⟩ := (ef.done c14).commit hn2 e17
      have wk1 : (bothG rm en S x).1.wk = none := by rw [hs0]
      refine ⟨by omega, fun p hp => ?_⟩
      have s5 := same_new (o := HO.lst [V.str "work", V.int 17]) hp
      have g5 : upd H5 p (HO.lst [V.str "work", V.int 17]) p = some (HO.lst [V.str "work", V.int 17]) := upd_same
      have gt5 := s5 _ _ gt2
      rw [hs0, e17] at gt5
      generalize upd H5 p (HO.lst [V.str "work", V.int 17]) = H8 at s5 g5 gt5 ⊢
      refine leq_same gt5 g5 (by show 2 ≤ 1000; decide) Tk.si.2 ⟨true, rfl, ?_⟩
      rw [if_pos rfl]
      refine cmpst e1 (by rw [hs0]) e4 e2 e3 H8 s5 _ fun H9 s9 => ⟨by omega, fun p2 hp2 => ⟨by omega, ?_⟩⟩
      have R9 := R2.same (same_trans s5 s9)
      have g9 := R9.out hp2
      have np2 : G p2 = none := none_of sG2 g9
      have gp2 : upd G2 p2 (HO.lst []) p2 = some (HO.lst []) := upd_same
      exact fin _ _ p2 (R9.new hp2) (same_new g9) fun X hX _ => (SavedOk.iffN wk1).mpr (hX _ _ gp2 np2)
    · have hn2 : S.wk ≠ none := fun h => n4 ⟨h, by omega⟩
      cases hw : S.wk with
      | none => exact absurd hw hn2
      | some wk =>
        obtain ⟨u, c, g0⟩ := wk
        have hs0 : bothG rm en S x = (⟨g0, none⟩, [.str "work", .int (x % 20)]) := both_abort hw (by omega)
        obtain ⟨e1, e2, e3, e4⟩ := (ef.done c14).abort hn2 (by omega)
        have wk1 : (bothG rm en S x).1.wk = none := by rw [hs0]
        have eg : (bothG rm en S x).1.g = g0 := by rw [hs0]
        obtain ⟨st0, nsS, aS, cS, y1, y2, y3⟩ := (SavedOk.iffS hw).mp (so.same sG2)
        obtain ⟨w0, n0, r0, q0, z0, z1, z2, z3, z4⟩ := y2.ex
        rw [R2.get y1]
        refine ⟨_, atI_0, _, rfl, ?_⟩
        rw [R2.get z0]
        refine ⟨_, atI_0, ?_⟩
        try dsimp only
        refine ⟨_, atI_0, _, rfl, ?_⟩
        rw [R2.get z0]
        refine ⟨_, atI_1, ?_⟩
        try dsimp only
        refine ⟨_, atI_0, _, rfl, ?_⟩
        rw [R2.get z0]
        refine ⟨_, atI_2, ?_⟩
        rw [B0]
        refine ⟨_, atI_3, by omega, fun p hp => ⟨by omega, fun p2 hp2 => ?_⟩⟩
        have s5 := same_trans (same_new (o := HO.lst [V.ref w0, V.ref n0, V.ref r0, V.ref q]) hp) (same_new (o := HO.lst [V.str "work", V.int (x % 20)]) hp2)
        have gk := same_new (o := HO.lst [V.str "work", V.int (x % 20)]) hp2 _ _ (show upd H5 p (HO.lst [V.ref w0, V.ref n0, V.ref r0, V.ref q]) p = some (HO.lst (([w0, n0, r0, q] : List Addr).map V.ref)) from upd_same)
        have g5 : upd (upd H5 p (HO.lst [V.ref w0, V.ref n0, V.ref r0, V.ref q])) p2 (HO.lst [V.str "work", V.int (x % 20)]) p2 = some (HO.lst [V.str "work", V.int (x % 20)]) := upd_same
        have gt5 := s5 _ _ gt2
        rw [hs0] at gt5
        show sp_leq9 [V.ref tt, V.ref p2] (upd (upd H5 p (HO.lst [V.ref w0, V.ref n0, V.ref r0, V.ref q])) p2 (HO.lst [V.str "work", V.int (x % 20)])) _ _
        generalize upd (upd H5 p (HO.lst [V.ref w0, V.ref n0, V.ref r0, V.ref q])) p2 (HO.lst [V.str "work", V.int (x % 20)]) = H8 at s5 g5 gt5 gk ⊢
        refine leq_same gt5 g5 (by show 2 ≤ 1000; decide) Tk.si.2 ⟨true, rfl, ?_⟩
        rw [if_pos rfl]
        have R8 := R2.same s5
        refine ⟨sp, rm, en, al, mom, G2, n + 1, _, r', rfl, R8, by omega, fun H9 D st ns sm fr stl srt => ?_⟩
        rw [e1] at srt
        have e6 := srt.uniq y3
        subst e6
        have R9 := R8.same sm
        refine ⟨_, _, (stl.same fun b o e => (fr b o e).2).dp, dp_lists (sm _ _ gk) (xss := [flat r.row0, ns, 0 :: (g0.roots.map (rl r.ns0) ++ g0.held.map (rl r.ns0)), [r.na, r.nc]]) rfl (fun i b xs a1 a2 => ?_), dL_shaped _, dL_shaped _, ?_⟩
        · match i, a1, a2 with
          | 0, a1, a2 => cases a1; cases a2; exact R9.get z1
          | 1, a1, a2 => cases a1; cases a2; exact R9.get z2
          | 2, a1, a2 => cases a1; cases a2; exact R9.get z3
          | 3, a1, a2 => cases a1; cases a2; exact R9.get b4
        · rw [dL_eqv, decide_eq_true (by rw [e1, eg, e4, e2, e3])]
          refine ⟨by omega, fun p3 hp3 => ⟨by omega, ?_⟩⟩
          have g9 := R9.out hp3
          have np2 : G p3 = none := none_of sG2 g9
          have gp2 : upd G2 p3 (HO.lst []) p3 = some (HO.lst []) := upd_same
          exact fin _ _ p3 (R9.new hp3) (same_new g9) fun X hX _ => (SavedOk.iffN wk1).mpr (hX _ _ gp2 np2)
end

section
variable {A : Ad} {H : Hp} {one other : Addr} {rm en : Int} {al1 al2 : Bool} {m1 m2 : List Int} {G G' : Hp} {n : Nat} {S1 S2 : GS} {r1 r2 : RS}
theorem Two.set (h : Two A H one other rm en al1 al2 m1 m2 G n S1 S2 r1 r2) {p : Addr} {o u : HO} (e : G p = some u) : Two A (upd H p o) one other rm en al1 al2 m1 m2 (upd G p o) n S1 S2 r1 r2 := by
  obtain ⟨F, R1, R2⟩ := h
  exact ⟨_, R1.set (R2.get e), R2.set e⟩
theorem Two.grow {H' : Hp} (h : Two A H one other rm en al1 al2 m1 m2 G n S1 S2 r1 r2) (s : Same H H') : Two A H' one other rm en al1 al2 m1 m2 (My.grow G H H') n S1 S2 r1 r2 := by
  obtain ⟨F, R1, R2⟩ := h
  refine ⟨_, R1.grow s, R2.more R1.grow_old fun b o e => ?_⟩
  unfold My.grow at e
  split at e
  · rename_i q
    exact .inr ⟨R1.out q, grow_new q e⟩
  · exact .inl e
theorem Two.grow_old {H' : Hp} (h : Two A H one other rm en al1 al2 m1 m2 G n S1 S2 r1 r2) : Same G (My.grow G H H') := fun b o e => by
  unfold My.grow
  rw [h.get e]
  exact e
end
/-- where the two spaces stand in front of what is left of the deeds -/
def Rl (S1 S2 : GS) (U : List Bool) (rest : List Int) : Prop :=
  (S1.wk = none ∧ S2 = S1 ∧ U = und false rest) ∨ (∃ u c g0, S1.wk = some (u, c, g0) ∧ U = und true rest ∧ S2 = if fate rest = true then ⟨g0, none⟩ else S1)
theorem Rl.step {rm en : Int} {S1 S2 : GS} {U : List Bool} {d : Int} {rest : List Int} (h : Rl S1 S2 U (d :: rest)) : ∃ b U', U = b :: U' ∧
    (b = true → Rl (bothG rm en S1 d).1 S2 U' rest) ∧ (b = false → S2 = S1 ∧ Rl (bothG rm en S1 d).1 (bothG rm en S1 d).1 U' rest) := by
  rcases h with ⟨hw, e, hu⟩ | ⟨u, c, g0, hw, hu, e⟩
  · subst e
    unfold und at hu
    by_cases cb : 14 < d % 20 ∧ d % 20 < 17
    · rw [if_pos cb] at hu
      have hb := both_begin (rm := rm) (en := en) (x := d) hw cb.1 cb.2
      have s2 : S2 = ⟨S2.g, none⟩ := by
        cases S2
        simp only at hw
        rw [hw]
      refine ⟨_, _, hu, fun f => .inr ⟨_, _, S2.g, by rw [hb], rfl, by rw [f, if_pos rfl]; exact s2⟩, fun f => ⟨rfl, .inr ⟨_, _, S2.g, by rw [hb], rfl, by rw [f, if_neg (by decide)]⟩⟩⟩
    · rw [if_neg cb] at hu
      exact ⟨_, _, hu, fun f => absurd f (by decide), fun _ => ⟨rfl, .inl ⟨both_none hw cb, rfl, rfl⟩⟩⟩
  · unfold und at hu
    by_cases c16 : 16 < d % 20
    · rw [if_pos c16] at hu
      rw [fate, if_pos c16] at e
      refine ⟨_, _, hu, fun f => ?_, fun f => ?_⟩
      · rw [f, if_pos rfl] at e
        have hb := both_abort (rm := rm) (en := en) hw (of_decide_eq_true f)
        exact .inl ⟨by rw [hb], by rw [e, hb], rfl⟩
      · rw [f, if_neg (by decide)] at e
        have c17 : d % 20 = 17 := by
          have := of_decide_eq_false f
          omega
        have hb := both_commit (rm := rm) (en := en) (show S1.wk ≠ none by rw [hw]; simp) c17
        exact ⟨e, .inl ⟨by rw [hb], rfl, rfl⟩⟩
    · rw [if_neg c16] at hu
      rw [fate, if_neg c16] at e
      obtain ⟨u', c', e2⟩ := both_some (rm := rm) (en := en) hw c16
      refine ⟨_, _, hu, fun f => ?_, fun f => ?_⟩
      · rw [f, if_pos rfl] at e
        exact .inr ⟨u', c', g0, e2, rfl, by rw [f, if_pos rfl]; exact e⟩
      · rw [f, if_neg (by decide)] at e
        exact ⟨e, .inr ⟨u', c', g0, e2, rfl, by rw [f, if_neg (by decide)]⟩⟩

def sp_law (K : PySem.W.Frag) : Sp := fun vs H Q _ => ∃ (a : Addr) (ns : List Int), vs = [.ref a] ∧ SqL K H a (ns.map V.int) ∧ ns.length ≤ 63 ∧ ∀ H', Q (.bl true) H'
theorem sp_law_len {K vs H Q E} (h : sp_law K vs H Q E) : vs.length = (["script"] : List Str).length := by
  obtain ⟨_, _, rfl, _⟩ := h
  rfl
section
variable {P : Program} {w : World} {K : PySem.W.Frag} {mg : Str → Option Value} {base : Heap} {A : Ad}
theorem ok_law (T : Txt K mg A) : FnOk P w K mg base CX0 11 A.f_law A.d_law ["script"] (sp_law K) := by
  refine Fun.ok T.F_law sc_law (fun vs H Q E h => ?_) (fun cdv Ar outer s H vs Q E hr h => ?_)
  · exact sp_law_len h
  · have hu := hu_of hr
    refine ⟨_, (pss_cons (ps_setLc (i := 1) (own := [("cell", 10)]) (g := gName 10) rfl sc_law.nd rfl rfl (sw_true rfl rfl rfl (by decide +kernel)) (pi_list (pv 0)) (blkOk_by (own := [("cell", 10)]) (N := ["script", "cells", "limits", "one", "other", "deeds", "k", "undone", "saved", "step", "cell"]) (sc := defScope s_law) (by decide +kernel)) (fun _ _ _ _ _ => pg_name (i := 10) sc_law.nd rfl (Or.inl rfl)) (fun _ _ _ _ _ => pts_nil) (fun _ _ _ _ _ => (pe_callTy call_intI (by rfl) T.z_int (by decide +kernel) (pa_cons (pv 10) pa_nil))))
    (pss_cons (ps_while PassesOwn.never (pt_cmpR op_lt (pe_callB call_lenM (by rfl) T.z_len PySem.boot_len (pa_cons (pv 1) pa_nil)) pe_int (nomark _)) (pss_one (ps_expr (pe_bmM PySem.F.slot_list_append PySem.F.type_list_append mt_append (pv 1) (pa_cons pe_int pa_nil)))))
    (pss_cons (ps_asg (pe_call (ok__law_limits T) (hr.mono (by decide)) (by rfl) T.g__law_limits T.k__law_limits T.b__law_limits .nil pass0 (pa_cons (pe_ix ix_lstM (pv 1) pe_int (fun _ _ => rfl)) pa_nil)) (pg_name (i := 2) sc_law.nd rfl (Or.inl rfl)))
    (pss_cons (ps_asg (pe_make T.mk_Space (ok_Space___init__ T) (hr.mono (by decide)) (by rfl) T.m_Space T.b_Space___init__ .nil pass0 (pa_cons (pe_ix ix_tup (pv 2) pe_int (fun _ _ => rfl)) (pa_cons (pe_ix ix_tup (pv 2) pe_int (fun _ _ => rfl)) pa_nil))) (pg_name (i := 3) sc_law.nd rfl (Or.inl rfl)))
    (pss_cons (ps_asg (pe_make T.mk_Space (ok_Space___init__ T) (hr.mono (by decide)) (by rfl) T.m_Space T.b_Space___init__ .nil pass0 (pa_cons (pe_ix ix_tup (pv 2) pe_int (fun _ _ => rfl)) (pa_cons (pe_ix ix_tup (pv 2) pe_int (fun _ _ => rfl)) pa_nil))) (pg_name (i := 4) sc_law.nd rfl (Or.inl rfl)))
    (pss_cons (ps_expr (pe_call (ok__law_pressed T) (hr.mono (by decide)) (by rfl) T.g__law_pressed T.k__law_pressed T.b__law_pressed .nil pass0 (pa_cons (pv 3) (pa_cons (pe_ix ix_lstM (pv 1) pe_int (fun _ _ => rfl)) (pa_cons pe_int pa_nil)))))
    (pss_cons (ps_expr (pe_call (ok__law_pressed T) (hr.mono (by decide)) (by rfl) T.g__law_pressed T.k__law_pressed T.b__law_pressed .nil pass0 (pa_cons (pv 4) (pa_cons (pe_ix ix_lstM (pv 1) pe_int (fun _ _ => rfl)) (pa_cons pe_int pa_nil)))))
    (pss_cons (ps_if (PW.pt (pw_or (pt_cmpR op_ne (pe_meth (pv 3) T.cl_Space T.me_Space_new (ok_Space_new T) (hr.mono (by decide)) T.b_Space_new .nil passN0 (pa_cons pe_int (pa_cons pe_int pa_nil))) pe_int (nomark _)) (pw_or1 (pt_cmpR op_ne (pe_meth (pv 4) T.cl_Space T.me_Space_new (ok_Space_new T) (hr.mono (by decide)) T.b_Space_new .nil passN0 (pa_cons pe_int (pa_cons pe_int pa_nil))) pe_int (nomark _))))) (pss_one (ps_ret pe_bl)) pss_nil)
    (pss_cons (ps_asg (pe_lst pa_nil) (pg_name (i := 5) sc_law.nd rfl (Or.inl rfl)))
    (pss_cons (ps_for PassesOwn.never rfl (pi_range2 (by rfl) T.z_range (pa_cons pe_int (pa_cons (pe_callB call_lenM (by rfl) T.z_len PySem.boot_len (pa_cons (pv 1) pa_nil)) pa_nil))) (pg_name (i := 6) sc_law.nd rfl (Or.inl rfl))
      (pss_one (ps_expr (pe_bmM PySem.F.slot_list_extend PySem.F.type_list_extend mt_extend (pv 5) (pa_cons (pe_call (ok__law_deeds T) (hr.mono (by decide)) (by rfl) T.g__law_deeds T.k__law_deeds T.b__law_deeds .nil pass0 (pa_cons (pe_ix ix_lstM (pv 1) (pv 6) (fun _ _ => rfl)) (pa_cons (pv 6) pa_nil))) pa_nil)))))
    (pss_cons (ps_asg (pe_call (ok__law_undone T) (hr.mono (by decide)) (by rfl) T.g__law_undone T.k__law_undone T.b__law_undone .nil pass0 (pa_cons (pv 5) pa_nil)) (pg_name (i := 7) sc_law.nd rfl (Or.inl rfl)))
    (pss_cons (ps_asg (pe_lst pa_nil) (pg_name (i := 8) sc_law.nd rfl (Or.inl rfl)))
    (pss_cons (ps_for PassesOwn.never rfl (pi_range1 (by rfl) T.z_range (pa_cons (pe_callB call_lenM (by rfl) T.z_len PySem.boot_len (pa_cons (pv 5) pa_nil)) pa_nil)) (pg_name (i := 6) sc_law.nd rfl (Or.inl rfl))
      (pss_cons (ps_asg (pe_call (ok__law_first T) (hr.mono (by decide)) (by rfl) T.g__law_first T.k__law_first T.b__law_first .nil pass0 (pa_cons (pv 3) (pa_cons (pv 2) (pa_cons (pv 8) (pa_cons (pe_ix ix_lstM (pv 5) (pv 6) (fun _ _ => rfl)) pa_nil))))) (pg_name (i := 9) sc_law.nd rfl (Or.inl rfl)))
    (pss_cons (ps_if (pt_not (pt_val (pe_ix ix_tup (pv 9) pe_int (fun _ _ => rfl)))) (pss_one (ps_ret pe_bl)) pss_nil)
    (pss_cons (ps_asg (pe_ix ix_tup (pv 9) pe_int (fun _ _ => rfl)) (pg_name (i := 8) sc_law.nd rfl (Or.inl rfl)))
    (pss_one (ps_if (PW.pt (pw_and (pt_not (pt_val (pe_ix ix_lstM (pv 7) (pv 6) (fun _ _ => rfl)))) (pw_and1 (pt_not (pt_val (pe_call (ok__law_equal T) (hr.mono (by decide)) (by rfl) T.g__law_equal T.k__law_equal T.b__law_equal .nil pass0 (pa_cons (pe_ix ix_tup (pv 9) pe_int (fun _ _ => rfl)) (pa_cons (pe_call (ok__law_both T) (hr.mono (by decide)) (by rfl) T.g__law_both T.k__law_both T.b__law_both .nil pass0 (pa_cons (pv 4) (pa_cons (pe_ix ix_lstM (pv 5) (pv 6) (fun _ _ => rfl)) pa_nil))) pa_nil)))))))) (pss_one (ps_ret pe_bl)) pss_nil))))))
    (pss_one (ps_ret (pe_call (ok__law_alike T) (hr.mono (by decide)) (by rfl) T.g__law_alike T.k__law_alike T.b__law_alike .nil pass0 (pa_cons (pv 3) (pa_cons (pv 4) pa_nil)))))))))))))))))), ?_⟩
    obtain ⟨a, ns, rfl, ha, hlen, k⟩ := h
    have sz : (300000 : Nat) ≤ sizeLine := by decide
    simp! only [rIsL]
    refine lc_ints (a := a) (ns := ns) (fun z => z) (fun R h => ⟨_, rfl, h⟩) ha (by show 10 < 11; decide) (by omega) (fun σ' H' z R h1 h2 => ⟨_, h1, z, rfl, h2⟩) (fun pc hpc => ?_)
    have h0 : upd H pc (HO.lst (List.map (fun z => V.int z) ns)) pc = some (.lst (ns.map V.int)) := upd_same
    generalize upd H pc (HO.lst (List.map (fun z => V.int z) ns)) = H0 at h0 ⊢
    refine ⟨fun m σ2 H2 => ∃ ms : List Int, σ2 = [some (.ref a), some (.ref pc), none, none, none, none, none, none, none, none, none] ∧ ms.length ≤ 63 ∧ H2 pc = some (.lst (ms.map V.int)) ∧ m = 3 - ms.length, ⟨_, ns, rfl, hlen, h0, rfl⟩, ?_⟩
    rintro m σ2 H2 ⟨ms, rfl, hml, h2, rfl⟩
    simp! only [h2, List.length_map]
    refine ite2 (fun c => ?_) (fun c => ?_)
    · refine ⟨fun σ' H' => ∃ ms2 : List Int, σ' = [some (.ref a), some (.ref pc), none, none, none, none, none, none, none, none, none] ∧ ms2.length = ms.length + 1 ∧ H' pc = some (.lst (ms2.map V.int)), ?_, by omega, ms ++ [4], rfl, ?_, ?_⟩
      · rintro σ' H' ⟨ms2, rfl, hl, h⟩
        exact ⟨3 - ms2.length, by omega, rfl, ms2, by omega, h, rfl⟩
      · rw [List.length_append]
        rfl
      · rw [upd_same, List.map_append]
        rfl
    · clear hpc h0 ha
      obtain ⟨v0, v1, v2, at0, at1, at2⟩ : ∃ v0 v1 v2, atI (ms.map V.int) 0 = some (.int v0) ∧ atI (ms.map V.int) 1 = some (.int v1) ∧ atI (ms.map V.int) 2 = some (.int v2) := by
        match ms, c with
        | x :: y :: z :: zs, _ => exact ⟨x, y, z, atI_0, atI_1, atI_2⟩
        | [], c => exact absurd (show ((0 : Nat) : Int) < 3 by decide) c
        | [_], c => exact absurd (show ((1 : Nat) : Int) < 3 by decide) c
        | [_, _], c => exact absurd (show ((2 : Nat) : Int) < 3 by decide) c
      refine ⟨_, at0, _, rfl, fun t rm en ht r1_ r2_ e1 e2 => ?_⟩
      have gt : upd H2 t (HO.tup [V.int rm, V.int en]) t = some (.tup [.int rm, .int en]) := upd_same
      have gpc := same_new (o := HO.tup [V.int rm, V.int en]) ht _ _ h2
      generalize upd H2 t (HO.tup [V.int rm, V.int en]) = G at gt gpc ⊢
      clear ht
      refine ⟨t, rfl, _, .inl (.inl gt), _, rfl, t, rfl, _, .inl (.inl gt), _, rfl, fun one dx hone hdx ne => ⟨one, dx, rm, en, rfl, by omega, e2, upd_same, fun H4 hF => ⟨rfl, ?_⟩⟩⟩
      have Z1 : SQ A H4 one rm en [] (false, .non) [] 0 0 (List.replicate 16 0) [] G := hF G fun p o e => ⟨by rw [upd_ne (ne_of_none e hone), upd_ne (ne_of_none e hdx)]; exact e, ne_of_none e hone⟩
      clear hF hone hdx
      have gt4 := Z1.get gt
      refine ⟨t, rfl, _, .inl (.inl gt4), _, rfl, t, rfl, _, .inl (.inl gt4), _, rfl, fun other dx2 hoth hdx2 ne2 => ⟨other, dx2, rm, en, rfl, by omega, e2, upd_same, fun H5 hF => ⟨rfl, ?_⟩⟩⟩
      have Z2 : SQ A H5 other rm en [] (false, .non) [] 0 0 (List.replicate 16 0) [] H4 := hF H4 fun p o e => ⟨by rw [upd_ne (ne_of_none e hoth), upd_ne (ne_of_none e hdx2)]; exact e, ne_of_none e hoth⟩
      clear hF hoth hdx2
      obtain ⟨F5, X1, X2⟩ := foot_swap (P := fun H F => SQ A H other rm en [] (false, .non) [] 0 0 (List.replicate 16 0) [] F) (Q := fun H F => SQ A H one rm en [] (false, .non) [] 0 0 (List.replicate 16 0) [] F) Z2.foot Z1.foot (fun _ _ e => Z2.get e) (fun _ _ e => Z1.get e)
      clear Z1 Z2 gt4
      have gpc5 := X1.get (X2.get gpc)
      simp! only [gpc5, at1, at2]
      refine ⟨one, rm, en, v1, 1, (false, .non), [], F5, rfl, X1, rfl, fun H6 b1 m1 X1 => ?_⟩
      obtain ⟨F6, Y2, Y1⟩ := foot_swap (P := fun H F => SQ A H one rm en [] (b1, .non) m1 0 0 (List.replicate 16 0) [] F) (Q := fun H F => SQ A H other rm en [] (false, .non) [] 0 0 (List.replicate 16 0) [] F) X1.foot X2.foot (fun _ _ e => X1.get e) (fun _ _ e => X2.get e)
      clear X1 X2 gpc5
      have gpc6 := Y2.get (Y1.get gpc)
      rw [gpc6]
      refine ⟨_, at2, other, rm, en, v2, 2, (false, .non), [], F6, rfl, Y2, rfl, fun H7 b2 m2 Y2 => ?_⟩
      obtain ⟨F7, X1, X2⟩ := foot_swap (P := fun H F => SQ A H other rm en [] (b2, .non) m2 0 0 (List.replicate 16 0) [] F) (Q := fun H F => SQ A H one rm en [] (b1, .non) m1 0 0 (List.replicate 16 0) [] F) Y2.foot Y1.foot (fun _ _ e => Y2.get e) (fun _ _ e => Y1.get e)
      clear Y1 Y2 gpc6
      obtain ⟨dxo, so, pro, rto, hlo, moo, Fo, Yo⟩ := id X1
      refine ⟨_, _, Yo.ho, spF_mnew, new_first X1 (by omega) (by omega) fun H8 r1 R1 => ⟨sc_ii, ?_⟩⟩
      rw [if_neg (fun h => h rfl)]
      obtain ⟨F8, X2, R1⟩ := foot_swap (P := fun H F => Rep A H one rm en b1 m1 F 0 S00 r1) (Q := fun H F => SQ A H other rm en [] (b2, .non) m2 0 0 (List.replicate 16 0) [] F) R1.foot X2.foot (fun _ _ e => R1.get e) (fun _ _ e => X2.get e)
      clear Yo X1
      obtain ⟨dxo, so, pro, rto, hlo, moo, Fo, Yo⟩ := id X2
      refine ⟨_, _, Yo.ho, spF_mnew, new_first X2 (by omega) (by omega) fun H9 r2 R2 => ⟨sc_ii, ?_⟩⟩
      rw [if_neg (fun h => h rfl)]
      have D0 : Two A H9 one other rm en b1 b2 m1 m2 G 0 S00 S00 r1 r2 := Two.swap ⟨_, R2, R1⟩
      clear R1 R2 Yo X2
      have c0 : ∀ z y : Int, 0 < y → y < 1000 → CDiv z y := fun z y h1 h2 => ⟨by omega, by omega⟩
      have sz2 : (300000 : Nat) ≤ sizeLine := by decide
      refine ⟨by omega, fun dp hdp => ?_⟩
      have D1 := D0.new (o := HO.lst []) hdp
      have nG := D0.out hdp
      have sGd : ∀ o, Same G (upd G dp o) := fun o => same_new nG
      refine for_rng2 3 (ms.length : Int) (fun R h => ?_) (by omega) (by omega) (by omega) (by omega) (fun i σ' H' => ∃ (ds : List Int) (n6 : Option V), σ' = [some (.ref a), some (.ref pc), some (.ref t), some (.ref one), some (.ref other), some (.ref dp), n6, none, none, none, none] ∧ ds.length = 2 * i ∧ Two A H' one other rm en b1 b2 m1 m2 (upd G dp (.lst (ds.map V.int))) 0 S00 S00 r1 r2) ⟨[], _, rfl, rfl, D1⟩ ?_ ?_
      · have g := D1.get (sGd _ _ _ gpc)
        simp! only [g, List.length_map]
        exact h
      · rintro i σ' H' hi ⟨ds, n6, rfl, dl, D⟩
        have lt : 3 + i < ms.length := by omega
        have at1 : atI (ms.map V.int) (3 + (i : Int)) = some (.int ms[3 + i]) := by
          rw [show 3 + (i : Int) = ((3 + i : Nat) : Int) by omega]
          exact atI_nat (by rw [List.getElem?_map, List.getElem?_eq_getElem lt]; rfl)
        have g := D.get (sGd _ _ _ gpc)
        simp! only [g]
        rw [D.get upd_same]
        refine ⟨_, at1, _, _, rfl, fun q x y hq => ?_⟩
        have D2 := D.new (o := HO.lst [V.int x, V.int y]) hq
        have nq := D.out hq
        have gdp : upd (upd G dp (HO.lst (ds.map V.int))) q (HO.lst [V.int x, V.int y]) dp = some (HO.lst (ds.map V.int)) := same_new nq _ _ upd_same
        have gdpH := D2.get gdp
        have gqH : upd H' q (HO.lst [V.int x, V.int y]) q = some (HO.lst [V.int x, V.int y]) := upd_same
        have D3 := (D2.set (o := HO.lst ((ds ++ [x, y]).map V.int)) gdp).less (G' := upd G dp (HO.lst ((ds ++ [x, y]).map V.int))) fun b o e => by
          by_cases c : b = dp
          · subst c
            rw [upd_same] at e ⊢
            exact e
          · rw [upd_ne c] at e ⊢
            refine same_new nq _ _ ?_
            rw [upd_ne c]
            exact e
        refine ⟨q, rfl, _, gdpH, _, gqH, ?_, ds ++ [x, y], ?_, ?_⟩
        · rw [List.length_map]
          show ds.length + 2 ≤ sizeLine
          omega
        · rw [List.length_append]
          show ds.length + 2 = _
          omega
        · rw [List.map_append] at D3 ⊢
          exact D3
      · rintro σ' H' ⟨ds, n6, rfl, dl, D⟩
        have dl2 : ds.length ≤ 120 := by
          have : Int.toNat ((ms.length : Int) - 3) ≤ 60 := by omega
          omega
        simp! only [rIsL]
        refine ⟨dp, ds, rfl, D.get upd_same, by omega, fun H4 up sm hup gup => ?_⟩
        have D4 := D.grow sm
        have sG4 : Same (upd G dp (HO.lst (ds.map V.int))) (My.grow (upd G dp (HO.lst (ds.map V.int))) H' H4) := D.grow_old
        have gu4 := grow_new (F := upd G dp (HO.lst (ds.map V.int))) hup gup
        have gd4 := sG4 dp _ upd_same
        have gt4 := sG4 t _ (sGd _ _ _ gt)
        generalize My.grow (upd G dp (HO.lst (ds.map V.int))) H' H4 = G4 at D4 sG4 gu4 gd4 gt4
        refine ⟨by omega, fun sv hsv => ?_⟩
        have D5 := D4.new (o := HO.lst []) hsv
        have s5 := same_new (o := HO.lst []) (D4.out hsv)
        have gu5 := s5 _ _ gu4
        have gd5 := s5 _ _ gd4
        have gt5 := s5 _ _ gt4
        have so5 : SavedOk (upd G4 sv (HO.lst [])) sv S00 r1 := (SavedOk.iffN rfl).mpr upd_same
        generalize upd G4 sv (HO.lst []) = G5 at D5 s5 gu5 gd5 gt5 so5
        generalize upd H4 sv (HO.lst []) = H5 at D5 ⊢
        clear D D1 D4 sG4 gu4 gd4 gt4 hup gup hsv hdp
        refine for_rng (ds.length : Int) (fun R h => ?_) (by omega) (by omega) (fun i σ' H' => ∃ (sv : Addr) (n6 n9 : Option V) (G' : Hp) (S1 S2 : GS) (r1 r2 : RS), σ' = [some (.ref a), some (.ref pc), some (.ref t), some (.ref one), some (.ref other), some (.ref dp), n6, some (.ref up), some (.ref sv), n9, none] ∧ Two A H' one other rm en b1 b2 m1 m2 G' i S1 S2 r1 r2 ∧ Same G5 G' ∧ SavedOk G' sv S1 r1 ∧ Rl S1 S2 ((und false ds).drop i) (ds.drop i)) ⟨_, _, _, _, _, _, _, _, rfl, D5, fun _ _ e => e, so5, .inl ⟨rfl, rfl, rfl⟩⟩ ?_ ?_
        · have g := D5.get gd5
          simp! only [g, List.length_map]
          exact h
        · rintro i σ' H' hi ⟨sv, n6, n9, G', S1, S2, r1, r2, rfl, D6, sG, so, rel⟩
          have lt : i < ds.length := by omega
          have hd : ds[i]? = some ds[i] := List.getElem?_eq_getElem lt
          have hat : atI (ds.map V.int) (i : Int) = some (.int ds[i]) := atI_nat (by rw [List.getElem?_map, hd]; rfl)
          generalize ds[i] = d at hd hat
          rw [drop_at hd] at rel
          obtain ⟨b, U', eU, rT, rF⟩ := rel.step (rm := rm) (en := en)
          have ub : (und false ds)[i]? = some b := by
            have : ((und false ds).drop i)[0]? = some b := by rw [eU]; rfl
            rw [List.getElem?_drop] at this
            exact this
          have ud : (und false ds).drop (i + 1) = U' := by
            rw [← List.drop_drop, eU]
            rfl
          have uat : atI ((und false ds).map V.bl) (i : Int) = some (.bl b) := atI_nat (by rw [List.getElem?_map, ub]; rfl)
          obtain ⟨F, R1, R2⟩ := id D6
          have sF : Same G' F := fun _ _ e => R2.get e
          have gdH := D6.get (sG _ _ gd5)
          simp! only [gdH, hat]
          refine ⟨one, t, sv, rm, en, b1, m1, F, i, S1, r1, d, rfl, R1, by omega, r2_, by omega, sF _ _ (sG _ _ gt5), so.same sF, fun H2 D tp tt sv' r1' dG R1' gtp gtt hsv => ?_⟩
          have sU : Same F (My.uni D F) := fun b o e => by
            rw [uni_right]
            · exact e
            · cases z : D b with
              | none => rfl
              | some v =>
                have := dG b v z
                rw [e] at this
                cases this
          have sUG : Same G' (My.uni D G') := fun b o e => by
            rw [uni_right]
            · exact e
            · cases z : D b with
              | none => rfl
              | some v =>
                have := dG b v z
                rw [sF _ _ e] at this
                cases this
          have R2' : Rep A (My.uni D F) other rm en b2 m2 (My.uni D G') i S2 r2 := R2.more sU fun b o e => by
            rcases uni_cases e with e | ⟨_, e⟩
            · exact .inr ⟨dG b o e, uni_l _ _ e⟩
            · exact .inl e
          have so' : SavedOk (My.uni D G') sv' (bothG rm en S1 d).1 r1' := hsv _ uni_l (so.same sUG)
          have gtp2 := R1'.get (uni_l _ _ gtp)
          have gtt2 := R1'.get (uni_l _ _ gtt)
          have gup2 := R1'.get (sU _ _ (sF _ _ (sG _ _ gu5)))
          have gd2 := R1'.get (sU _ _ (sF _ _ (sG _ _ gd5)))
          have rel' := ud
          simp! only [gup2, gd2, hat, uat]
          refine ⟨_, .inl (.inl gtp2), _, rfl, true, rfl, ?_⟩
          rw [if_neg (by decide)]
          refine ⟨_, .inl (.inl gtp2), _, rfl, ?_⟩
          cases b with
          | false =>
            rw [if_pos rfl]
            obtain ⟨e, rl2⟩ := rF rfl
            subst e
            refine ⟨_, .inl (.inl gtp2), _, rfl, ?_⟩
            obtain ⟨F4, Q2, Q1⟩ := foot_swap (P := fun H F => Rep A H one rm en b1 m1 F (i + 1) (bothG rm en S2 d).1 r1') (Q := fun H F => Rep A H other rm en b2 m2 F i S2 r2) R1'.foot R2'.foot (fun _ _ e => R1'.get e) (fun _ _ e => R2'.get e)
            refine ⟨other, rm, en, b2, m2, F4, i, S2, r2, d, rfl, Q2, by omega, r2_, by omega, fun H3 t2 r2' gt2 Q2' _ => ?_⟩
            have gA := Q2'.get (same_new (o := HO.lst (bothG rm en S2 d).2) gt2 _ _ (Q1.get (uni_l _ _ gtt)))
            have gB := Q2'.get upd_same
            have tk := bothG_tk (rm := rm) (en := en) (S := S2) (x := d)
            refine leq_same gA gB (by have := tk.1; omega) tk.2 ⟨true, rfl, ?_⟩
            rw [if_neg (by decide)]
            exact ⟨sv', rfl, My.uni D G', _, _, r1', ⟨r2', (Two.swap ⟨_, Q2', Q1.new gt2⟩).less (same_new (Q1.out gt2))⟩, same_trans sG sUG, so', by rw [ud]; exact rl2⟩
          | true =>
            rw [if_neg (by decide)]
            exact ⟨sv', rfl, My.uni D G', _, S2, r1', ⟨r2, ⟨_, R1', R2'.up (by omega)⟩⟩, same_trans sG sUG, so', by rw [ud]; exact rT rfl⟩
        · rintro σ' H' ⟨sv, n6, n9, G', S1, S2, r1, r2, rfl, D6, sG, so, rel⟩
          simp! only [rIsL]
          have ed : ds.drop (Int.toNat (ds.length : Int)) = [] := by rw [Int.toNat_natCast, List.drop_length]
          rw [ed] at rel
          have e12 : S1.g = S2.g := by
            rcases rel with ⟨_, e, _⟩ | ⟨_, _, _, _, _, e⟩
            · rw [e]
            · rw [show fate [] = false from rfl, if_neg (by decide)] at e
              rw [e]
          obtain ⟨F3, R1, R2⟩ := id D6
          obtain ⟨F4, Q2, Q1⟩ := D6.swap
          exact ⟨one, other, rm, en, b1, b2, m1, m2, F3, F4, _, S1, S2, r1, r2, rfl, R1, Q2, e12, by rw [Int.toNat_natCast]; omega, fun H' _ => k _⟩
end

theorem all_mk {l : PySem.W.OpenLaw} {w : World} {K : PySem.W.Frag} {h : Heap} {mg : Str → Option Value} {fa : Addr} (X : K.In h) (G : h.Ns mainGlobals mg) (hfa : mg "law" = some (.ref fa))
    {f62 : Addr} {od62 an62 : Option Addr} {sl62 : Array (Option Value)} {oc62 kV62 dc62 pm62 cd62 ct62 : Value}
    {f61 : Addr} {od61 an61 : Option Addr} {sl61 : Array (Option Value)} {oc61 kV61 dc61 pm61 cd61 ct61 : Value}
    {f60 : Addr} {od60 an60 : Option Addr} {sl60 : Array (Option Value)} {oc60 kV60 dc60 pm60 cd60 ct60 : Value}
    {f59 : Addr} {od59 an59 : Option Addr} {sl59 : Array (Option Value)} {oc59 kV59 dc59 pm59 cd59 ct59 : Value}
    {f58 : Addr} {od58 an58 : Option Addr} {sl58 : Array (Option Value)} {oc58 kV58 dc58 pm58 cd58 ct58 : Value}
    {f57 : Addr} {od57 an57 : Option Addr} {sl57 : Array (Option Value)} {oc57 kV57 dc57 pm57 cd57 ct57 : Value}
    {f56 : Addr} {od56 an56 : Option Addr} {sl56 : Array (Option Value)} {oc56 kV56 dc56 pm56 cd56 ct56 : Value}
    {f55 : Addr} {od55 an55 : Option Addr} {sl55 : Array (Option Value)} {oc55 kV55 dc55 pm55 cd55 ct55 : Value}
    {f54 : Addr} {od54 an54 : Option Addr} {sl54 : Array (Option Value)} {oc54 kV54 dc54 pm54 cd54 ct54 : Value}
    {f53 : Addr} {od53 an53 : Option Addr} {sl53 : Array (Option Value)} {oc53 kV53 dc53 pm53 cd53 ct53 : Value}
    {f52 : Addr} {od52 an52 : Option Addr} {sl52 : Array (Option Value)} {oc52 kV52 dc52 pm52 cd52 ct52 : Value}
    {f51 : Addr} {od51 an51 : Option Addr} {sl51 : Array (Option Value)} {oc51 kV51 dc51 pm51 cd51 ct51 : Value}
    {f50 : Addr} {od50 an50 : Option Addr} {sl50 : Array (Option Value)} {oc50 kV50 dc50 pm50 cd50 ct50 : Value}
    {f49 : Addr} {od49 an49 : Option Addr} {sl49 : Array (Option Value)} {oc49 kV49 dc49 pm49 cd49 ct49 : Value}
    {f48 : Addr} {od48 an48 : Option Addr} {sl48 : Array (Option Value)} {oc48 kV48 dc48 pm48 cd48 ct48 : Value}
    {f47 : Addr} {od47 an47 : Option Addr} {sl47 : Array (Option Value)} {oc47 kV47 dc47 pm47 cd47 ct47 : Value}
    {f46 : Addr} {od46 an46 : Option Addr} {sl46 : Array (Option Value)} {oc46 kV46 dc46 pm46 cd46 ct46 : Value}
    {f45 : Addr} {od45 an45 : Option Addr} {sl45 : Array (Option Value)} {oc45 kV45 dc45 pm45 cd45 ct45 : Value}
    {f44 : Addr} {od44 an44 : Option Addr} {sl44 : Array (Option Value)} {oc44 kV44 dc44 pm44 cd44 ct44 : Value}
    {f43 : Addr} {od43 an43 : Option Addr} {sl43 : Array (Option Value)} {oc43 kV43 dc43 pm43 cd43 ct43 : Value}
    {f42 : Addr} {od42 an42 : Option Addr} {sl42 : Array (Option Value)} {oc42 kV42 dc42 pm42 cd42 ct42 : Value}
    {f41 : Addr} {od41 an41 : Option Addr} {sl41 : Array (Option Value)} {oc41 kV41 dc41 pm41 cd41 ct41 : Value}
    {f40 : Addr} {od40 an40 : Option Addr} {sl40 : Array (Option Value)} {oc40 kV40 dc40 pm40 cd40 ct40 : Value}
    {f39 : Addr} {od39 an39 : Option Addr} {sl39 : Array (Option Value)} {oc39 kV39 dc39 pm39 cd39 ct39 : Value}
    {f38 : Addr} {od38 an38 : Option Addr} {sl38 : Array (Option Value)} {oc38 kV38 dc38 pm38 cd38 ct38 : Value}
    {f37 : Addr} {od37 an37 : Option Addr} {sl37 : Array (Option Value)} {oc37 kV37 dc37 pm37 cd37 ct37 : Value}
    {f36 : Addr} {od36 an36 : Option Addr} {sl36 : Array (Option Value)} {oc36 kV36 dc36 pm36 cd36 ct36 : Value}
    {f35 : Addr} {od35 an35 : Option Addr} {sl35 : Array (Option Value)} {oc35 kV35 dc35 pm35 cd35 ct35 : Value}
    {f34 : Addr} {od34 an34 : Option Addr} {sl34 : Array (Option Value)} {oc34 kV34 dc34 pm34 cd34 ct34 : Value}
    {f33 : Addr} {od33 an33 : Option Addr} {sl33 : Array (Option Value)} {oc33 kV33 dc33 pm33 cd33 ct33 : Value}
    {f32 : Addr} {od32 an32 : Option Addr} {sl32 : Array (Option Value)} {oc32 kV32 dc32 pm32 cd32 ct32 : Value}
    {f31 : Addr} {od31 an31 : Option Addr} {sl31 : Array (Option Value)} {oc31 kV31 dc31 pm31 cd31 ct31 : Value}
    {f30 : Addr} {od30 an30 : Option Addr} {sl30 : Array (Option Value)} {oc30 kV30 dc30 pm30 cd30 ct30 : Value}
    {f29 : Addr} {od29 an29 : Option Addr} {sl29 : Array (Option Value)} {oc29 kV29 dc29 pm29 cd29 ct29 : Value}
    {f28 : Addr} {od28 an28 : Option Addr} {sl28 : Array (Option Value)} {oc28 kV28 dc28 pm28 cd28 ct28 : Value}
    {f27 : Addr} {od27 an27 : Option Addr} {sl27 : Array (Option Value)} {oc27 kV27 dc27 pm27 cd27 ct27 : Value}
    {f26 : Addr} {od26 an26 : Option Addr} {sl26 : Array (Option Value)} {oc26 kV26 dc26 pm26 cd26 ct26 : Value}
    {D25 : Addr}
    {f25 : Addr} {od25 an25 : Option Addr} {sl25 : Array (Option Value)} {oc25 dc25 pm25 cd25 ct25 : Value}
    {f24 : Addr} {od24 an24 : Option Addr} {sl24 : Array (Option Value)} {oc24 kV24 dc24 pm24 cd24 ct24 : Value}
    {f23 : Addr} {od23 an23 : Option Addr} {sl23 : Array (Option Value)} {oc23 kV23 dc23 pm23 cd23 ct23 : Value}
    {f22 : Addr} {od22 an22 : Option Addr} {sl22 : Array (Option Value)} {oc22 kV22 dc22 pm22 cd22 ct22 : Value}
    {f21 : Addr} {od21 an21 : Option Addr} {sl21 : Array (Option Value)} {oc21 kV21 dc21 pm21 cd21 ct21 : Value}
    {f20 : Addr} {od20 an20 : Option Addr} {sl20 : Array (Option Value)} {oc20 kV20 dc20 pm20 cd20 ct20 : Value}
    {f19 : Addr} {od19 an19 : Option Addr} {sl19 : Array (Option Value)} {oc19 kV19 dc19 pm19 cd19 ct19 : Value}
    {f18 : Addr} {od18 an18 : Option Addr} {sl18 : Array (Option Value)} {oc18 kV18 dc18 pm18 cd18 ct18 : Value}
    {f17 : Addr} {od17 an17 : Option Addr} {sl17 : Array (Option Value)} {oc17 kV17 dc17 pm17 cd17 ct17 : Value}
    {f16 : Addr} {od16 an16 : Option Addr} {sl16 : Array (Option Value)} {oc16 kV16 dc16 pm16 cd16 ct16 : Value}
    {f15 : Addr} {od15 an15 : Option Addr} {sl15 : Array (Option Value)} {oc15 kV15 dc15 pm15 cd15 ct15 : Value}
    {f14 : Addr} {od14 an14 : Option Addr} {sl14 : Array (Option Value)} {oc14 kV14 dc14 pm14 cd14 ct14 : Value}
    {f13 : Addr} {od13 an13 : Option Addr} {sl13 : Array (Option Value)} {oc13 kV13 dc13 pm13 cd13 ct13 : Value}
    {f12 : Addr} {od12 an12 : Option Addr} {sl12 : Array (Option Value)} {oc12 kV12 dc12 pm12 cd12 ct12 : Value}
    {f11 : Addr} {od11 an11 : Option Addr} {sl11 : Array (Option Value)} {oc11 kV11 dc11 pm11 cd11 ct11 : Value}
    {f10 : Addr} {od10 an10 : Option Addr} {sl10 : Array (Option Value)} {oc10 kV10 dc10 pm10 cd10 ct10 : Value}
    {f9 : Addr} {od9 an9 : Option Addr} {sl9 : Array (Option Value)} {oc9 kV9 dc9 pm9 cd9 ct9 : Value}
    {f8 : Addr} {od8 an8 : Option Addr} {sl8 : Array (Option Value)} {oc8 kV8 dc8 pm8 cd8 ct8 : Value}
    {f7 : Addr} {od7 an7 : Option Addr} {sl7 : Array (Option Value)} {oc7 kV7 dc7 pm7 cd7 ct7 : Value}
    {f6 : Addr} {od6 an6 : Option Addr} {sl6 : Array (Option Value)} {oc6 kV6 dc6 pm6 cd6 ct6 : Value}
    {f5 : Addr} {od5 an5 : Option Addr} {sl5 : Array (Option Value)} {oc5 kV5 dc5 pm5 cd5 ct5 : Value}
    {f4 : Addr} {od4 an4 : Option Addr} {sl4 : Array (Option Value)} {oc4 kV4 dc4 pm4 cd4 ct4 : Value}
    {f3 : Addr} {od3 an3 : Option Addr} {sl3 : Array (Option Value)} {oc3 kV3 dc3 pm3 cd3 ct3 : Value}
    {f2 : Addr} {od2 an2 : Option Addr} {sl2 : Array (Option Value)} {oc2 kV2 dc2 pm2 cd2 ct2 : Value}
    {f1 : Addr} {od1 an1 : Option Addr} {sl1 : Array (Option Value)} {oc1 kV1 dc1 pm1 cd1 ct1 : Value}
    {f0 : Addr} {od0 an0 : Option Addr} {sl0 : Array (Option Value)} {oc0 kV0 dc0 pm0 cd0 ct0 : Value}
    {C_SaggarError : Addr}
    {C_NoRoom : Addr}
    {C_NoNumber : Addr}
    {C_Wrong : Addr}
    {C_Store : Addr}
    {C_Space : Addr}
    {nm_NoRoom q_NoRoom : Str} {N_NoRoom : Addr} {bs_NoRoom : List Value} {sn_NoRoom : List Str} {sub_NoRoom : List Value} {ab_NoRoom : Bool} {col_NoRoom : Option Bool} {dd_NoRoom : Option Addr} {m0_NoRoom m1_NoRoom m2_NoRoom m3_NoRoom m5_NoRoom : Option Value}
    {nm_NoNumber q_NoNumber : Str} {N_NoNumber : Addr} {bs_NoNumber : List Value} {sn_NoNumber : List Str} {sub_NoNumber : List Value} {ab_NoNumber : Bool} {col_NoNumber : Option Bool} {dd_NoNumber : Option Addr} {m0_NoNumber m1_NoNumber m2_NoNumber m3_NoNumber m5_NoNumber : Option Value}
    {nm_Wrong q_Wrong : Str} {N_Wrong : Addr} {bs_Wrong : List Value} {sn_Wrong : List Str} {sub_Wrong : List Value} {ab_Wrong : Bool} {col_Wrong : Option Bool} {dd_Wrong : Option Addr} {m0_Wrong m1_Wrong m2_Wrong m3_Wrong m5_Wrong : Option Value}
    {t_NIL : Tok}
    {t_HEADER : Tok}
    {t_ROOTS : Tok}
    (m_SaggarError : PySem.W.nsIn K mainGlobals "SaggarError" = some (some (.ref C_SaggarError)))
    (m_NoRoom : PySem.W.nsIn K mainGlobals "NoRoom" = some (some (.ref C_NoRoom)))
    (m_NoNumber : PySem.W.nsIn K mainGlobals "NoNumber" = some (some (.ref C_NoNumber)))
    (m_Wrong : PySem.W.nsIn K mainGlobals "Wrong" = some (some (.ref C_Wrong)))
    (m_Store : PySem.W.nsIn K mainGlobals "Store" = some (some (.ref C_Store)))
    (m_Space : PySem.W.nsIn K mainGlobals "Space" = some (some (.ref C_Space)))
    (xl_NoRoom : K.lookup C_NoRoom = some (excClassObj nm_NoRoom q_NoRoom C_NoRoom N_NoRoom bs_NoRoom [.ref C_SaggarError, .type "ValueError", .type "Exception", .type "BaseException", .type "object"] true sn_NoRoom sub_NoRoom ab_NoRoom col_NoRoom dd_NoRoom m0_NoRoom m1_NoRoom m2_NoRoom m3_NoRoom m5_NoRoom "ValueError.__new__"))
    (sa_NoRoom : PySem.W.findIn K (.ref C_NoRoom) "__setattr__" = some (some (.builtin "object.__setattr__"))) (ga_NoRoom : PySem.W.findIn K (.ref C_NoRoom) "__getattribute__" = some (some (.builtin "BaseException.__getattribute__"))) (gg_NoRoom : PySem.W.findIn K (.ref C_NoRoom) "__getattr__" = some none) (ic_NoRoom : PySem.W.findIn K (.ref C_NoRoom) "__init__" = some (some (.ref f0))) (ti_NoRoom : PySem.W.typeIn K (.ref f0) = some (.type "function"))
    (kc_NoRoom : PySem.W.keepIn K (.ref C_NoRoom) = true) (ec_NoRoom : PySem.W.subIn K (.ref C_NoRoom) (.type "BaseException") = some true) (tc_NoRoom : PySem.W.typeIn K (.ref C_NoRoom) = some (.type "type")) (hc_NoRoom : PySem.W.hasDictIn K C_NoRoom = true)
    (ha_NoRoom : PySem.W.findIn K (.ref C_NoRoom) "__class__" = some (some (.builtin "object.__class__"))) (hn_NoRoom : PySem.W.specialIn K (.builtin "object.__class__") "__get__" = some (some (.builtin "getset_descriptor.__get__"))) (ht_NoRoom : PySem.W.takesIn K (.builtin "object.__class__") = some true) (hm_NoRoom : PySem.W.mroIn K C_NoRoom (.type "object") = some true)
    (no_NoRoom_need : PySem.W.findIn K (.ref C_NoRoom) "need" = some none)
    (ex_NoRoom_NoNumber : PySem.W.exmOne K (.ref C_NoRoom) (.ref C_NoNumber) = some false)
    (ex_NoRoom_NoRoom : PySem.W.exmOne K (.ref C_NoRoom) (.ref C_NoRoom) = some true)
    (ex_NoRoom_SaggarError : PySem.W.exmOne K (.ref C_NoRoom) (.ref C_SaggarError) = some true)
    (ex_NoRoom_Wrong : PySem.W.exmOne K (.ref C_NoRoom) (.ref C_Wrong) = some false)
    (kit_NoRoom_Wrong : PySem.W.kitOne K (.ref C_NoRoom) (.ref C_Wrong) = some false)
    (xl_NoNumber : K.lookup C_NoNumber = some (excClassObj nm_NoNumber q_NoNumber C_NoNumber N_NoNumber bs_NoNumber [.ref C_SaggarError, .type "ValueError", .type "Exception", .type "BaseException", .type "object"] true sn_NoNumber sub_NoNumber ab_NoNumber col_NoNumber dd_NoNumber m0_NoNumber m1_NoNumber m2_NoNumber m3_NoNumber m5_NoNumber "ValueError.__new__"))
    (sa_NoNumber : PySem.W.findIn K (.ref C_NoNumber) "__setattr__" = some (some (.builtin "object.__setattr__"))) (ga_NoNumber : PySem.W.findIn K (.ref C_NoNumber) "__getattribute__" = some (some (.builtin "BaseException.__getattribute__"))) (gg_NoNumber : PySem.W.findIn K (.ref C_NoNumber) "__getattr__" = some none) (ic_NoNumber : PySem.W.findIn K (.ref C_NoNumber) "__init__" = some (some (.ref f1))) (ti_NoNumber : PySem.W.typeIn K (.ref f1) = some (.type "function"))
    (kc_NoNumber : PySem.W.keepIn K (.ref C_NoNumber) = true) (ec_NoNumber : PySem.W.subIn K (.ref C_NoNumber) (.type "BaseException") = some true) (tc_NoNumber : PySem.W.typeIn K (.ref C_NoNumber) = some (.type "type")) (hc_NoNumber : PySem.W.hasDictIn K C_NoNumber = true)
    (ha_NoNumber : PySem.W.findIn K (.ref C_NoNumber) "__class__" = some (some (.builtin "object.__class__"))) (hn_NoNumber : PySem.W.specialIn K (.builtin "object.__class__") "__get__" = some (some (.builtin "getset_descriptor.__get__"))) (ht_NoNumber : PySem.W.takesIn K (.builtin "object.__class__") = some true) (hm_NoNumber : PySem.W.mroIn K C_NoNumber (.type "object") = some true)
    (no_NoNumber_limit : PySem.W.findIn K (.ref C_NoNumber) "limit" = some none)
    (ex_NoNumber_NoNumber : PySem.W.exmOne K (.ref C_NoNumber) (.ref C_NoNumber) = some true)
    (ex_NoNumber_NoRoom : PySem.W.exmOne K (.ref C_NoNumber) (.ref C_NoRoom) = some false)
    (ex_NoNumber_SaggarError : PySem.W.exmOne K (.ref C_NoNumber) (.ref C_SaggarError) = some true)
    (ex_NoNumber_Wrong : PySem.W.exmOne K (.ref C_NoNumber) (.ref C_Wrong) = some false)
    (kit_NoNumber_Wrong : PySem.W.kitOne K (.ref C_NoNumber) (.ref C_Wrong) = some false)
    (xl_Wrong : K.lookup C_Wrong = some (excClassObj nm_Wrong q_Wrong C_Wrong N_Wrong bs_Wrong [.ref C_SaggarError, .type "ValueError", .type "Exception", .type "BaseException", .type "object"] true sn_Wrong sub_Wrong ab_Wrong col_Wrong dd_Wrong m0_Wrong m1_Wrong m2_Wrong m3_Wrong m5_Wrong "ValueError.__new__"))
    (sa_Wrong : PySem.W.findIn K (.ref C_Wrong) "__setattr__" = some (some (.builtin "object.__setattr__"))) (ga_Wrong : PySem.W.findIn K (.ref C_Wrong) "__getattribute__" = some (some (.builtin "BaseException.__getattribute__"))) (gg_Wrong : PySem.W.findIn K (.ref C_Wrong) "__getattr__" = some none) (ic_Wrong : PySem.W.findIn K (.ref C_Wrong) "__init__" = some (some (.ref f2))) (ti_Wrong : PySem.W.typeIn K (.ref f2) = some (.type "function"))
    (kc_Wrong : PySem.W.keepIn K (.ref C_Wrong) = true) (ec_Wrong : PySem.W.subIn K (.ref C_Wrong) (.type "BaseException") = some true) (tc_Wrong : PySem.W.typeIn K (.ref C_Wrong) = some (.type "type")) (hc_Wrong : PySem.W.hasDictIn K C_Wrong = true)
    (ha_Wrong : PySem.W.findIn K (.ref C_Wrong) "__class__" = some (some (.builtin "object.__class__"))) (hn_Wrong : PySem.W.specialIn K (.builtin "object.__class__") "__get__" = some (some (.builtin "getset_descriptor.__get__"))) (ht_Wrong : PySem.W.takesIn K (.builtin "object.__class__") = some true) (hm_Wrong : PySem.W.mroIn K C_Wrong (.type "object") = some true)
    (no_Wrong_why : PySem.W.findIn K (.ref C_Wrong) "why" = some none)
    (ex_Wrong_NoNumber : PySem.W.exmOne K (.ref C_Wrong) (.ref C_NoNumber) = some false)
    (ex_Wrong_NoRoom : PySem.W.exmOne K (.ref C_Wrong) (.ref C_NoRoom) = some false)
    (ex_Wrong_SaggarError : PySem.W.exmOne K (.ref C_Wrong) (.ref C_SaggarError) = some true)
    (ex_Wrong_Wrong : PySem.W.exmOne K (.ref C_Wrong) (.ref C_Wrong) = some true)
    (kit_Wrong_Wrong : PySem.W.kitOne K (.ref C_Wrong) (.ref C_Wrong) = some true)
    (pg_Store : PySem.W.plainGet K C_Store Str.empty = true) (hd_Store : PySem.W.hasDictIn K C_Store = true) (po_Store : PySem.W.plainOver K C_Store = true) (sa_Store : PySem.W.findIn K (.ref C_Store) "__setattr__" = some (some (.builtin "object.__setattr__")))
    (mi_Store : PySem.W.makesIn K C_Store = true) (kc_Store : PySem.W.keepIn K (.ref C_Store) = true)
    (no_Store_room : PySem.W.findIn K (.ref C_Store) "room" = some none)
    (no_Store_entries : PySem.W.findIn K (.ref C_Store) "entries" = some none)
    (no_Store_words : PySem.W.findIn K (.ref C_Store) "words" = some none)
    (no_Store__places : PySem.W.findIn K (.ref C_Store) "_places" = some none)
    (no_Store__free : PySem.W.findIn K (.ref C_Store) "_free" = some none)
    (no_Store__fresh : PySem.W.findIn K (.ref C_Store) "_fresh" = some none)
    (pg_Space : PySem.W.plainGet K C_Space Str.empty = true) (hd_Space : PySem.W.hasDictIn K C_Space = true) (po_Space : PySem.W.plainOver K C_Space = true) (sa_Space : PySem.W.findIn K (.ref C_Space) "__setattr__" = some (some (.builtin "object.__setattr__")))
    (mi_Space : PySem.W.makesIn K C_Space = true) (kc_Space : PySem.W.keepIn K (.ref C_Space) = true)
    (no_Space_store : PySem.W.findIn K (.ref C_Space) "store" = some none)
    (no_Space_always : PySem.W.findIn K (.ref C_Space) "always" = some none)
    (no_Space_pressure : PySem.W.findIn K (.ref C_Space) "pressure" = some none)
    (no_Space_allocations : PySem.W.findIn K (.ref C_Space) "allocations" = some none)
    (no_Space_collections : PySem.W.findIn K (.ref C_Space) "collections" = some none)
    (no_Space__roots : PySem.W.findIn K (.ref C_Space) "_roots" = some none)
    (no_Space__held : PySem.W.findIn K (.ref C_Space) "_held" = some none)
    (no_Space__moments : PySem.W.findIn K (.ref C_Space) "_moments" = some none)
    (no_Space__work : PySem.W.findIn K (.ref C_Space) "_work" = some none)
    (l0 : K.lookup f0 = some ⟨oc0, od0, .func (PySem.W.fnOf "__init__" "NoRoom.__init__" (defArgs s_NoRoom___init__) (defBody s_NoRoom___init__) (defScope s_NoRoom___init__) .none kV0 dc0 pm0 an0 cd0 ct0), sl0⟩) (c0 : PySem.W.codeIn K cd0 "NoRoom.__init__" = true) (k0 : PySem.W.keepIn K (.ref f0) = true)
    (l1 : K.lookup f1 = some ⟨oc1, od1, .func (PySem.W.fnOf "__init__" "NoNumber.__init__" (defArgs s_NoNumber___init__) (defBody s_NoNumber___init__) (defScope s_NoNumber___init__) .none kV1 dc1 pm1 an1 cd1 ct1), sl1⟩) (c1 : PySem.W.codeIn K cd1 "NoNumber.__init__" = true) (k1 : PySem.W.keepIn K (.ref f1) = true)
    (l2 : K.lookup f2 = some ⟨oc2, od2, .func (PySem.W.fnOf "__init__" "Wrong.__init__" (defArgs s_Wrong___init__) (defBody s_Wrong___init__) (defScope s_Wrong___init__) .none kV2 dc2 pm2 an2 cd2 ct2), sl2⟩) (c2 : PySem.W.codeIn K cd2 "Wrong.__init__" = true) (k2 : PySem.W.keepIn K (.ref f2) = true)
    (a3 : PySem.W.nsIn K mainGlobals "is_ref" = some (some (.ref f3)))
    (l3 : K.lookup f3 = some ⟨oc3, od3, .func (PySem.W.fnOf "is_ref" "is_ref" (defArgs s_is_ref) (defBody s_is_ref) (defScope s_is_ref) .none kV3 dc3 pm3 an3 cd3 ct3), sl3⟩) (c3 : PySem.W.codeIn K cd3 "is_ref" = true) (k3 : PySem.W.keepIn K (.ref f3) = true)
    (a4 : PySem.W.findIn K (.ref C_Store) "__init__" = some (some (.ref f4))) (i4 : PySem.W.isFn K (.ref f4) = true)
    (l4 : K.lookup f4 = some ⟨oc4, od4, .func (PySem.W.fnOf "__init__" "Store.__init__" (defArgs s_Store___init__) (defBody s_Store___init__) (defScope s_Store___init__) .none kV4 dc4 pm4 an4 cd4 ct4), sl4⟩) (c4 : PySem.W.codeIn K cd4 "Store.__init__" = true) (k4 : PySem.W.keepIn K (.ref f4) = true)
    (a5 : PySem.W.findIn K (.ref C_Store) "used" = some (some (.ref f5))) (i5 : PySem.W.isFn K (.ref f5) = true)
    (l5 : K.lookup f5 = some ⟨oc5, od5, .func (PySem.W.fnOf "used" "Store.used" (defArgs s_Store_used) (defBody s_Store_used) (defScope s_Store_used) .none kV5 dc5 pm5 an5 cd5 ct5), sl5⟩) (c5 : PySem.W.codeIn K cd5 "Store.used" = true) (k5 : PySem.W.keepIn K (.ref f5) = true)
    (a6 : PySem.W.findIn K (.ref C_Store) "exists" = some (some (.ref f6))) (i6 : PySem.W.isFn K (.ref f6) = true)
    (l6 : K.lookup f6 = some ⟨oc6, od6, .func (PySem.W.fnOf "exists" "Store.exists" (defArgs s_Store_exists) (defBody s_Store_exists) (defScope s_Store_exists) .none kV6 dc6 pm6 an6 cd6 ct6), sl6⟩) (c6 : PySem.W.codeIn K cd6 "Store.exists" = true) (k6 : PySem.W.keepIn K (.ref f6) = true)
    (a7 : PySem.W.findIn K (.ref C_Store) "numbers" = some (some (.ref f7))) (i7 : PySem.W.isFn K (.ref f7) = true)
    (l7 : K.lookup f7 = some ⟨oc7, od7, .func (PySem.W.fnOf "numbers" "Store.numbers" (defArgs s_Store_numbers) (defBody s_Store_numbers) (defScope s_Store_numbers) .none kV7 dc7 pm7 an7 cd7 ct7), sl7⟩) (c7 : PySem.W.codeIn K cd7 "Store.numbers" = true) (k7 : PySem.W.keepIn K (.ref f7) = true)
    (a8 : PySem.W.findIn K (.ref C_Store) "free_number" = some (some (.ref f8))) (i8 : PySem.W.isFn K (.ref f8) = true)
    (l8 : K.lookup f8 = some ⟨oc8, od8, .func (PySem.W.fnOf "free_number" "Store.free_number" (defArgs s_Store_free_number) (defBody s_Store_free_number) (defScope s_Store_free_number) .none kV8 dc8 pm8 an8 cd8 ct8), sl8⟩) (c8 : PySem.W.codeIn K cd8 "Store.free_number" = true) (k8 : PySem.W.keepIn K (.ref f8) = true)
    (a9 : PySem.W.findIn K (.ref C_Store) "allocate" = some (some (.ref f9))) (i9 : PySem.W.isFn K (.ref f9) = true)
    (l9 : K.lookup f9 = some ⟨oc9, od9, .func (PySem.W.fnOf "allocate" "Store.allocate" (defArgs s_Store_allocate) (defBody s_Store_allocate) (defScope s_Store_allocate) .none kV9 dc9 pm9 an9 cd9 ct9), sl9⟩) (c9 : PySem.W.codeIn K cd9 "Store.allocate" = true) (k9 : PySem.W.keepIn K (.ref f9) = true)
    (a10 : PySem.W.findIn K (.ref C_Store) "size" = some (some (.ref f10))) (i10 : PySem.W.isFn K (.ref f10) = true)
    (l10 : K.lookup f10 = some ⟨oc10, od10, .func (PySem.W.fnOf "size" "Store.size" (defArgs s_Store_size) (defBody s_Store_size) (defScope s_Store_size) .none kV10 dc10 pm10 an10 cd10 ct10), sl10⟩) (c10 : PySem.W.codeIn K cd10 "Store.size" = true) (k10 : PySem.W.keepIn K (.ref f10) = true)
    (a11 : PySem.W.findIn K (.ref C_Store) "kind" = some (some (.ref f11))) (i11 : PySem.W.isFn K (.ref f11) = true)
    (l11 : K.lookup f11 = some ⟨oc11, od11, .func (PySem.W.fnOf "kind" "Store.kind" (defArgs s_Store_kind) (defBody s_Store_kind) (defScope s_Store_kind) .none kV11 dc11 pm11 an11 cd11 ct11), sl11⟩) (c11 : PySem.W.codeIn K cd11 "Store.kind" = true) (k11 : PySem.W.keepIn K (.ref f11) = true)
    (a12 : PySem.W.findIn K (.ref C_Store) "set_kind" = some (some (.ref f12))) (i12 : PySem.W.isFn K (.ref f12) = true)
    (l12 : K.lookup f12 = some ⟨oc12, od12, .func (PySem.W.fnOf "set_kind" "Store.set_kind" (defArgs s_Store_set_kind) (defBody s_Store_set_kind) (defScope s_Store_set_kind) .none kV12 dc12 pm12 an12 cd12 ct12), sl12⟩) (c12 : PySem.W.codeIn K cd12 "Store.set_kind" = true) (k12 : PySem.W.keepIn K (.ref f12) = true)
    (a13 : PySem.W.findIn K (.ref C_Store) "get" = some (some (.ref f13))) (i13 : PySem.W.isFn K (.ref f13) = true)
    (l13 : K.lookup f13 = some ⟨oc13, od13, .func (PySem.W.fnOf "get" "Store.get" (defArgs s_Store_get) (defBody s_Store_get) (defScope s_Store_get) .none kV13 dc13 pm13 an13 cd13 ct13), sl13⟩) (c13 : PySem.W.codeIn K cd13 "Store.get" = true) (k13 : PySem.W.keepIn K (.ref f13) = true)
    (a14 : PySem.W.findIn K (.ref C_Store) "put" = some (some (.ref f14))) (i14 : PySem.W.isFn K (.ref f14) = true)
    (l14 : K.lookup f14 = some ⟨oc14, od14, .func (PySem.W.fnOf "put" "Store.put" (defArgs s_Store_put) (defBody s_Store_put) (defScope s_Store_put) .none kV14 dc14 pm14 an14 cd14 ct14), sl14⟩) (c14 : PySem.W.codeIn K cd14 "Store.put" = true) (k14 : PySem.W.keepIn K (.ref f14) = true)
    (a15 : PySem.W.findIn K (.ref C_Store) "slots" = some (some (.ref f15))) (i15 : PySem.W.isFn K (.ref f15) = true)
    (l15 : K.lookup f15 = some ⟨oc15, od15, .func (PySem.W.fnOf "slots" "Store.slots" (defArgs s_Store_slots) (defBody s_Store_slots) (defScope s_Store_slots) .none kV15 dc15 pm15 an15 cd15 ct15), sl15⟩) (c15 : PySem.W.codeIn K cd15 "Store.slots" = true) (k15 : PySem.W.keepIn K (.ref f15) = true)
    (a16 : PySem.W.findIn K (.ref C_Store) "drop" = some (some (.ref f16))) (i16 : PySem.W.isFn K (.ref f16) = true)
    (l16 : K.lookup f16 = some ⟨oc16, od16, .func (PySem.W.fnOf "drop" "Store.drop" (defArgs s_Store_drop) (defBody s_Store_drop) (defScope s_Store_drop) .none kV16 dc16 pm16 an16 cd16 ct16), sl16⟩) (c16 : PySem.W.codeIn K cd16 "Store.drop" = true) (k16 : PySem.W.keepIn K (.ref f16) = true)
    (a17 : PySem.W.findIn K (.ref C_Store) "close_up" = some (some (.ref f17))) (i17 : PySem.W.isFn K (.ref f17) = true)
    (l17 : K.lookup f17 = some ⟨oc17, od17, .func (PySem.W.fnOf "close_up" "Store.close_up" (defArgs s_Store_close_up) (defBody s_Store_close_up) (defScope s_Store_close_up) .none kV17 dc17 pm17 an17 cd17 ct17), sl17⟩) (c17 : PySem.W.codeIn K cd17 "Store.close_up" = true) (k17 : PySem.W.keepIn K (.ref f17) = true)
    (a18 : PySem.W.findIn K (.ref C_Store) "snapshot" = some (some (.ref f18))) (i18 : PySem.W.isFn K (.ref f18) = true)
    (l18 : K.lookup f18 = some ⟨oc18, od18, .func (PySem.W.fnOf "snapshot" "Store.snapshot" (defArgs s_Store_snapshot) (defBody s_Store_snapshot) (defScope s_Store_snapshot) .none kV18 dc18 pm18 an18 cd18 ct18), sl18⟩) (c18 : PySem.W.codeIn K cd18 "Store.snapshot" = true) (k18 : PySem.W.keepIn K (.ref f18) = true)
    (a19 : PySem.W.findIn K (.ref C_Store) "restore" = some (some (.ref f19))) (i19 : PySem.W.isFn K (.ref f19) = true)
    (l19 : K.lookup f19 = some ⟨oc19, od19, .func (PySem.W.fnOf "restore" "Store.restore" (defArgs s_Store_restore) (defBody s_Store_restore) (defScope s_Store_restore) .none kV19 dc19 pm19 an19 cd19 ct19), sl19⟩) (c19 : PySem.W.codeIn K cd19 "Store.restore" = true) (k19 : PySem.W.keepIn K (.ref f19) = true)
    (a20 : PySem.W.findIn K (.ref C_Store) "exchange" = some (some (.ref f20))) (i20 : PySem.W.isFn K (.ref f20) = true)
    (l20 : K.lookup f20 = some ⟨oc20, od20, .func (PySem.W.fnOf "exchange" "Store.exchange" (defArgs s_Store_exchange) (defBody s_Store_exchange) (defScope s_Store_exchange) .none kV20 dc20 pm20 an20 cd20 ct20), sl20⟩) (c20 : PySem.W.codeIn K cd20 "Store.exchange" = true) (k20 : PySem.W.keepIn K (.ref f20) = true)
    (a21 : PySem.W.nsIn K mainGlobals "reached" = some (some (.ref f21)))
    (l21 : K.lookup f21 = some ⟨oc21, od21, .func (PySem.W.fnOf "reached" "reached" (defArgs s_reached) (defBody s_reached) (defScope s_reached) .none kV21 dc21 pm21 an21 cd21 ct21), sl21⟩) (c21 : PySem.W.codeIn K cd21 "reached" = true) (k21 : PySem.W.keepIn K (.ref f21) = true)
    (a22 : PySem.W.nsIn K mainGlobals "words_of" = some (some (.ref f22)))
    (l22 : K.lookup f22 = some ⟨oc22, od22, .func (PySem.W.fnOf "words_of" "words_of" (defArgs s_words_of) (defBody s_words_of) (defScope s_words_of) .none kV22 dc22 pm22 an22 cd22 ct22), sl22⟩) (c22 : PySem.W.codeIn K cd22 "words_of" = true) (k22 : PySem.W.keepIn K (.ref f22) = true)
    (a23 : PySem.W.nsIn K mainGlobals "collect" = some (some (.ref f23)))
    (l23 : K.lookup f23 = some ⟨oc23, od23, .func (PySem.W.fnOf "collect" "collect" (defArgs s_collect) (defBody s_collect) (defScope s_collect) .none kV23 dc23 pm23 an23 cd23 ct23), sl23⟩) (c23 : PySem.W.codeIn K cd23 "collect" = true) (k23 : PySem.W.keepIn K (.ref f23) = true)
    (a24 : PySem.W.findIn K (.ref C_Space) "__init__" = some (some (.ref f24))) (i24 : PySem.W.isFn K (.ref f24) = true)
    (l24 : K.lookup f24 = some ⟨oc24, od24, .func (PySem.W.fnOf "__init__" "Space.__init__" (defArgs s_Space___init__) (defBody s_Space___init__) (defScope s_Space___init__) .none kV24 dc24 pm24 an24 cd24 ct24), sl24⟩) (c24 : PySem.W.codeIn K cd24 "Space.__init__" = true) (k24 : PySem.W.keepIn K (.ref f24) = true)
    (a25 : PySem.W.findIn K (.ref C_Space) "press" = some (some (.ref f25))) (i25 : PySem.W.isFn K (.ref f25) = true)
    (l25 : K.lookup f25 = some ⟨oc25, od25, .func (PySem.W.fnOf "press" "Space.press" (defArgs s_Space_press) (defBody s_Space_press) (defScope s_Space_press) .none (.ref D25) dc25 pm25 an25 cd25 ct25), sl25⟩) (c25 : PySem.W.codeIn K cd25 "Space.press" = true) (k25 : PySem.W.keepIn K (.ref f25) = true)
    (kd25_always : PySem.W.nsIn K D25 "always" = some (some (.bool false)))
    (a26 : PySem.W.findIn K (.ref C_Space) "root" = some (some (.ref f26))) (i26 : PySem.W.isFn K (.ref f26) = true)
    (l26 : K.lookup f26 = some ⟨oc26, od26, .func (PySem.W.fnOf "root" "Space.root" (defArgs s_Space_root) (defBody s_Space_root) (defScope s_Space_root) .none kV26 dc26 pm26 an26 cd26 ct26), sl26⟩) (c26 : PySem.W.codeIn K cd26 "Space.root" = true) (k26 : PySem.W.keepIn K (.ref f26) = true)
    (a27 : PySem.W.findIn K (.ref C_Space) "set_root" = some (some (.ref f27))) (i27 : PySem.W.isFn K (.ref f27) = true)
    (l27 : K.lookup f27 = some ⟨oc27, od27, .func (PySem.W.fnOf "set_root" "Space.set_root" (defArgs s_Space_set_root) (defBody s_Space_set_root) (defScope s_Space_set_root) .none kV27 dc27 pm27 an27 cd27 ct27), sl27⟩) (c27 : PySem.W.codeIn K cd27 "Space.set_root" = true) (k27 : PySem.W.keepIn K (.ref f27) = true)
    (a28 : PySem.W.findIn K (.ref C_Space) "hold" = some (some (.ref f28))) (i28 : PySem.W.isFn K (.ref f28) = true)
    (l28 : K.lookup f28 = some ⟨oc28, od28, .func (PySem.W.fnOf "hold" "Space.hold" (defArgs s_Space_hold) (defBody s_Space_hold) (defScope s_Space_hold) .none kV28 dc28 pm28 an28 cd28 ct28), sl28⟩) (c28 : PySem.W.codeIn K cd28 "Space.hold" = true) (k28 : PySem.W.keepIn K (.ref f28) = true)
    (a29 : PySem.W.findIn K (.ref C_Space) "drop" = some (some (.ref f29))) (i29 : PySem.W.isFn K (.ref f29) = true)
    (l29 : K.lookup f29 = some ⟨oc29, od29, .func (PySem.W.fnOf "drop" "Space.drop" (defArgs s_Space_drop) (defBody s_Space_drop) (defScope s_Space_drop) .none kV29 dc29 pm29 an29 cd29 ct29), sl29⟩) (c29 : PySem.W.codeIn K cd29 "Space.drop" = true) (k29 : PySem.W.keepIn K (.ref f29) = true)
    (a30 : PySem.W.findIn K (.ref C_Space) "held" = some (some (.ref f30))) (i30 : PySem.W.isFn K (.ref f30) = true)
    (l30 : K.lookup f30 = some ⟨oc30, od30, .func (PySem.W.fnOf "held" "Space.held" (defArgs s_Space_held) (defBody s_Space_held) (defScope s_Space_held) .none kV30 dc30 pm30 an30 cd30 ct30), sl30⟩) (c30 : PySem.W.codeIn K cd30 "Space.held" = true) (k30 : PySem.W.keepIn K (.ref f30) = true)
    (a31 : PySem.W.findIn K (.ref C_Space) "all_roots" = some (some (.ref f31))) (i31 : PySem.W.isFn K (.ref f31) = true)
    (l31 : K.lookup f31 = some ⟨oc31, od31, .func (PySem.W.fnOf "all_roots" "Space.all_roots" (defArgs s_Space_all_roots) (defBody s_Space_all_roots) (defScope s_Space_all_roots) .none kV31 dc31 pm31 an31 cd31 ct31), sl31⟩) (c31 : PySem.W.codeIn K cd31 "Space.all_roots" = true) (k31 : PySem.W.keepIn K (.ref f31) = true)
    (a32 : PySem.W.findIn K (.ref C_Space) "collect" = some (some (.ref f32))) (i32 : PySem.W.isFn K (.ref f32) = true)
    (l32 : K.lookup f32 = some ⟨oc32, od32, .func (PySem.W.fnOf "collect" "Space.collect" (defArgs s_Space_collect) (defBody s_Space_collect) (defScope s_Space_collect) .none kV32 dc32 pm32 an32 cd32 ct32), sl32⟩) (c32 : PySem.W.codeIn K cd32 "Space.collect" = true) (k32 : PySem.W.keepIn K (.ref f32) = true)
    (a33 : PySem.W.findIn K (.ref C_Space) "live_words" = some (some (.ref f33))) (i33 : PySem.W.isFn K (.ref f33) = true)
    (l33 : K.lookup f33 = some ⟨oc33, od33, .func (PySem.W.fnOf "live_words" "Space.live_words" (defArgs s_Space_live_words) (defBody s_Space_live_words) (defScope s_Space_live_words) .none kV33 dc33 pm33 an33 cd33 ct33), sl33⟩) (c33 : PySem.W.codeIn K cd33 "Space.live_words" = true) (k33 : PySem.W.keepIn K (.ref f33) = true)
    (a34 : PySem.W.findIn K (.ref C_Space) "new" = some (some (.ref f34))) (i34 : PySem.W.isFn K (.ref f34) = true)
    (l34 : K.lookup f34 = some ⟨oc34, od34, .func (PySem.W.fnOf "new" "Space.new" (defArgs s_Space_new) (defBody s_Space_new) (defScope s_Space_new) .none kV34 dc34 pm34 an34 cd34 ct34), sl34⟩) (c34 : PySem.W.codeIn K cd34 "Space.new" = true) (k34 : PySem.W.keepIn K (.ref f34) = true)
    (a35 : PySem.W.findIn K (.ref C_Space) "begin" = some (some (.ref f35))) (i35 : PySem.W.isFn K (.ref f35) = true)
    (l35 : K.lookup f35 = some ⟨oc35, od35, .func (PySem.W.fnOf "begin" "Space.begin" (defArgs s_Space_begin) (defBody s_Space_begin) (defScope s_Space_begin) .none kV35 dc35 pm35 an35 cd35 ct35), sl35⟩) (c35 : PySem.W.codeIn K cd35 "Space.begin" = true) (k35 : PySem.W.keepIn K (.ref f35) = true)
    (a36 : PySem.W.findIn K (.ref C_Space) "commit" = some (some (.ref f36))) (i36 : PySem.W.isFn K (.ref f36) = true)
    (l36 : K.lookup f36 = some ⟨oc36, od36, .func (PySem.W.fnOf "commit" "Space.commit" (defArgs s_Space_commit) (defBody s_Space_commit) (defScope s_Space_commit) .none kV36 dc36 pm36 an36 cd36 ct36), sl36⟩) (c36 : PySem.W.codeIn K cd36 "Space.commit" = true) (k36 : PySem.W.keepIn K (.ref f36) = true)
    (a37 : PySem.W.findIn K (.ref C_Space) "abort" = some (some (.ref f37))) (i37 : PySem.W.isFn K (.ref f37) = true)
    (l37 : K.lookup f37 = some ⟨oc37, od37, .func (PySem.W.fnOf "abort" "Space.abort" (defArgs s_Space_abort) (defBody s_Space_abort) (defScope s_Space_abort) .none kV37 dc37 pm37 an37 cd37 ct37), sl37⟩) (c37 : PySem.W.codeIn K cd37 "Space.abort" = true) (k37 : PySem.W.keepIn K (.ref f37) = true)
    (a38 : PySem.W.findIn K (.ref C_Space) "_collect_beside" = some (some (.ref f38))) (i38 : PySem.W.isFn K (.ref f38) = true)
    (l38 : K.lookup f38 = some ⟨oc38, od38, .func (PySem.W.fnOf "_collect_beside" "Space._collect_beside" (defArgs s_Space__collect_beside) (defBody s_Space__collect_beside) (defScope s_Space__collect_beside) .none kV38 dc38 pm38 an38 cd38 ct38), sl38⟩) (c38 : PySem.W.codeIn K cd38 "Space._collect_beside" = true) (k38 : PySem.W.keepIn K (.ref f38) = true)
    (a39 : PySem.W.nsIn K mainGlobals "_law_number" = some (some (.ref f39)))
    (l39 : K.lookup f39 = some ⟨oc39, od39, .func (PySem.W.fnOf "_law_number" "_law_number" (defArgs s__law_number) (defBody s__law_number) (defScope s__law_number) .none kV39 dc39 pm39 an39 cd39 ct39), sl39⟩) (c39 : PySem.W.codeIn K cd39 "_law_number" = true) (k39 : PySem.W.keepIn K (.ref f39) = true)
    (a40 : PySem.W.nsIn K mainGlobals "_law_deeds" = some (some (.ref f40)))
    (l40 : K.lookup f40 = some ⟨oc40, od40, .func (PySem.W.fnOf "_law_deeds" "_law_deeds" (defArgs s__law_deeds) (defBody s__law_deeds) (defScope s__law_deeds) .none kV40 dc40 pm40 an40 cd40 ct40), sl40⟩) (c40 : PySem.W.codeIn K cd40 "_law_deeds" = true) (k40 : PySem.W.keepIn K (.ref f40) = true)
    (a41 : PySem.W.nsIn K mainGlobals "_law_place" = some (some (.ref f41)))
    (l41 : K.lookup f41 = some ⟨oc41, od41, .func (PySem.W.fnOf "_law_place" "_law_place" (defArgs s__law_place) (defBody s__law_place) (defScope s__law_place) .none kV41 dc41 pm41 an41 cd41 ct41), sl41⟩) (c41 : PySem.W.codeIn K cd41 "_law_place" = true) (k41 : PySem.W.keepIn K (.ref f41) = true)
    (a42 : PySem.W.nsIn K mainGlobals "_law_word" = some (some (.ref f42)))
    (l42 : K.lookup f42 = some ⟨oc42, od42, .func (PySem.W.fnOf "_law_word" "_law_word" (defArgs s__law_word) (defBody s__law_word) (defScope s__law_word) .none kV42 dc42 pm42 an42 cd42 ct42), sl42⟩) (c42 : PySem.W.codeIn K cd42 "_law_word" = true) (k42 : PySem.W.keepIn K (.ref f42) = true)
    (a43 : PySem.W.nsIn K mainGlobals "_law_shown" = some (some (.ref f43)))
    (l43 : K.lookup f43 = some ⟨oc43, od43, .func (PySem.W.fnOf "_law_shown" "_law_shown" (defArgs s__law_shown) (defBody s__law_shown) (defScope s__law_shown) .none kV43 dc43 pm43 an43 cd43 ct43), sl43⟩) (c43 : PySem.W.codeIn K cd43 "_law_shown" = true) (k43 : PySem.W.keepIn K (.ref f43) = true)
    (a44 : PySem.W.nsIn K mainGlobals "_law_new" = some (some (.ref f44)))
    (l44 : K.lookup f44 = some ⟨oc44, od44, .func (PySem.W.fnOf "_law_new" "_law_new" (defArgs s__law_new) (defBody s__law_new) (defScope s__law_new) .none kV44 dc44 pm44 an44 cd44 ct44), sl44⟩) (c44 : PySem.W.codeIn K cd44 "_law_new" = true) (k44 : PySem.W.keepIn K (.ref f44) = true)
    (a45 : PySem.W.nsIn K mainGlobals "_law_held" = some (some (.ref f45)))
    (l45 : K.lookup f45 = some ⟨oc45, od45, .func (PySem.W.fnOf "_law_held" "_law_held" (defArgs s__law_held) (defBody s__law_held) (defScope s__law_held) .none kV45 dc45 pm45 an45 cd45 ct45), sl45⟩) (c45 : PySem.W.codeIn K cd45 "_law_held" = true) (k45 : PySem.W.keepIn K (.ref f45) = true)
    (a46 : PySem.W.nsIn K mainGlobals "_law_changed" = some (some (.ref f46)))
    (l46 : K.lookup f46 = some ⟨oc46, od46, .func (PySem.W.fnOf "_law_changed" "_law_changed" (defArgs s__law_changed) (defBody s__law_changed) (defScope s__law_changed) .none kV46 dc46 pm46 an46 cd46 ct46), sl46⟩) (c46 : PySem.W.codeIn K cd46 "_law_changed" = true) (k46 : PySem.W.keepIn K (.ref f46) = true)
    (a47 : PySem.W.nsIn K mainGlobals "_law_work" = some (some (.ref f47)))
    (l47 : K.lookup f47 = some ⟨oc47, od47, .func (PySem.W.fnOf "_law_work" "_law_work" (defArgs s__law_work) (defBody s__law_work) (defScope s__law_work) .none kV47 dc47 pm47 an47 cd47 ct47), sl47⟩) (c47 : PySem.W.codeIn K cd47 "_law_work" = true) (k47 : PySem.W.keepIn K (.ref f47) = true)
    (a48 : PySem.W.nsIn K mainGlobals "_law_done" = some (some (.ref f48)))
    (l48 : K.lookup f48 = some ⟨oc48, od48, .func (PySem.W.fnOf "_law_done" "_law_done" (defArgs s__law_done) (defBody s__law_done) (defScope s__law_done) .none kV48 dc48 pm48 an48 cd48 ct48), sl48⟩) (c48 : PySem.W.codeIn K cd48 "_law_done" = true) (k48 : PySem.W.keepIn K (.ref f48) = true)
    (a49 : PySem.W.nsIn K mainGlobals "_law_equal" = some (some (.ref f49)))
    (l49 : K.lookup f49 = some ⟨oc49, od49, .func (PySem.W.fnOf "_law_equal" "_law_equal" (defArgs s__law_equal) (defBody s__law_equal) (defScope s__law_equal) .none kV49 dc49 pm49 an49 cd49 ct49), sl49⟩) (c49 : PySem.W.codeIn K cd49 "_law_equal" = true) (k49 : PySem.W.keepIn K (.ref f49) = true)
    (a50 : PySem.W.nsIn K mainGlobals "_law_paired" = some (some (.ref f50)))
    (l50 : K.lookup f50 = some ⟨oc50, od50, .func (PySem.W.fnOf "_law_paired" "_law_paired" (defArgs s__law_paired) (defBody s__law_paired) (defScope s__law_paired) .none kV50 dc50 pm50 an50 cd50 ct50), sl50⟩) (c50 : PySem.W.codeIn K cd50 "_law_paired" = true) (k50 : PySem.W.keepIn K (.ref f50) = true)
    (a51 : PySem.W.nsIn K mainGlobals "_law_alike" = some (some (.ref f51)))
    (l51 : K.lookup f51 = some ⟨oc51, od51, .func (PySem.W.fnOf "_law_alike" "_law_alike" (defArgs s__law_alike) (defBody s__law_alike) (defScope s__law_alike) .none kV51 dc51 pm51 an51 cd51 ct51), sl51⟩) (c51 : PySem.W.codeIn K cd51 "_law_alike" = true) (k51 : PySem.W.keepIn K (.ref f51) = true)
    (a52 : PySem.W.nsIn K mainGlobals "_law_row" = some (some (.ref f52)))
    (l52 : K.lookup f52 = some ⟨oc52, od52, .func (PySem.W.fnOf "_law_row" "_law_row" (defArgs s__law_row) (defBody s__law_row) (defScope s__law_row) .none kV52 dc52 pm52 an52 cd52 ct52), sl52⟩) (c52 : PySem.W.codeIn K cd52 "_law_row" = true) (k52 : PySem.W.keepIn K (.ref f52) = true)
    (a53 : PySem.W.nsIn K mainGlobals "_law_state" = some (some (.ref f53)))
    (l53 : K.lookup f53 = some ⟨oc53, od53, .func (PySem.W.fnOf "_law_state" "_law_state" (defArgs s__law_state) (defBody s__law_state) (defScope s__law_state) .none kV53 dc53 pm53 an53 cd53 ct53), sl53⟩) (c53 : PySem.W.codeIn K cd53 "_law_state" = true) (k53 : PySem.W.keepIn K (.ref f53) = true)
    (a54 : PySem.W.nsIn K mainGlobals "_law_collected" = some (some (.ref f54)))
    (l54 : K.lookup f54 = some ⟨oc54, od54, .func (PySem.W.fnOf "_law_collected" "_law_collected" (defArgs s__law_collected) (defBody s__law_collected) (defScope s__law_collected) .none kV54 dc54 pm54 an54 cd54 ct54), sl54⟩) (c54 : PySem.W.codeIn K cd54 "_law_collected" = true) (k54 : PySem.W.keepIn K (.ref f54) = true)
    (a55 : PySem.W.nsIn K mainGlobals "_law_both" = some (some (.ref f55)))
    (l55 : K.lookup f55 = some ⟨oc55, od55, .func (PySem.W.fnOf "_law_both" "_law_both" (defArgs s__law_both) (defBody s__law_both) (defScope s__law_both) .none kV55 dc55 pm55 an55 cd55 ct55), sl55⟩) (c55 : PySem.W.codeIn K cd55 "_law_both" = true) (k55 : PySem.W.keepIn K (.ref f55) = true)
    (a56 : PySem.W.nsIn K mainGlobals "_law_begun" = some (some (.ref f56)))
    (l56 : K.lookup f56 = some ⟨oc56, od56, .func (PySem.W.fnOf "_law_begun" "_law_begun" (defArgs s__law_begun) (defBody s__law_begun) (defScope s__law_begun) .none kV56 dc56 pm56 an56 cd56 ct56), sl56⟩) (c56 : PySem.W.codeIn K cd56 "_law_begun" = true) (k56 : PySem.W.keepIn K (.ref f56) = true)
    (a57 : PySem.W.nsIn K mainGlobals "_law_grown" = some (some (.ref f57)))
    (l57 : K.lookup f57 = some ⟨oc57, od57, .func (PySem.W.fnOf "_law_grown" "_law_grown" (defArgs s__law_grown) (defBody s__law_grown) (defScope s__law_grown) .none kV57 dc57 pm57 an57 cd57 ct57), sl57⟩) (c57 : PySem.W.codeIn K cd57 "_law_grown" = true) (k57 : PySem.W.keepIn K (.ref f57) = true)
    (a58 : PySem.W.nsIn K mainGlobals "_law_first" = some (some (.ref f58)))
    (l58 : K.lookup f58 = some ⟨oc58, od58, .func (PySem.W.fnOf "_law_first" "_law_first" (defArgs s__law_first) (defBody s__law_first) (defScope s__law_first) .none kV58 dc58 pm58 an58 cd58 ct58), sl58⟩) (c58 : PySem.W.codeIn K cd58 "_law_first" = true) (k58 : PySem.W.keepIn K (.ref f58) = true)
    (a59 : PySem.W.nsIn K mainGlobals "_law_undone" = some (some (.ref f59)))
    (l59 : K.lookup f59 = some ⟨oc59, od59, .func (PySem.W.fnOf "_law_undone" "_law_undone" (defArgs s__law_undone) (defBody s__law_undone) (defScope s__law_undone) .none kV59 dc59 pm59 an59 cd59 ct59), sl59⟩) (c59 : PySem.W.codeIn K cd59 "_law_undone" = true) (k59 : PySem.W.keepIn K (.ref f59) = true)
    (a60 : PySem.W.nsIn K mainGlobals "_law_pressed" = some (some (.ref f60)))
    (l60 : K.lookup f60 = some ⟨oc60, od60, .func (PySem.W.fnOf "_law_pressed" "_law_pressed" (defArgs s__law_pressed) (defBody s__law_pressed) (defScope s__law_pressed) .none kV60 dc60 pm60 an60 cd60 ct60), sl60⟩) (c60 : PySem.W.codeIn K cd60 "_law_pressed" = true) (k60 : PySem.W.keepIn K (.ref f60) = true)
    (a61 : PySem.W.nsIn K mainGlobals "_law_limits" = some (some (.ref f61)))
    (l61 : K.lookup f61 = some ⟨oc61, od61, .func (PySem.W.fnOf "_law_limits" "_law_limits" (defArgs s__law_limits) (defBody s__law_limits) (defScope s__law_limits) .none kV61 dc61 pm61 an61 cd61 ct61), sl61⟩) (c61 : PySem.W.codeIn K cd61 "_law_limits" = true) (k61 : PySem.W.keepIn K (.ref f61) = true)
    (a62 : PySem.W.nsIn K mainGlobals "law" = some (some (.ref f62)))
    (l62 : K.lookup f62 = some ⟨oc62, od62, .func (PySem.W.fnOf "law" "law" (defArgs s_law) (defBody s_law) (defScope s_law) .none kV62 dc62 pm62 an62 cd62 ct62), sl62⟩) (c62 : PySem.W.codeIn K cd62 "law" = true) (k62 : PySem.W.keepIn K (.ref f62) = true)
    (q_NIL : PySem.W.nsIn K mainGlobals "NIL" = some (some (.int (0) t_NIL)))
    (q_HEADER : PySem.W.nsIn K mainGlobals "HEADER" = some (some (.int (3) t_HEADER)))
    (q_ROOTS : PySem.W.nsIn K mainGlobals "ROOTS" = some (some (.int (16) t_ROOTS)))
    (al_collect_collecting : PySem.W.nsIn K mainGlobals "collect_collecting" = some (some (.ref f23)))
    (h_heappop : PySem.W.nsIn K mainGlobals "heappop" = some (some (.builtin "_heapq.heappop")))
    (h_heappush : PySem.W.nsIn K mainGlobals "heappush" = some (some (.builtin "_heapq.heappush")))
    (z_ValueError : PySem.W.nsIn K mainGlobals "ValueError" = some none)
    (z_bool : PySem.W.nsIn K mainGlobals "bool" = some none)
    (z_int : PySem.W.nsIn K mainGlobals "int" = some none)
    (z_isinstance : PySem.W.nsIn K mainGlobals "isinstance" = some none)
    (z_len : PySem.W.nsIn K mainGlobals "len" = some none)
    (z_list : PySem.W.nsIn K mainGlobals "list" = some none)
    (z_range : PySem.W.nsIn K mainGlobals "range" = some none)
    (z_sorted : PySem.W.nsIn K mainGlobals "sorted" = some none)
    (z_sum : PySem.W.nsIn K mainGlobals "sum" = some none) :
    ∃ fd : FuncData, (∀ (s : Shared) (v : Value), BindsTo s fd ⟨[v], []⟩ [("script", v)]) ∧ ∀ base : Heap, K.In base → base.Ns mainGlobals mg → FnOk l.prog w K mg base CX0 11 fa fd ["script"] (sp_law K) := by
  have e : fa = f62 := Value.ref.inj (Option.some.inj (hfa.symm.trans (PySem.W.mg_of X G a62)))
  rw [e]
  have T : Txt K mg { C_SaggarError := C_SaggarError, C_NoRoom := C_NoRoom, C_NoNumber := C_NoNumber, C_Wrong := C_Wrong, C_Store := C_Store, C_Space := C_Space, f_NoRoom___init__ := f0, d_NoRoom___init__ := _, f_NoNumber___init__ := f1, d_NoNumber___init__ := _, f_Wrong___init__ := f2, d_Wrong___init__ := _, f_is_ref := f3, d_is_ref := _, f_Store___init__ := f4, d_Store___init__ := _, f_Store_used := f5, d_Store_used := _, f_Store_exists := f6, d_Store_exists := _, f_Store_numbers := f7, d_Store_numbers := _, f_Store_free_number := f8, d_Store_free_number := _, f_Store_allocate := f9, d_Store_allocate := _, f_Store_size := f10, d_Store_size := _, f_Store_kind := f11, d_Store_kind := _, f_Store_set_kind := f12, d_Store_set_kind := _, f_Store_get := f13, d_Store_get := _, f_Store_put := f14, d_Store_put := _, f_Store_slots := f15, d_Store_slots := _, f_Store_drop := f16, d_Store_drop := _, f_Store_close_up := f17, d_Store_close_up := _, f_Store_snapshot := f18, d_Store_snapshot := _, f_Store_restore := f19, d_Store_restore := _, f_Store_exchange := f20, d_Store_exchange := _, f_reached := f21, d_reached := _, f_words_of := f22, d_words_of := _, f_collect := f23, d_collect := _, f_Space___init__ := f24, d_Space___init__ := _, f_Space_press := f25, d_Space_press := _, f_Space_root := f26, d_Space_root := _, f_Space_set_root := f27, d_Space_set_root := _, f_Space_hold := f28, d_Space_hold := _, f_Space_drop := f29, d_Space_drop := _, f_Space_held := f30, d_Space_held := _, f_Space_all_roots := f31, d_Space_all_roots := _, f_Space_collect := f32, d_Space_collect := _, f_Space_live_words := f33, d_Space_live_words := _, f_Space_new := f34, d_Space_new := _, f_Space_begin := f35, d_Space_begin := _, f_Space_commit := f36, d_Space_commit := _, f_Space_abort := f37, d_Space_abort := _, f_Space__collect_beside := f38, d_Space__collect_beside := _, f__law_number := f39, d__law_number := _, f__law_deeds := f40, d__law_deeds := _, f__law_place := f41, d__law_place := _, f__law_word := f42, d__law_word := _, f__law_shown := f43, d__law_shown := _, f__law_new := f44, d__law_new := _, f__law_held := f45, d__law_held := _, f__law_changed := f46, d__law_changed := _, f__law_work := f47, d__law_work := _, f__law_done := f48, d__law_done := _, f__law_equal := f49, d__law_equal := _, f__law_paired := f50, d__law_paired := _, f__law_alike := f51, d__law_alike := _, f__law_row := f52, d__law_row := _, f__law_state := f53, d__law_state := _, f__law_collected := f54, d__law_collected := _, f__law_both := f55, d__law_both := _, f__law_begun := f56, d__law_begun := _, f__law_grown := f57, d__law_grown := _, f__law_first := f58, d__law_first := _, f__law_undone := f59, d__law_undone := _, f__law_pressed := f60, d__law_pressed := _, f__law_limits := f61, d__law_limits := _, f_law := f62, d_law := _, t_NIL := t_NIL, t_HEADER := t_HEADER, t_ROOTS := t_ROOTS } := {
      m_SaggarError := PySem.W.mg_of X G m_SaggarError,
      m_NoRoom := PySem.W.mg_of X G m_NoRoom,
      m_NoNumber := PySem.W.mg_of X G m_NoNumber,
      m_Wrong := PySem.W.mg_of X G m_Wrong,
      m_Store := PySem.W.mg_of X G m_Store,
      m_Space := PySem.W.mg_of X G m_Space,
      x_NoRoom := ⟨⟨⟨_, _, _, _, _, _, _, _, _, _, _, _, _, _, _, xl_NoRoom, by rfl⟩, sa_NoRoom, ec_NoRoom, tc_NoRoom, kc_NoRoom⟩, ⟨ga_NoRoom, gg_NoRoom, ec_NoRoom, hc_NoRoom⟩, ic_NoRoom, ti_NoRoom, ha_NoRoom, hn_NoRoom, ht_NoRoom, hm_NoRoom⟩,
      no_NoRoom_need := no_NoRoom_need,
      ex_NoRoom_NoNumber := ex_NoRoom_NoNumber,
      ex_NoRoom_NoRoom := ex_NoRoom_NoRoom,
      ex_NoRoom_SaggarError := ex_NoRoom_SaggarError,
      ex_NoRoom_Wrong := ex_NoRoom_Wrong,
      kit_NoRoom_Wrong := kit_NoRoom_Wrong,
      x_NoNumber := ⟨⟨⟨_, _, _, _, _, _, _, _, _, _, _, _, _, _, _, xl_NoNumber, by rfl⟩, sa_NoNumber, ec_NoNumber, tc_NoNumber, kc_NoNumber⟩, ⟨ga_NoNumber, gg_NoNumber, ec_NoNumber, hc_NoNumber⟩, ic_NoNumber, ti_NoNumber, ha_NoNumber, hn_NoNumber, ht_NoNumber, hm_NoNumber⟩,
      no_NoNumber_limit := no_NoNumber_limit,
      ex_NoNumber_NoNumber := ex_NoNumber_NoNumber,
      ex_NoNumber_NoRoom := ex_NoNumber_NoRoom,
      ex_NoNumber_SaggarError := ex_NoNumber_SaggarError,
      ex_NoNumber_Wrong := ex_NoNumber_Wrong,
      kit_NoNumber_Wrong := kit_NoNumber_Wrong,
      x_Wrong := ⟨⟨⟨_, _, _, _, _, _, _, _, _, _, _, _, _, _, _, xl_Wrong, by rfl⟩, sa_Wrong, ec_Wrong, tc_Wrong, kc_Wrong⟩, ⟨ga_Wrong, gg_Wrong, ec_Wrong, hc_Wrong⟩, ic_Wrong, ti_Wrong, ha_Wrong, hn_Wrong, ht_Wrong, hm_Wrong⟩,
      no_Wrong_why := no_Wrong_why,
      ex_Wrong_NoNumber := ex_Wrong_NoNumber,
      ex_Wrong_NoRoom := ex_Wrong_NoRoom,
      ex_Wrong_SaggarError := ex_Wrong_SaggarError,
      ex_Wrong_Wrong := ex_Wrong_Wrong,
      kit_Wrong_Wrong := kit_Wrong_Wrong,
      cl_Store := ⟨pg_Store, hd_Store, po_Store, sa_Store⟩,
      mk_Store := ⟨mi_Store, a4, i4, kc_Store⟩,
      no_Store_room := no_Store_room,
      no_Store_entries := no_Store_entries,
      no_Store_words := no_Store_words,
      no_Store__places := no_Store__places,
      no_Store__free := no_Store__free,
      no_Store__fresh := no_Store__fresh,
      cl_Space := ⟨pg_Space, hd_Space, po_Space, sa_Space⟩,
      mk_Space := ⟨mi_Space, a24, i24, kc_Space⟩,
      no_Space_store := no_Space_store,
      no_Space_always := no_Space_always,
      no_Space_pressure := no_Space_pressure,
      no_Space_allocations := no_Space_allocations,
      no_Space_collections := no_Space_collections,
      no_Space__roots := no_Space__roots,
      no_Space__held := no_Space__held,
      no_Space__moments := no_Space__moments,
      no_Space__work := no_Space__work,
      k_NoRoom___init__ := k0,
      F_NoRoom___init__ := fun_mk (st := s_NoRoom___init__) l0 c0 k0,
      b_NoRoom___init__ := (fun_mk (st := s_NoRoom___init__) l0 c0 k0).binds (fun _ _ _ _ _ _ us hl => match us, hl with | [_, _], _ => rfl),
      k_NoNumber___init__ := k1,
      F_NoNumber___init__ := fun_mk (st := s_NoNumber___init__) l1 c1 k1,
      b_NoNumber___init__ := (fun_mk (st := s_NoNumber___init__) l1 c1 k1).binds (fun _ _ _ _ _ _ us hl => match us, hl with | [_, _], _ => rfl),
      k_Wrong___init__ := k2,
      F_Wrong___init__ := fun_mk (st := s_Wrong___init__) l2 c2 k2,
      b_Wrong___init__ := (fun_mk (st := s_Wrong___init__) l2 c2 k2).binds (fun _ _ _ _ _ _ us hl => match us, hl with | [_, _], _ => rfl),
      g_is_ref := PySem.W.mg_of X G a3,
      k_is_ref := k3,
      F_is_ref := fun_mk (st := s_is_ref) l3 c3 k3,
      b_is_ref := (fun_mk (st := s_is_ref) l3 c3 k3).binds (fun _ _ _ _ _ _ us hl => match us, hl with | [_], _ => rfl),
      k_Store___init__ := k4,
      F_Store___init__ := fun_mk (st := s_Store___init__) l4 c4 k4,
      b_Store___init__ := (fun_mk (st := s_Store___init__) l4 c4 k4).binds (fun _ _ _ _ _ _ us hl => match us, hl with | [_, _, _], _ => rfl),
      me_Store_used := ⟨a5, i5, k5⟩,
      k_Store_used := k5,
      F_Store_used := fun_mk (st := s_Store_used) l5 c5 k5,
      b_Store_used := (fun_mk (st := s_Store_used) l5 c5 k5).binds (fun _ _ _ _ _ _ us hl => match us, hl with | [_], _ => rfl),
      me_Store_exists := ⟨a6, i6, k6⟩,
      k_Store_exists := k6,
      F_Store_exists := fun_mk (st := s_Store_exists) l6 c6 k6,
      b_Store_exists := (fun_mk (st := s_Store_exists) l6 c6 k6).binds (fun _ _ _ _ _ _ us hl => match us, hl with | [_, _], _ => rfl),
      me_Store_numbers := ⟨a7, i7, k7⟩,
      k_Store_numbers := k7,
      F_Store_numbers := fun_mk (st := s_Store_numbers) l7 c7 k7,
      b_Store_numbers := (fun_mk (st := s_Store_numbers) l7 c7 k7).binds (fun _ _ _ _ _ _ us hl => match us, hl with | [_], _ => rfl),
      me_Store_free_number := ⟨a8, i8, k8⟩,
      k_Store_free_number := k8,
      F_Store_free_number := fun_mk (st := s_Store_free_number) l8 c8 k8,
      b_Store_free_number := (fun_mk (st := s_Store_free_number) l8 c8 k8).binds (fun _ _ _ _ _ _ us hl => match us, hl with | [_], _ => rfl),
      me_Store_allocate := ⟨a9, i9, k9⟩,
      k_Store_allocate := k9,
      F_Store_allocate := fun_mk (st := s_Store_allocate) l9 c9 k9,
      b_Store_allocate := (fun_mk (st := s_Store_allocate) l9 c9 k9).binds (fun _ _ _ _ _ _ us hl => match us, hl with | [_, _, _], _ => rfl),
      me_Store_size := ⟨a10, i10, k10⟩,
      k_Store_size := k10,
      F_Store_size := fun_mk (st := s_Store_size) l10 c10 k10,
      b_Store_size := (fun_mk (st := s_Store_size) l10 c10 k10).binds (fun _ _ _ _ _ _ us hl => match us, hl with | [_, _], _ => rfl),
      me_Store_kind := ⟨a11, i11, k11⟩,
      k_Store_kind := k11,
      F_Store_kind := fun_mk (st := s_Store_kind) l11 c11 k11,
      b_Store_kind := (fun_mk (st := s_Store_kind) l11 c11 k11).binds (fun _ _ _ _ _ _ us hl => match us, hl with | [_, _], _ => rfl),
      me_Store_set_kind := ⟨a12, i12, k12⟩,
      k_Store_set_kind := k12,
      F_Store_set_kind := fun_mk (st := s_Store_set_kind) l12 c12 k12,
      b_Store_set_kind := (fun_mk (st := s_Store_set_kind) l12 c12 k12).binds (fun _ _ _ _ _ _ us hl => match us, hl with | [_, _, _], _ => rfl),
      me_Store_get := ⟨a13, i13, k13⟩,
      k_Store_get := k13,
      F_Store_get := fun_mk (st := s_Store_get) l13 c13 k13,
      b_Store_get := (fun_mk (st := s_Store_get) l13 c13 k13).binds (fun _ _ _ _ _ _ us hl => match us, hl with | [_, _, _], _ => rfl),
      me_Store_put := ⟨a14, i14, k14⟩,
      k_Store_put := k14,
      F_Store_put := fun_mk (st := s_Store_put) l14 c14 k14,
      b_Store_put := (fun_mk (st := s_Store_put) l14 c14 k14).binds (fun _ _ _ _ _ _ us hl => match us, hl with | [_, _, _, _], _ => rfl),
      me_Store_slots := ⟨a15, i15, k15⟩,
      k_Store_slots := k15,
      F_Store_slots := fun_mk (st := s_Store_slots) l15 c15 k15,
      b_Store_slots := (fun_mk (st := s_Store_slots) l15 c15 k15).binds (fun _ _ _ _ _ _ us hl => match us, hl with | [_, _], _ => rfl),
      me_Store_drop := ⟨a16, i16, k16⟩,
      k_Store_drop := k16,
      F_Store_drop := fun_mk (st := s_Store_drop) l16 c16 k16,
      b_Store_drop := (fun_mk (st := s_Store_drop) l16 c16 k16).binds (fun _ _ _ _ _ _ us hl => match us, hl with | [_, _], _ => rfl),
      me_Store_close_up := ⟨a17, i17, k17⟩,
      k_Store_close_up := k17,
      F_Store_close_up := fun_mk (st := s_Store_close_up) l17 c17 k17,
      b_Store_close_up := (fun_mk (st := s_Store_close_up) l17 c17 k17).binds (fun _ _ _ _ _ _ us hl => match us, hl with | [_], _ => rfl),
      me_Store_snapshot := ⟨a18, i18, k18⟩,
      k_Store_snapshot := k18,
      F_Store_snapshot := fun_mk (st := s_Store_snapshot) l18 c18 k18,
      b_Store_snapshot := (fun_mk (st := s_Store_snapshot) l18 c18 k18).binds (fun _ _ _ _ _ _ us hl => match us, hl with | [_], _ => rfl),
      me_Store_restore := ⟨a19, i19, k19⟩,
      k_Store_restore := k19,
      F_Store_restore := fun_mk (st := s_Store_restore) l19 c19 k19,
      b_Store_restore := (fun_mk (st := s_Store_restore) l19 c19 k19).binds (fun _ _ _ _ _ _ us hl => match us, hl with | [_, _], _ => rfl),
      me_Store_exchange := ⟨a20, i20, k20⟩,
      k_Store_exchange := k20,
      F_Store_exchange := fun_mk (st := s_Store_exchange) l20 c20 k20,
      b_Store_exchange := (fun_mk (st := s_Store_exchange) l20 c20 k20).binds (fun _ _ _ _ _ _ us hl => match us, hl with | [_, _, _], _ => rfl),
      g_reached := PySem.W.mg_of X G a21,
      k_reached := k21,
      F_reached := fun_mk (st := s_reached) l21 c21 k21,
      b_reached := (fun_mk (st := s_reached) l21 c21 k21).binds (fun _ _ _ _ _ _ us hl => match us, hl with | [_, _], _ => rfl),
      g_words_of := PySem.W.mg_of X G a22,
      k_words_of := k22,
      F_words_of := fun_mk (st := s_words_of) l22 c22 k22,
      b_words_of := (fun_mk (st := s_words_of) l22 c22 k22).binds (fun _ _ _ _ _ _ us hl => match us, hl with | [_, _], _ => rfl),
      g_collect := PySem.W.mg_of X G a23,
      k_collect := k23,
      F_collect := fun_mk (st := s_collect) l23 c23 k23,
      b_collect := (fun_mk (st := s_collect) l23 c23 k23).binds (fun _ _ _ _ _ _ us hl => match us, hl with | [_, _], _ => rfl),
      k_Space___init__ := k24,
      F_Space___init__ := fun_mk (st := s_Space___init__) l24 c24 k24,
      b_Space___init__ := (fun_mk (st := s_Space___init__) l24 c24 k24).binds (fun _ _ _ _ _ _ us hl => match us, hl with | [_, _, _], _ => rfl),
      me_Space_press := ⟨a25, i25, k25⟩,
      k_Space_press := k25,
      F_Space_press := (show FunD K "press" "Space.press" (defArgs s_Space_press) (defBody s_Space_press) (defScope s_Space_press) [] [("always", .bl false)] f25 _ from ⟨⟨_, _, _, _, _, _, _, _, _, _, rfl, l25, c25, .inl ⟨rfl, rfl⟩, .inr ⟨D25, rfl, (fun q hq => by
        simp only [List.mem_cons, List.not_mem_nil, or_false] at hq
        subst hq
        · exact ⟨_, kd25_always, rfl⟩)⟩⟩, k25⟩),
      kb_Space_press := FunD.kbinds0 (show FunD K "press" "Space.press" (defArgs s_Space_press) (defBody s_Space_press) (defScope s_Space_press) [] [("always", .bl false)] f25 _ from ⟨⟨_, _, _, _, _, _, _, _, _, _, rfl, l25, c25, .inl ⟨rfl, rfl⟩, .inr ⟨D25, rfl, (fun q hq => by
        simp only [List.mem_cons, List.not_mem_nil, or_false] at hq
        subst hq
        · exact ⟨_, kd25_always, rfl⟩)⟩⟩, k25⟩) 2 ["always"] (fun _ _ _ _ _ _ us ws h1 h2 => match us, ws, h1, h2 with | [_, _], [_], _, _ => rfl),
      bd_Space_press := FunD.binds0 (ps := ["self", "moments", "always"]) (show FunD K "press" "Space.press" (defArgs s_Space_press) (defBody s_Space_press) (defScope s_Space_press) [] [("always", .bl false)] f25 _ from ⟨⟨_, _, _, _, _, _, _, _, _, _, rfl, l25, c25, .inl ⟨rfl, rfl⟩, .inr ⟨D25, rfl, (fun q hq => by
        simp only [List.mem_cons, List.not_mem_nil, or_false] at hq
        subst hq
        · exact ⟨_, kd25_always, rfl⟩)⟩⟩, k25⟩) 2 (by simp) (by decide) (fun _ _ _ _ _ _ us ks h1 h2 => match us, ks, h1, h2 with | [_, _], [_], _, _ => ⟨_, _, _, _, _, _, rfl, rfl, rfl⟩),
      me_Space_root := ⟨a26, i26, k26⟩,
      k_Space_root := k26,
      F_Space_root := fun_mk (st := s_Space_root) l26 c26 k26,
      b_Space_root := (fun_mk (st := s_Space_root) l26 c26 k26).binds (fun _ _ _ _ _ _ us hl => match us, hl with | [_, _], _ => rfl),
      me_Space_set_root := ⟨a27, i27, k27⟩,
      k_Space_set_root := k27,
      F_Space_set_root := fun_mk (st := s_Space_set_root) l27 c27 k27,
      b_Space_set_root := (fun_mk (st := s_Space_set_root) l27 c27 k27).binds (fun _ _ _ _ _ _ us hl => match us, hl with | [_, _, _], _ => rfl),
      me_Space_hold := ⟨a28, i28, k28⟩,
      k_Space_hold := k28,
      F_Space_hold := fun_mk (st := s_Space_hold) l28 c28 k28,
      b_Space_hold := (fun_mk (st := s_Space_hold) l28 c28 k28).binds (fun _ _ _ _ _ _ us hl => match us, hl with | [_, _], _ => rfl),
      me_Space_drop := ⟨a29, i29, k29⟩,
      k_Space_drop := k29,
      F_Space_drop := fun_mk (st := s_Space_drop) l29 c29 k29,
      b_Space_drop := (fun_mk (st := s_Space_drop) l29 c29 k29).binds (fun _ _ _ _ _ _ us hl => match us, hl with | [_, _], _ => rfl),
      me_Space_held := ⟨a30, i30, k30⟩,
      k_Space_held := k30,
      F_Space_held := fun_mk (st := s_Space_held) l30 c30 k30,
      b_Space_held := (fun_mk (st := s_Space_held) l30 c30 k30).binds (fun _ _ _ _ _ _ us hl => match us, hl with | [_], _ => rfl),
      me_Space_all_roots := ⟨a31, i31, k31⟩,
      k_Space_all_roots := k31,
      F_Space_all_roots := fun_mk (st := s_Space_all_roots) l31 c31 k31,
      b_Space_all_roots := (fun_mk (st := s_Space_all_roots) l31 c31 k31).binds (fun _ _ _ _ _ _ us hl => match us, hl with | [_], _ => rfl),
      me_Space_collect := ⟨a32, i32, k32⟩,
      k_Space_collect := k32,
      F_Space_collect := fun_mk (st := s_Space_collect) l32 c32 k32,
      b_Space_collect := (fun_mk (st := s_Space_collect) l32 c32 k32).binds (fun _ _ _ _ _ _ us hl => match us, hl with | [_], _ => rfl),
      me_Space_live_words := ⟨a33, i33, k33⟩,
      k_Space_live_words := k33,
      F_Space_live_words := fun_mk (st := s_Space_live_words) l33 c33 k33,
      b_Space_live_words := (fun_mk (st := s_Space_live_words) l33 c33 k33).binds (fun _ _ _ _ _ _ us hl => match us, hl with | [_], _ => rfl),
      me_Space_new := ⟨a34, i34, k34⟩,
      k_Space_new := k34,
      F_Space_new := fun_mk (st := s_Space_new) l34 c34 k34,
      b_Space_new := (fun_mk (st := s_Space_new) l34 c34 k34).binds (fun _ _ _ _ _ _ us hl => match us, hl with | [_, _, _], _ => rfl),
      me_Space_begin := ⟨a35, i35, k35⟩,
      k_Space_begin := k35,
      F_Space_begin := fun_mk (st := s_Space_begin) l35 c35 k35,
      b_Space_begin := (fun_mk (st := s_Space_begin) l35 c35 k35).binds (fun _ _ _ _ _ _ us hl => match us, hl with | [_], _ => rfl),
      me_Space_commit := ⟨a36, i36, k36⟩,
      k_Space_commit := k36,
      F_Space_commit := fun_mk (st := s_Space_commit) l36 c36 k36,
      b_Space_commit := (fun_mk (st := s_Space_commit) l36 c36 k36).binds (fun _ _ _ _ _ _ us hl => match us, hl with | [_], _ => rfl),
      me_Space_abort := ⟨a37, i37, k37⟩,
      k_Space_abort := k37,
      F_Space_abort := fun_mk (st := s_Space_abort) l37 c37 k37,
      b_Space_abort := (fun_mk (st := s_Space_abort) l37 c37 k37).binds (fun _ _ _ _ _ _ us hl => match us, hl with | [_], _ => rfl),
      me_Space__collect_beside := ⟨a38, i38, k38⟩,
      k_Space__collect_beside := k38,
      F_Space__collect_beside := fun_mk (st := s_Space__collect_beside) l38 c38 k38,
      b_Space__collect_beside := (fun_mk (st := s_Space__collect_beside) l38 c38 k38).binds (fun _ _ _ _ _ _ us hl => match us, hl with | [_, _], _ => rfl),
      g__law_number := PySem.W.mg_of X G a39,
      k__law_number := k39,
      F__law_number := fun_mk (st := s__law_number) l39 c39 k39,
      b__law_number := (fun_mk (st := s__law_number) l39 c39 k39).binds (fun _ _ _ _ _ _ us hl => match us, hl with | [_, _], _ => rfl),
      g__law_deeds := PySem.W.mg_of X G a40,
      k__law_deeds := k40,
      F__law_deeds := fun_mk (st := s__law_deeds) l40 c40 k40,
      b__law_deeds := (fun_mk (st := s__law_deeds) l40 c40 k40).binds (fun _ _ _ _ _ _ us hl => match us, hl with | [_, _], _ => rfl),
      g__law_place := PySem.W.mg_of X G a41,
      k__law_place := k41,
      F__law_place := fun_mk (st := s__law_place) l41 c41 k41,
      b__law_place := (fun_mk (st := s__law_place) l41 c41 k41).binds (fun _ _ _ _ _ _ us hl => match us, hl with | [_], _ => rfl),
      g__law_word := PySem.W.mg_of X G a42,
      k__law_word := k42,
      F__law_word := fun_mk (st := s__law_word) l42 c42 k42,
      b__law_word := (fun_mk (st := s__law_word) l42 c42 k42).binds (fun _ _ _ _ _ _ us hl => match us, hl with | [_, _], _ => rfl),
      g__law_shown := PySem.W.mg_of X G a43,
      k__law_shown := k43,
      F__law_shown := fun_mk (st := s__law_shown) l43 c43 k43,
      b__law_shown := (fun_mk (st := s__law_shown) l43 c43 k43).binds (fun _ _ _ _ _ _ us hl => match us, hl with | [_], _ => rfl),
      g__law_new := PySem.W.mg_of X G a44,
      k__law_new := k44,
      F__law_new := fun_mk (st := s__law_new) l44 c44 k44,
      b__law_new := (fun_mk (st := s__law_new) l44 c44 k44).binds (fun _ _ _ _ _ _ us hl => match us, hl with | [_, _, _, _], _ => rfl),
      g__law_held := PySem.W.mg_of X G a45,
      k__law_held := k45,
      F__law_held := fun_mk (st := s__law_held) l45 c45 k45,
      b__law_held := (fun_mk (st := s__law_held) l45 c45 k45).binds (fun _ _ _ _ _ _ us hl => match us, hl with | [_, _, _, _], _ => rfl),
      g__law_changed := PySem.W.mg_of X G a46,
      k__law_changed := k46,
      F__law_changed := fun_mk (st := s__law_changed) l46 c46 k46,
      b__law_changed := (fun_mk (st := s__law_changed) l46 c46 k46).binds (fun _ _ _ _ _ _ us hl => match us, hl with | [_, _, _, _], _ => rfl),
      g__law_work := PySem.W.mg_of X G a47,
      k__law_work := k47,
      F__law_work := fun_mk (st := s__law_work) l47 c47 k47,
      b__law_work := (fun_mk (st := s__law_work) l47 c47 k47).binds (fun _ _ _ _ _ _ us hl => match us, hl with | [_, _], _ => rfl),
      g__law_done := PySem.W.mg_of X G a48,
      k__law_done := k48,
      F__law_done := fun_mk (st := s__law_done) l48 c48 k48,
      b__law_done := (fun_mk (st := s__law_done) l48 c48 k48).binds (fun _ _ _ _ _ _ us hl => match us, hl with | [_, _], _ => rfl),
      g__law_equal := PySem.W.mg_of X G a49,
      k__law_equal := k49,
      F__law_equal := fun_mk (st := s__law_equal) l49 c49 k49,
      b__law_equal := (fun_mk (st := s__law_equal) l49 c49 k49).binds (fun _ _ _ _ _ _ us hl => match us, hl with | [_, _], _ => rfl),
      g__law_paired := PySem.W.mg_of X G a50,
      k__law_paired := k50,
      F__law_paired := fun_mk (st := s__law_paired) l50 c50 k50,
      b__law_paired := (fun_mk (st := s__law_paired) l50 c50 k50).binds (fun _ _ _ _ _ _ us hl => match us, hl with | [_, _, _, _, _, _], _ => rfl),
      g__law_alike := PySem.W.mg_of X G a51,
      k__law_alike := k51,
      F__law_alike := fun_mk (st := s__law_alike) l51 c51 k51,
      b__law_alike := (fun_mk (st := s__law_alike) l51 c51 k51).binds (fun _ _ _ _ _ _ us hl => match us, hl with | [_, _], _ => rfl),
      g__law_row := PySem.W.mg_of X G a52,
      k__law_row := k52,
      F__law_row := fun_mk (st := s__law_row) l52 c52 k52,
      b__law_row := (fun_mk (st := s__law_row) l52 c52 k52).binds (fun _ _ _ _ _ _ us hl => match us, hl with | [_, _], _ => rfl),
      g__law_state := PySem.W.mg_of X G a53,
      k__law_state := k53,
      F__law_state := fun_mk (st := s__law_state) l53 c53 k53,
      b__law_state := (fun_mk (st := s__law_state) l53 c53 k53).binds (fun _ _ _ _ _ _ us hl => match us, hl with | [_], _ => rfl),
      g__law_collected := PySem.W.mg_of X G a54,
      k__law_collected := k54,
      F__law_collected := fun_mk (st := s__law_collected) l54 c54 k54,
      b__law_collected := (fun_mk (st := s__law_collected) l54 c54 k54).binds (fun _ _ _ _ _ _ us hl => match us, hl with | [_], _ => rfl),
      g__law_both := PySem.W.mg_of X G a55,
      k__law_both := k55,
      F__law_both := fun_mk (st := s__law_both) l55 c55 k55,
      b__law_both := (fun_mk (st := s__law_both) l55 c55 k55).binds (fun _ _ _ _ _ _ us hl => match us, hl with | [_, _], _ => rfl),
      g__law_begun := PySem.W.mg_of X G a56,
      k__law_begun := k56,
      F__law_begun := fun_mk (st := s__law_begun) l56 c56 k56,
      b__law_begun := (fun_mk (st := s__law_begun) l56 c56 k56).binds (fun _ _ _ _ _ _ us hl => match us, hl with | [_, _, _], _ => rfl),
      g__law_grown := PySem.W.mg_of X G a57,
      k__law_grown := k57,
      F__law_grown := fun_mk (st := s__law_grown) l57 c57 k57,
      b__law_grown := (fun_mk (st := s__law_grown) l57 c57 k57).binds (fun _ _ _ _ _ _ us hl => match us, hl with | [_, _, _, _, _], _ => rfl),
      g__law_first := PySem.W.mg_of X G a58,
      k__law_first := k58,
      F__law_first := fun_mk (st := s__law_first) l58 c58 k58,
      b__law_first := (fun_mk (st := s__law_first) l58 c58 k58).binds (fun _ _ _ _ _ _ us hl => match us, hl with | [_, _, _, _], _ => rfl),
      g__law_undone := PySem.W.mg_of X G a59,
      k__law_undone := k59,
      F__law_undone := fun_mk (st := s__law_undone) l59 c59 k59,
      b__law_undone := (fun_mk (st := s__law_undone) l59 c59 k59).binds (fun _ _ _ _ _ _ us hl => match us, hl with | [_], _ => rfl),
      g__law_pressed := PySem.W.mg_of X G a60,
      k__law_pressed := k60,
      F__law_pressed := fun_mk (st := s__law_pressed) l60 c60 k60,
      b__law_pressed := (fun_mk (st := s__law_pressed) l60 c60 k60).binds (fun _ _ _ _ _ _ us hl => match us, hl with | [_, _, _], _ => rfl),
      g__law_limits := PySem.W.mg_of X G a61,
      k__law_limits := k61,
      F__law_limits := fun_mk (st := s__law_limits) l61 c61 k61,
      b__law_limits := (fun_mk (st := s__law_limits) l61 c61 k61).binds (fun _ _ _ _ _ _ us hl => match us, hl with | [_], _ => rfl),
      g_law := PySem.W.mg_of X G a62,
      k_law := k62,
      F_law := fun_mk (st := s_law) l62 c62 k62,
      b_law := (fun_mk (st := s_law) l62 c62 k62).binds (fun _ _ _ _ _ _ us hl => match us, hl with | [_], _ => rfl),
      c_NIL := PySem.W.mg_of X G q_NIL,
      c_HEADER := PySem.W.mg_of X G q_HEADER,
      c_ROOTS := PySem.W.mg_of X G q_ROOTS,
      al_collect_collecting := PySem.W.mg_of X G al_collect_collecting,
      h_heappop := PySem.W.mg_of X G h_heappop,
      h_heappush := PySem.W.mg_of X G h_heappush,
      z_ValueError := PySem.W.mg_none_of X G z_ValueError,
      z_bool := PySem.W.mg_none_of X G z_bool,
      z_int := PySem.W.mg_none_of X G z_int,
      z_isinstance := PySem.W.mg_none_of X G z_isinstance,
      z_len := PySem.W.mg_none_of X G z_len,
      z_list := PySem.W.mg_none_of X G z_list,
      z_range := PySem.W.mg_none_of X G z_range,
      z_sorted := PySem.W.mg_none_of X G z_sorted,
      z_sum := PySem.W.mg_none_of X G z_sum }
  exact ⟨_, fun s v => .of_eq rfl, fun base _ _ => ok_law T⟩
theorem walk {l : PySem.W.OpenLaw} {q : Program} {loose : List Str} {XP : (Str → Option Value) → Heap → Prop} {YP : World → Heap → Prop} {d : DefRec} {K : Params → PySem.W.Frag} (hn : l.most = some 63) (hdf : d.params.defaults = [])
    (hY : ∀ (w : World) (h : Heap), YP w h → (K w.params).In h)
    (F : ∀ (w : World) (mg : Str → Option Value) (fa : Addr) (h : Heap), (K w.params).In h → h.Ns mainGlobals mg → mg d.name = some (.ref fa) →
      ∃ fd : FuncData, (∀ (s : Shared) (u : Value), BindsTo s fd ⟨[u], []⟩ [("script", u)]) ∧ ∀ base : Heap, (K w.params).In base → base.Ns mainGlobals mg → FnOk l.prog w (K w.params) mg base CX0 11 fa fd ["script"] (sp_law (K w.params))) :
    PySem.W.WalkO q loose XP YP l.row.toRowW d [] (fun f vs => PySem.call f vs) :=
  L2.walk_of (n := 63) (k := 11) (x := "script") (CX := fun _ => CX0) (sp := fun w => sp_law (K w.params)) hn (by decide) hdf ⟨rfl, by decide, by decide⟩ hY F (fun _ _ a ns hl _ hS => ⟨a, ns, rfl, hS, hl, fun _ => rfl⟩) fun _ _ _ _ _ z => z

end My
open PySem PySem.W PyProof.Rows
set_option maxRecDepth 100000 in
set_option maxHeartbeats 0 in
theorem PySem.Challenge.cw_saggar_k09_whole_undone_work_leaves_no_t_holds : PySem.Challenge.rw_saggar_k09_whole_undone_work_leaves_no_t.Holds := by
  w_on; o_law; k_head; (case hw => w_witness2)
  k_fill
  refine My.walk (l := PySem.Challenge.rw_saggar_k09_whole_undone_work_leaves_no_t) rfl rfl (fun w h Y => PySem.W.kIn_of Y) ?F
  case F =>
    intro w mg fa h KX G hmg
    refine' My.all_mk KX G hmg ?m_SaggarError ?m_NoRoom ?m_NoNumber ?m_Wrong ?m_Store ?m_Space ?xl_NoRoom ?sa_NoRoom ?ga_NoRoom ?gg_NoRoom ?ic_NoRoom ?ti_NoRoom ?kc_NoRoom ?ec_NoRoom ?tc_NoRoom ?hc_NoRoom ?ha_NoRoom ?hn_NoRoom ?ht_NoRoom ?hm_NoRoom ?no_NoRoom_need ?ex_NoRoom_NoNumber ?ex_NoRoom_NoRoom ?ex_NoRoom_SaggarError ?ex_NoRoom_Wrong ?kit_NoRoom_Wrong ?xl_NoNumber ?sa_NoNumber ?ga_NoNumber ?gg_NoNumber ?ic_NoNumber ?ti_NoNumber ?kc_NoNumber ?ec_NoNumber ?tc_NoNumber ?hc_NoNumber ?ha_NoNumber ?hn_NoNumber ?ht_NoNumber ?hm_NoNumber ?no_NoNumber_limit ?ex_NoNumber_NoNumber ?ex_NoNumber_NoRoom ?ex_NoNumber_SaggarError ?ex_NoNumber_Wrong ?kit_NoNumber_Wrong ?xl_Wrong ?sa_Wrong ?ga_Wrong ?gg_Wrong ?ic_Wrong ?ti_Wrong ?kc_Wrong ?ec_Wrong ?tc_Wrong ?hc_Wrong ?ha_Wrong ?hn_Wrong ?ht_Wrong ?hm_Wrong ?no_Wrong_why ?ex_Wrong_NoNumber ?ex_Wrong_NoRoom ?ex_Wrong_SaggarError ?ex_Wrong_Wrong ?kit_Wrong_Wrong ?pg_Store ?hd_Store ?po_Store ?sa_Store ?mi_Store ?kc_Store ?no_Store_room ?no_Store_entries ?no_Store_words ?no_Store__places ?no_Store__free ?no_Store__fresh ?pg_Space ?hd_Space ?po_Space ?sa_Space ?mi_Space ?kc_Space ?no_Space_store ?no_Space_always ?no_Space_pressure ?no_Space_allocations ?no_Space_collections ?no_Space__roots ?no_Space__held ?no_Space__moments ?no_Space__work ?l0 ?c0 ?k0 ?l1 ?c1 ?k1 ?l2 ?c2 ?k2 ?a3 ?l3 ?c3 ?k3 ?a4 ?i4 ?l4 ?c4 ?k4 ?a5 ?i5 ?l5 ?c5 ?k5 ?a6 ?i6 ?l6 ?c6 ?k6 ?a7 ?i7 ?l7 ?c7 ?k7 ?a8 ?i8 ?l8 ?c8 ?k8 ?a9 ?i9 ?l9 ?c9 ?k9 ?a10 ?i10 ?l10 ?c10 ?k10 ?a11 ?i11 ?l11 ?c11 ?k11 ?a12 ?i12 ?l12 ?c12 ?k12 ?a13 ?i13 ?l13 ?c13 ?k13 ?a14 ?i14 ?l14 ?c14 ?k14 ?a15 ?i15 ?l15 ?c15 ?k15 ?a16 ?i16 ?l16 ?c16 ?k16 ?a17 ?i17 ?l17 ?c17 ?k17 ?a18 ?i18 ?l18 ?c18 ?k18 ?a19 ?i19 ?l19 ?c19 ?k19 ?a20 ?i20 ?l20 ?c20 ?k20 ?a21 ?l21 ?c21 ?k21 ?a22 ?l22 ?c22 ?k22 ?a23 ?l23 ?c23 ?k23 ?a24 ?i24 ?l24 ?c24 ?k24 ?a25 ?i25 ?l25 ?c25 ?k25 ?kd25_always ?a26 ?i26 ?l26 ?c26 ?k26 ?a27 ?i27 ?l27 ?c27 ?k27 ?a28 ?i28 ?l28 ?c28 ?k28 ?a29 ?i29 ?l29 ?c29 ?k29 ?a30 ?i30 ?l30 ?c30 ?k30 ?a31 ?i31 ?l31 ?c31 ?k31 ?a32 ?i32 ?l32 ?c32 ?k32 ?a33 ?i33 ?l33 ?c33 ?k33 ?a34 ?i34 ?l34 ?c34 ?k34 ?a35 ?i35 ?l35 ?c35 ?k35 ?a36 ?i36 ?l36 ?c36 ?k36 ?a37 ?i37 ?l37 ?c37 ?k37 ?a38 ?i38 ?l38 ?c38 ?k38 ?a39 ?l39 ?c39 ?k39 ?a40 ?l40 ?c40 ?k40 ?a41 ?l41 ?c41 ?k41 ?a42 ?l42 ?c42 ?k42 ?a43 ?l43 ?c43 ?k43 ?a44 ?l44 ?c44 ?k44 ?a45 ?l45 ?c45 ?k45 ?a46 ?l46 ?c46 ?k46 ?a47 ?l47 ?c47 ?k47 ?a48 ?l48 ?c48 ?k48 ?a49 ?l49 ?c49 ?k49 ?a50 ?l50 ?c50 ?k50 ?a51 ?l51 ?c51 ?k51 ?a52 ?l52 ?c52 ?k52 ?a53 ?l53 ?c53 ?k53 ?a54 ?l54 ?c54 ?k54 ?a55 ?l55 ?c55 ?k55 ?a56 ?l56 ?c56 ?k56 ?a57 ?l57 ?c57 ?k57 ?a58 ?l58 ?c58 ?k58 ?a59 ?l59 ?c59 ?k59 ?a60 ?l60 ?c60 ?k60 ?a61 ?l61 ?c61 ?k61 ?a62 ?l62 ?c62 ?k62 ?q_NIL ?q_HEADER ?q_ROOTS ?al_collect_collecting ?h_heappop ?h_heappush ?z_ValueError ?z_bool ?z_int ?z_isinstance ?z_len ?z_list ?z_range ?z_sorted ?z_sum
    (case m_SaggarError => first | k_is | kit_is | kts_exm)
    (case m_NoRoom => first | k_is | kit_is | kts_exm)
    (case m_NoNumber => first | k_is | kit_is | kts_exm)
    (case m_Wrong => first | k_is | kit_is | kts_exm)
    (case m_Store => first | k_is | kit_is | kts_exm)
    (case m_Space => first | k_is | kit_is | kts_exm)
    (case xl_NoRoom => first | k_is | kit_is | kts_exm)
    (case sa_NoRoom => first | k_is | kit_is | kts_exm)
    (case ga_NoRoom => first | k_is | kit_is | kts_exm)
    (case gg_NoRoom => first | k_is | kit_is | kts_exm)
    (case ic_NoRoom => first | k_is | kit_is | kts_exm)
    (case ti_NoRoom => first | k_is | kit_is | kts_exm)
    (case kc_NoRoom => first | k_is | kit_is | kts_exm)
    (case ec_NoRoom => first | k_is | kit_is | kts_exm)
    (case tc_NoRoom => first | k_is | kit_is | kts_exm)
    (case hc_NoRoom => first | k_is | kit_is | kts_exm)
    (case ha_NoRoom => first | k_is | kit_is | kts_exm)
    (case hn_NoRoom => first | k_is | kit_is | kts_exm)
    (case ht_NoRoom => first | k_is | kit_is | kts_exm)
    (case hm_NoRoom => first | k_is | kit_is | kts_exm)
    (case no_NoRoom_need => first | k_is | kit_is | kts_exm)
    (case ex_NoRoom_NoNumber => first | k_is | kit_is | kts_exm)
    (case ex_NoRoom_NoRoom => first | k_is | kit_is | kts_exm)
    (case ex_NoRoom_SaggarError => first | k_is | kit_is | kts_exm)
    (case ex_NoRoom_Wrong => first | k_is | kit_is | kts_exm)
    (case kit_NoRoom_Wrong => first | k_is | kit_is | kts_exm)
    (case xl_NoNumber => first | k_is | kit_is | kts_exm)
    (case sa_NoNumber => first | k_is | kit_is | kts_exm)
    (case ga_NoNumber => first | k_is | kit_is | kts_exm)
    (case gg_NoNumber => first | k_is | kit_is | kts_exm)
    (case ic_NoNumber => first | k_is | kit_is | kts_exm)
    (case ti_NoNumber => first | k_is | kit_is | kts_exm)
    (case kc_NoNumber => first | k_is | kit_is | kts_exm)
    (case ec_NoNumber => first | k_is | kit_is | kts_exm)
    (case tc_NoNumber => first | k_is | kit_is | kts_exm)
    (case hc_NoNumber => first | k_is | kit_is | kts_exm)
    (case ha_NoNumber => first | k_is | kit_is | kts_exm)
    (case hn_NoNumber => first | k_is | kit_is | kts_exm)
    (case ht_NoNumber => first | k_is | kit_is | kts_exm)
    (case hm_NoNumber => first | k_is | kit_is | kts_exm)
    (case no_NoNumber_limit => first | k_is | kit_is | kts_exm)
    (case ex_NoNumber_NoNumber => first | k_is | kit_is | kts_exm)
    (case ex_NoNumber_NoRoom => first | k_is | kit_is | kts_exm)
    (case ex_NoNumber_SaggarError => first | k_is | kit_is | kts_exm)
    (case ex_NoNumber_Wrong => first | k_is | kit_is | kts_exm)
    (case kit_NoNumber_Wrong => first | k_is | kit_is | kts_exm)
    (case xl_Wrong => first | k_is | kit_is | kts_exm)
    (case sa_Wrong => first | k_is | kit_is | kts_exm)
    (case ga_Wrong => first | k_is | kit_is | kts_exm)
    (case gg_Wrong => first | k_is | kit_is | kts_exm)
    (case ic_Wrong => first | k_is | kit_is | kts_exm)
    (case ti_Wrong => first | k_is | kit_is | kts_exm)
    (case kc_Wrong => first | k_is | kit_is | kts_exm)
    (case ec_Wrong => first | k_is | kit_is | kts_exm)
    (case tc_Wrong => first | k_is | kit_is | kts_exm)
    (case hc_Wrong => first | k_is | kit_is | kts_exm)
    (case ha_Wrong => first | k_is | kit_is | kts_exm)
    (case hn_Wrong => first | k_is | kit_is | kts_exm)
    (case ht_Wrong => first | k_is | kit_is | kts_exm)
    (case hm_Wrong => first | k_is | kit_is | kts_exm)
    (case no_Wrong_why => first | k_is | kit_is | kts_exm)
    (case ex_Wrong_NoNumber => first | k_is | kit_is | kts_exm)
    (case ex_Wrong_NoRoom => first | k_is | kit_is | kts_exm)
    (case ex_Wrong_SaggarError => first | k_is | kit_is | kts_exm)
    (case ex_Wrong_Wrong => first | k_is | kit_is | kts_exm)
    (case kit_Wrong_Wrong => first | k_is | kit_is | kts_exm)
    (case pg_Store => first | k_is | kit_is | kts_exm)
    (case hd_Store => first | k_is | kit_is | kts_exm)
    (case po_Store => first | k_is | kit_is | kts_exm)
    (case sa_Store => first | k_is | kit_is | kts_exm)
    (case mi_Store => first | k_is | kit_is | kts_exm)
    (case kc_Store => first | k_is | kit_is | kts_exm)
    (case no_Store_room => first | k_is | kit_is | kts_exm)
    (case no_Store_entries => first | k_is | kit_is | kts_exm)
    (case no_Store_words => first | k_is | kit_is | kts_exm)
    (case no_Store__places => first | k_is | kit_is | kts_exm)
    (case no_Store__free => first | k_is | kit_is | kts_exm)
    (case no_Store__fresh => first | k_is | kit_is | kts_exm)
    (case pg_Space => first | k_is | kit_is | kts_exm)
    (case hd_Space => first | k_is | kit_is | kts_exm)
    (case po_Space => first | k_is | kit_is | kts_exm)
    (case sa_Space => first | k_is | kit_is | kts_exm)
    (case mi_Space => first | k_is | kit_is | kts_exm)
    (case kc_Space => first | k_is | kit_is | kts_exm)
    (case no_Space_store => first | k_is | kit_is | kts_exm)
    (case no_Space_always => first | k_is | kit_is | kts_exm)
    (case no_Space_pressure => first | k_is | kit_is | kts_exm)
    (case no_Space_allocations => first | k_is | kit_is | kts_exm)
    (case no_Space_collections => first | k_is | kit_is | kts_exm)
    (case no_Space__roots => first | k_is | kit_is | kts_exm)
    (case no_Space__held => first | k_is | kit_is | kts_exm)
    (case no_Space__moments => first | k_is | kit_is | kts_exm)
    (case no_Space__work => first | k_is | kit_is | kts_exm)
    (case l0 => first | k_is | kit_is | kts_exm)
    (case c0 => first | k_is | kit_is | kts_exm)
    (case k0 => first | k_is | kit_is | kts_exm)
    (case l1 => first | k_is | kit_is | kts_exm)
    (case c1 => first | k_is | kit_is | kts_exm)
    (case k1 => first | k_is | kit_is | kts_exm)
    (case l2 => first | k_is | kit_is | kts_exm)
    (case c2 => first | k_is | kit_is | kts_exm)
    (case k2 => first | k_is | kit_is | kts_exm)
    (case a3 => first | k_is | kit_is | kts_exm)
    (case l3 => first | k_is | kit_is | kts_exm)
    (case c3 => first | k_is | kit_is | kts_exm)
    (case k3 => first | k_is | kit_is | kts_exm)
    (case a4 => first | k_is | kit_is | kts_exm)
    (case i4 => first | k_is | kit_is | kts_exm)
    (case l4 => first | k_is | kit_is | kts_exm)
    (case c4 => first | k_is | kit_is | kts_exm)
    (case k4 => first | k_is | kit_is | kts_exm)
    (case a5 => first | k_is | kit_is | kts_exm)
    (case i5 => first | k_is | kit_is | kts_exm)
    (case l5 => first | k_is | kit_is | kts_exm)
    (case c5 => first | k_is | kit_is | kts_exm)
    (case k5 => first | k_is | kit_is | kts_exm)
    (case a6 => first | k_is | kit_is | kts_exm)
    (case i6 => first | k_is | kit_is | kts_exm)
    (case l6 => first | k_is | kit_is | kts_exm)
    (case c6 => first | k_is | kit_is | kts_exm)
    (case k6 => first | k_is | kit_is | kts_exm)
    (case a7 => first | k_is | kit_is | kts_exm)
    (case i7 => first | k_is | kit_is | kts_exm)
    (case l7 => first | k_is | kit_is | kts_exm)
    (case c7 => first | k_is | kit_is | kts_exm)
    (case k7 => first | k_is | kit_is | kts_exm)
    (case a8 => first | k_is | kit_is | kts_exm)
    (case i8 => first | k_is | kit_is | kts_exm)
    (case l8 => first | k_is | kit_is | kts_exm)
    (case c8 => first | k_is | kit_is | kts_exm)
    (case k8 => first | k_is | kit_is | kts_exm)
    (case a9 => first | k_is | kit_is | kts_exm)
    (case i9 => first | k_is | kit_is | kts_exm)
    (case l9 => first | k_is | kit_is | kts_exm)
    (case c9 => first | k_is | kit_is | kts_exm)
    (case k9 => first | k_is | kit_is | kts_exm)
    (case a10 => first | k_is | kit_is | kts_exm)
    (case i10 => first | k_is | kit_is | kts_exm)
    (case l10 => first | k_is | kit_is | kts_exm)
    (case c10 => first | k_is | kit_is | kts_exm)
    (case k10 => first | k_is | kit_is | kts_exm)
    (case a11 => first | k_is | kit_is | kts_exm)
    (case i11 => first | k_is | kit_is | kts_exm)
    (case l11 => first | k_is | kit_is | kts_exm)
    (case c11 => first | k_is | kit_is | kts_exm)
    (case k11 => first | k_is | kit_is | kts_exm)
    (case a12 => first | k_is | kit_is | kts_exm)
    (case i12 => first | k_is | kit_is | kts_exm)
    (case l12 => first | k_is | kit_is | kts_exm)
    (case c12 => first | k_is | kit_is | kts_exm)
    (case k12 => first | k_is | kit_is | kts_exm)
    (case a13 => first | k_is | kit_is | kts_exm)
    (case i13 => first | k_is | kit_is | kts_exm)
    (case l13 => first | k_is | kit_is | kts_exm)
    (case c13 => first | k_is | kit_is | kts_exm)
    (case k13 => first | k_is | kit_is | kts_exm)
    (case a14 => first | k_is | kit_is | kts_exm)
    (case i14 => first | k_is | kit_is | kts_exm)
    (case l14 => first | k_is | kit_is | kts_exm)
    (case c14 => first | k_is | kit_is | kts_exm)
    (case k14 => first | k_is | kit_is | kts_exm)
    (case a15 => first | k_is | kit_is | kts_exm)
    (case i15 => first | k_is | kit_is | kts_exm)
    (case l15 => first | k_is | kit_is | kts_exm)
    (case c15 => first | k_is | kit_is | kts_exm)
    (case k15 => first | k_is | kit_is | kts_exm)
    (case a16 => first | k_is | kit_is | kts_exm)
    (case i16 => first | k_is | kit_is | kts_exm)
    (case l16 => first | k_is | kit_is | kts_exm)
    (case c16 => first | k_is | kit_is | kts_exm)
    (case k16 => first | k_is | kit_is | kts_exm)
    (case a17 => first | k_is | kit_is | kts_exm)
    (case i17 => first | k_is | kit_is | kts_exm)
    (case l17 => first | k_is | kit_is | kts_exm)
    (case c17 => first | k_is | kit_is | kts_exm)
    (case k17 => first | k_is | kit_is | kts_exm)
    (case a18 => first | k_is | kit_is | kts_exm)
    (case i18 => first | k_is | kit_is | kts_exm)
    (case l18 => first | k_is | kit_is | kts_exm)
    (case c18 => first | k_is | kit_is | kts_exm)
    (case k18 => first | k_is | kit_is | kts_exm)
    (case a19 => first | k_is | kit_is | kts_exm)
    (case i19 => first | k_is | kit_is | kts_exm)
    (case l19 => first | k_is | kit_is | kts_exm)
    (case c19 => first | k_is | kit_is | kts_exm)
    (case k19 => first | k_is | kit_is | kts_exm)
    (case a20 => first | k_is | kit_is | kts_exm)
    (case i20 => first | k_is | kit_is | kts_exm)
    (case l20 => first | k_is | kit_is | kts_exm)
    (case c20 => first | k_is | kit_is | kts_exm)
    (case k20 => first | k_is | kit_is | kts_exm)
    (case a21 => first | k_is | kit_is | kts_exm)
    (case l21 => first | k_is | kit_is | kts_exm)
    (case c21 => first | k_is | kit_is | kts_exm)
    (case k21 => first | k_is | kit_is | kts_exm)
    (case a22 => first | k_is | kit_is | kts_exm)
    (case l22 => first | k_is | kit_is | kts_exm)
    (case c22 => first | k_is | kit_is | kts_exm)
    (case k22 => first | k_is | kit_is | kts_exm)
    (case a23 => first | k_is | kit_is | kts_exm)
    (case l23 => first | k_is | kit_is | kts_exm)
    (case c23 => first | k_is | kit_is | kts_exm)
    (case k23 => first | k_is | kit_is | kts_exm)
    (case a24 => first | k_is | kit_is | kts_exm)
    (case i24 => first | k_is | kit_is | kts_exm)
    (case l24 => first | k_is | kit_is | kts_exm)
    (case c24 => first | k_is | kit_is | kts_exm)
    (case k24 => first | k_is | kit_is | kts_exm)
    (case a25 => first | k_is | kit_is | kts_exm)
    (case i25 => first | k_is | kit_is | kts_exm)
    (case l25 => first | k_is | kit_is | kts_exm)
    (case c25 => first | k_is | kit_is | kts_exm)
    (case k25 => first | k_is | kit_is | kts_exm)
    (case kd25_always => first | k_is | kit_is | kts_exm)
    (case a26 => first | k_is | kit_is | kts_exm)
    (case i26 => first | k_is | kit_is | kts_exm)
    (case l26 => first | k_is | kit_is | kts_exm)
    (case c26 => first | k_is | kit_is | kts_exm)
    (case k26 => first | k_is | kit_is | kts_exm)
    (case a27 => first | k_is | kit_is | kts_exm)
    (case i27 => first | k_is | kit_is | kts_exm)
    (case l27 => first | k_is | kit_is | kts_exm)
    (case c27 => first | k_is | kit_is | kts_exm)
    (case k27 => first | k_is | kit_is | kts_exm)
    (case a28 => first | k_is | kit_is | kts_exm)
    (case i28 => first | k_is | kit_is | kts_exm)
    (case l28 => first | k_is | kit_is | kts_exm)
    (case c28 => first | k_is | kit_is | kts_exm)
    (case k28 => first | k_is | kit_is | kts_exm)
    (case a29 => first | k_is | kit_is | kts_exm)
    (case i29 => first | k_is | kit_is | kts_exm)
    (case l29 => first | k_is | kit_is | kts_exm)
    (case c29 => first | k_is | kit_is | kts_exm)
    (case k29 => first | k_is | kit_is | kts_exm)
    (case a30 => first | k_is | kit_is | kts_exm)
    (case i30 => first | k_is | kit_is | kts_exm)
    (case l30 => first | k_is | kit_is | kts_exm)
    (case c30 => first | k_is | kit_is | kts_exm)
    (case k30 => first | k_is | kit_is | kts_exm)
    (case a31 => first | k_is | kit_is | kts_exm)
    (case i31 => first | k_is | kit_is | kts_exm)
    (case l31 => first | k_is | kit_is | kts_exm)
    (case c31 => first | k_is | kit_is | kts_exm)
    (case k31 => first | k_is | kit_is | kts_exm)
    (case a32 => first | k_is | kit_is | kts_exm)
    (case i32 => first | k_is | kit_is | kts_exm)
    (case l32 => first | k_is | kit_is | kts_exm)
    (case c32 => first | k_is | kit_is | kts_exm)
    (case k32 => first | k_is | kit_is | kts_exm)
    (case a33 => first | k_is | kit_is | kts_exm)
    (case i33 => first | k_is | kit_is | kts_exm)
    (case l33 => first | k_is | kit_is | kts_exm)
    (case c33 => first | k_is | kit_is | kts_exm)
    (case k33 => first | k_is | kit_is | kts_exm)
    (case a34 => first | k_is | kit_is | kts_exm)
    (case i34 => first | k_is | kit_is | kts_exm)
    (case l34 => first | k_is | kit_is | kts_exm)
    (case c34 => first | k_is | kit_is | kts_exm)
    (case k34 => first | k_is | kit_is | kts_exm)
    (case a35 => first | k_is | kit_is | kts_exm)
    (case i35 => first | k_is | kit_is | kts_exm)
    (case l35 => first | k_is | kit_is | kts_exm)
    (case c35 => first | k_is | kit_is | kts_exm)
    (case k35 => first | k_is | kit_is | kts_exm)
    (case a36 => first | k_is | kit_is | kts_exm)
    (case i36 => first | k_is | kit_is | kts_exm)
    (case l36 => first | k_is | kit_is | kts_exm)
    (case c36 => first | k_is | kit_is | kts_exm)
    (case k36 => first | k_is | kit_is | kts_exm)
    (case a37 => first | k_is | kit_is | kts_exm)
    (case i37 => first | k_is | kit_is | kts_exm)
    (case l37 => first | k_is | kit_is | kts_exm)
    (case c37 => first | k_is | kit_is | kts_exm)
    (case k37 => first | k_is | kit_is | kts_exm)
    (case a38 => first | k_is | kit_is | kts_exm)
    (case i38 => first | k_is | kit_is | kts_exm)
    (case l38 => first | k_is | kit_is | kts_exm)
    (case c38 => first | k_is | kit_is | kts_exm)
    (case k38 => first | k_is | kit_is | kts_exm)
    (case a39 => first | k_is | kit_is | kts_exm)
    (case l39 => first | k_is | kit_is | kts_exm)
    (case c39 => first | k_is | kit_is | kts_exm)
    (case k39 => first | k_is | kit_is | kts_exm)
    (case a40 => first | k_is | kit_is | kts_exm)
    (case l40 => first | k_is | kit_is | kts_exm)
    (case c40 => first | k_is | kit_is | kts_exm)
    (case k40 => first | k_is | kit_is | kts_exm)
    (case a41 => first | k_is | kit_is | kts_exm)
    (case l41 => first | k_is | kit_is | kts_exm)
    (case c41 => first | k_is | kit_is | kts_exm)
    (case k41 => first | k_is | kit_is | kts_exm)
    (case a42 => first | k_is | kit_is | kts_exm)
    (case l42 => first | k_is | kit_is | kts_exm)
    (case c42 => first | k_is | kit_is | kts_exm)
    (case k42 => first | k_is | kit_is | kts_exm)
    (case a43 => first | k_is | kit_is | kts_exm)
    (case l43 => first | k_is | kit_is | kts_exm)
    (case c43 => first | k_is | kit_is | kts_exm)
    (case k43 => first | k_is | kit_is | kts_exm)
    (case a44 => first | k_is | kit_is | kts_exm)
    (case l44 => first | k_is | kit_is | kts_exm)
    (case c44 => first | k_is | kit_is | kts_exm)
    (case k44 => first | k_is | kit_is | kts_exm)
    (case a45 => first | k_is | kit_is | kts_exm)
    (case l45 => first | k_is | kit_is | kts_exm)
    (case c45 => first | k_is | kit_is | kts_exm)
    (case k45 => first | k_is | kit_is | kts_exm)
    (case a46 => first | k_is | kit_is | kts_exm)
    (case l46 => first | k_is | kit_is | kts_exm)
    (case c46 => first | k_is | kit_is | kts_exm)
    (case k46 => first | k_is | kit_is | kts_exm)
    (case a47 => first | k_is | kit_is | kts_exm)
    (case l47 => first | k_is | kit_is | kts_exm)
    (case c47 => first | k_is | kit_is | kts_exm)
    (case k47 => first | k_is | kit_is | kts_exm)
    (case a48 => first | k_is | kit_is | kts_exm)
    (case l48 => first | k_is | kit_is | kts_exm)
    (case c48 => first | k_is | kit_is | kts_exm)
    (case k48 => first | k_is | kit_is | kts_exm)
    (case a49 => first | k_is | kit_is | kts_exm)
    (case l49 => first | k_is | kit_is | kts_exm)
    (case c49 => first | k_is | kit_is | kts_exm)
    (case k49 => first | k_is | kit_is | kts_exm)
    (case a50 => first | k_is | kit_is | kts_exm)
    (case l50 => first | k_is | kit_is | kts_exm)
    (case c50 => first | k_is | kit_is | kts_exm)
    (case k50 => first | k_is | kit_is | kts_exm)
    (case a51 => first | k_is | kit_is | kts_exm)
    (case l51 => first | k_is | kit_is | kts_exm)
    (case c51 => first | k_is | kit_is | kts_exm)
    (case k51 => first | k_is | kit_is | kts_exm)
    (case a52 => first | k_is | kit_is | kts_exm)
    (case l52 => first | k_is | kit_is | kts_exm)
    (case c52 => first | k_is | kit_is | kts_exm)
    (case k52 => first | k_is | kit_is | kts_exm)
    (case a53 => first | k_is | kit_is | kts_exm)
    (case l53 => first | k_is | kit_is | kts_exm)
    (case c53 => first | k_is | kit_is | kts_exm)
    (case k53 => first | k_is | kit_is | kts_exm)
    (case a54 => first | k_is | kit_is | kts_exm)
    (case l54 => first | k_is | kit_is | kts_exm)
    (case c54 => first | k_is | kit_is | kts_exm)
    (case k54 => first | k_is | kit_is | kts_exm)
    (case a55 => first | k_is | kit_is | kts_exm)
    (case l55 => first | k_is | kit_is | kts_exm)
    (case c55 => first | k_is | kit_is | kts_exm)
    (case k55 => first | k_is | kit_is | kts_exm)
    (case a56 => first | k_is | kit_is | kts_exm)
    (case l56 => first | k_is | kit_is | kts_exm)
    (case c56 => first | k_is | kit_is | kts_exm)
    (case k56 => first | k_is | kit_is | kts_exm)
    (case a57 => first | k_is | kit_is | kts_exm)
    (case l57 => first | k_is | kit_is | kts_exm)
    (case c57 => first | k_is | kit_is | kts_exm)
    (case k57 => first | k_is | kit_is | kts_exm)
    (case a58 => first | k_is | kit_is | kts_exm)
    (case l58 => first | k_is | kit_is | kts_exm)
    (case c58 => first | k_is | kit_is | kts_exm)
    (case k58 => first | k_is | kit_is | kts_exm)
    (case a59 => first | k_is | kit_is | kts_exm)
    (case l59 => first | k_is | kit_is | kts_exm)
    (case c59 => first | k_is | kit_is | kts_exm)
    (case k59 => first | k_is | kit_is | kts_exm)
    (case a60 => first | k_is | kit_is | kts_exm)
    (case l60 => first | k_is | kit_is | kts_exm)
    (case c60 => first | k_is | kit_is | kts_exm)
    (case k60 => first | k_is | kit_is | kts_exm)
    (case a61 => first | k_is | kit_is | kts_exm)
    (case l61 => first | k_is | kit_is | kts_exm)
    (case c61 => first | k_is | kit_is | kts_exm)
    (case k61 => first | k_is | kit_is | kts_exm)
    (case a62 => first | k_is | kit_is | kts_exm)
    (case l62 => first | k_is | kit_is | kts_exm)
    (case c62 => first | k_is | kit_is | kts_exm)
    (case k62 => first | k_is | kit_is | kts_exm)
    (case q_NIL => first | k_is | kit_is | kts_exm)
    (case q_HEADER => first | k_is | kit_is | kts_exm)
    (case q_ROOTS => first | k_is | kit_is | kts_exm)
    (case al_collect_collecting => first | k_is | kit_is | kts_exm)
    (case h_heappop => first | k_is | kit_is | kts_exm)
    (case h_heappush => first | k_is | kit_is | kts_exm)
    (case z_ValueError => first | k_is | kit_is | kts_exm)
    (case z_bool => first | k_is | kit_is | kts_exm)
    (case z_int => first | k_is | kit_is | kts_exm)
    (case z_isinstance => first | k_is | kit_is | kts_exm)
    (case z_len => first | k_is | kit_is | kts_exm)
    (case z_list => first | k_is | kit_is | kts_exm)
    (case z_range => first | k_is | kit_is | kts_exm)
    (case z_sorted => first | k_is | kit_is | kts_exm)
    (case z_sum => first | k_is | kit_is | kts_exm)
#print axioms PySem.Challenge.cw_saggar_k09_whole_undone_work_leaves_no_t_holds
