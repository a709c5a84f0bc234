import PyProof.Rows.All
import Wide.All
import OpenK.AllK
import Wide.FinOn
import HandS.ForMost
import HandS.ForExc
import HandS.IsInst
import HandS.TupLe
import HandS.Evl
import HandS.ExcInit
import HandS.ExcField
import KE.KExcIs
import HandS.ExcCtx
import HandS.HotCalls
import HandS.Defaults
import HandS.SortInts
import HandS.Struct
import HandS.DictComp
import HandS.Wide
import PyProof.StrOps2
import KE.KDictExact
import KE.KDictWalk
import KE.KTryMore
import PyProof.Seq
import HandS.StrMore
import KE.IntTextText
import HandS.Codes
import HandS.ReplaceList
import HandS.ReplaceLit
import PySem.Challenge.RW_saggar_k11_whole_texts_split_into_tokens
set_option Elab.async false
set_option linter.all false
set_option maxRecDepth 100000
set_option maxHeartbeats 4000000

namespace My
open PySem PySem.Spec PyProof.Rows L2
/-! ### the text by places -/
def top (i : Nat) : Stmt := PySem.Challenge.pw_saggar_k11_whole_texts_split_into_tokens.main.body.getD i (.Pass ⟨0, 0, 0, 0⟩)
abbrev s_Malformed___init__ : Stmt := inClass (top 2) 0
abbrev s_Oversized___init__ : Stmt := inClass (top 3) 0
abbrev s_tokens_of : Stmt := top 13
abbrev s_skipped : Stmt := top 14
abbrev s_token_at : Stmt := top 15
abbrev s_named : Stmt := top 16
abbrev s_numbered : Stmt := top 17
abbrev s_hashed : Stmt := top 18
abbrev s_quoted : Stmt := top 19
abbrev s_signed : Stmt := top 20
abbrev s_letters_end : Stmt := top 21
abbrev s_name_end : Stmt := top 22
abbrev s_keyword_end : Stmt := top 23
abbrev s_keywords_end : Stmt := top 24
abbrev s__law_start : Stmt := top 26
abbrev s__law_pick : Stmt := top 27
abbrev s__law_letters : Stmt := top 28
abbrev s__law_source : Stmt := top 29
abbrev s__law_run : Stmt := top 30
abbrev s__law_word_end : Stmt := top 31
abbrev s__law_is_letter : Stmt := top 32
abbrev s__law_name_end : Stmt := top 33
abbrev s__law_colon : Stmt := top 34
abbrev s__law_skip : Stmt := top 35
abbrev s__law_symbol_end : Stmt := top 36
abbrev s__law_token_end : Stmt := top 37
abbrev s__law_is_token : Stmt := top 38
abbrev s__law_tiles : Stmt := top 39
abbrev s__law_misfit : Stmt := top 40
abbrev s_law : Stmt := top 41
theorem sc_Malformed___init__ : FnScope ["self", "at"] ["self", "at"] (defScope s_Malformed___init__) := ⟨rfl, rfl, rfl, by decide +kernel, rfl, by decide +kernel, by decide +kernel⟩
theorem sc_Oversized___init__ : FnScope ["self", "limit"] ["self", "limit"] (defScope s_Oversized___init__) := ⟨rfl, rfl, rfl, by decide +kernel, rfl, by decide +kernel, by decide +kernel⟩
theorem sc_tokens_of : FnScope ["source", "tokens", "at", "kind", "value", "end"] ["source"] (defScope s_tokens_of) := ⟨rfl, rfl, rfl, by decide +kernel, rfl, by decide +kernel, by decide +kernel⟩
theorem sc_skipped : FnScope ["source", "at", "end"] ["source", "at"] (defScope s_skipped) := ⟨rfl, rfl, rfl, by decide +kernel, rfl, by decide +kernel, by decide +kernel⟩
theorem sc_token_at : FnScope ["source", "at", "first"] ["source", "at"] (defScope s_token_at) := ⟨rfl, rfl, rfl, by decide +kernel, rfl, by decide +kernel, by decide +kernel⟩
theorem sc_named : FnScope ["source", "at", "end"] ["source", "at"] (defScope s_named) := ⟨rfl, rfl, rfl, by decide +kernel, rfl, by decide +kernel, by decide +kernel⟩
theorem sc_numbered : FnScope ["source", "at", "end", "digits"] ["source", "at"] (defScope s_numbered) := ⟨rfl, rfl, rfl, by decide +kernel, rfl, by decide +kernel, by decide +kernel⟩
theorem sc_hashed : FnScope ["source", "at", "first", "end"] ["source", "at"] (defScope s_hashed) := ⟨rfl, rfl, rfl, by decide +kernel, rfl, by decide +kernel, by decide +kernel⟩
theorem sc_quoted : FnScope ["source", "at", "end"] ["source", "at"] (defScope s_quoted) := ⟨rfl, rfl, rfl, by decide +kernel, rfl, by decide +kernel, by decide +kernel⟩
theorem sc_signed : FnScope ["source", "at", "end"] ["source", "at"] (defScope s_signed) := ⟨rfl, rfl, rfl, by decide +kernel, rfl, by decide +kernel, by decide +kernel⟩
theorem sc_letters_end : FnScope ["source", "at"] ["source", "at"] (defScope s_letters_end) := ⟨rfl, rfl, rfl, by decide +kernel, rfl, by decide +kernel, by decide +kernel⟩
theorem sc_name_end : FnScope ["source", "at", "end"] ["source", "at"] (defScope s_name_end) := ⟨rfl, rfl, rfl, by decide +kernel, rfl, by decide +kernel, by decide +kernel⟩
theorem sc_keyword_end : FnScope ["source", "at", "end"] ["source", "at"] (defScope s_keyword_end) := ⟨rfl, rfl, rfl, by decide +kernel, rfl, by decide +kernel, by decide +kernel⟩
theorem sc_keywords_end : FnScope ["source", "at", "end"] ["source", "at"] (defScope s_keywords_end) := ⟨rfl, rfl, rfl, by decide +kernel, rfl, by decide +kernel, by decide +kernel⟩
theorem sc__law_start : FnScope ["script"] ["script"] (defScope s__law_start) := ⟨rfl, rfl, rfl, by decide +kernel, rfl, by decide +kernel, by decide +kernel⟩
theorem sc__law_pick : FnScope ["state", "limit", "cell", "drawn"] ["state", "limit"] (defScope s__law_pick) := ⟨rfl, rfl, rfl, by decide +kernel, rfl, by decide +kernel, by decide +kernel⟩
theorem sc__law_letters : FnScope [] [] (defScope s__law_letters) := ⟨rfl, rfl, rfl, by decide +kernel, rfl, by decide +kernel, by decide +kernel⟩
theorem sc__law_source : FnScope ["state", "chars", "source", "size", "k"] ["state"] (defScope s__law_source) := ⟨rfl, rfl, rfl, by decide +kernel, rfl, by decide +kernel, by decide +kernel⟩
theorem sc__law_run : FnScope ["source", "at", "chars"] ["source", "at", "chars"] (defScope s__law_run) := ⟨rfl, rfl, rfl, by decide +kernel, rfl, by decide +kernel, by decide +kernel⟩
theorem sc__law_word_end : FnScope ["source", "at"] ["source", "at"] (defScope s__law_word_end) := ⟨rfl, rfl, rfl, by decide +kernel, rfl, by decide +kernel, by decide +kernel⟩
theorem sc__law_is_letter : FnScope ["source", "at"] ["source", "at"] (defScope s__law_is_letter) := ⟨rfl, rfl, rfl, by decide +kernel, rfl, by decide +kernel, by decide +kernel⟩
theorem sc__law_name_end : FnScope ["source", "at", "end"] ["source", "at"] (defScope s__law_name_end) := ⟨rfl, rfl, rfl, by decide +kernel, rfl, by decide +kernel, by decide +kernel⟩
theorem sc__law_colon : FnScope ["source", "at"] ["source", "at"] (defScope s__law_colon) := ⟨rfl, rfl, rfl, by decide +kernel, rfl, by decide +kernel, by decide +kernel⟩
theorem sc__law_skip : FnScope ["source", "at", "end"] ["source", "at"] (defScope s__law_skip) := ⟨rfl, rfl, rfl, by decide +kernel, rfl, by decide +kernel, by decide +kernel⟩
theorem sc__law_symbol_end : FnScope ["source", "at", "text", "form", "end", "stop", "place"] ["source", "at", "text"] (defScope s__law_symbol_end) := ⟨rfl, rfl, rfl, by decide +kernel, rfl, by decide +kernel, by decide +kernel⟩
theorem sc__law_token_end : FnScope ["source", "at", "kind", "value", "end"] ["source", "at", "kind", "value"] (defScope s__law_token_end) := ⟨rfl, rfl, rfl, by decide +kernel, rfl, by decide +kernel, by decide +kernel⟩
theorem sc__law_is_token : FnScope ["token"] ["token"] (defScope s__law_is_token) := ⟨rfl, rfl, rfl, by decide +kernel, rfl, by decide +kernel, by decide +kernel⟩
theorem sc__law_tiles : FnScope ["source", "tokens", "stop", "at", "token", "end"] ["source", "tokens", "stop"] (defScope s__law_tiles) := ⟨rfl, rfl, rfl, by decide +kernel, rfl, by decide +kernel, by decide +kernel⟩
theorem sc__law_misfit : FnScope ["source", "at", "char", "end", "rest"] ["source", "at"] (defScope s__law_misfit) := ⟨rfl, rfl, rfl, by decide +kernel, rfl, by decide +kernel, by decide +kernel⟩
theorem sc_law : FnScope ["script", "state", "source", "place", "limit", "tokens", "e"] ["script"] (defScope s_law) := ⟨rfl, rfl, rfl, by decide +kernel, rfl, by decide +kernel, by decide +kernel⟩

/-! ### words for all laws -/
abbrev cl (x : Str) : List Nat := x.cps.toList
theorem str1 {a c : Nat} : ((⟨#[a]⟩ : Str) = ⟨#[c]⟩) = (a = c) := by
  apply propext
  constructor
  · intro h
    have h2 := congrArg (fun x : Str => x.cps.toList) h
    simpa using h2
  · intro h
    rw [h]
theorem len_cl (x : Str) : x.length = (cl x).length := by
  show x.cps.size = x.cps.toList.length
  simp
theorem cl_append (x y : Str) : cl (x ++ y) = cl x ++ cl y := by
  show (x.cps ++ y.cps).toList = _
  simp
theorem at_cl (x : Str) (n : Nat) : x.cps[n]? = (cl x)[n]? := by
  show x.cps[n]? = x.cps.toList[n]?
  simp
theorem cl_nil {x : Str} : x = "" ↔ cl x = [] := by
  constructor
  · intro h
    rw [h]
    rfl
  · intro h
    have e : x.cps = #[] := by
      have := congrArg List.toArray h
      simpa using this
    have : x = ⟨x.cps⟩ := rfl
    rw [this, e]
    rfl
theorem sc_ii {i j : Int} : scal (.int i) (.int j) = true := rfl
theorem sc_ss {x y : Str} : scal (.str x) (.str y) = true := rfl
theorem sc_bb {a b : Bool} : scal (.bl a) (.bl b) = true := rfl
theorem cx_K {CX : CXT} {P : Program} {w : World} {K : PySem.W.Frag} {mg : Str → Option Value} {base : Heap} {N : List Str} {qual : Str} {scope : Scope} {f : Addr} {cd : Value} {A : Around} {outer : List Env} {s : Shared} {H : Hp} {E : XK} : (cxOf CX P w K mg base N qual scope f cd A outer s H E).K = K := rfl
/-! ### rules told over a tracked list as it stands: H p is looked up -/
def lstAt (H : Hp) (p : Addr) (R : List V → Prop) : Prop := match H p with
  | some (.lst xs) => R xs
  | _ => False
theorem lstAt_of {H : Hp} {p : Addr} {xs : List V} {R : List V → Prop} (h : H p = some (.lst xs)) : lstAt H p R = R xs := by
  unfold lstAt
  rw [h]
theorem lstAt_get {H : Hp} {p : Addr} {R : List V → Prop} (h : lstAt H p R) : ∃ xs, H p = some (.lst xs) ∧ R xs := by
  unfold lstAt at h
  split at h
  · rename_i xs e
    exact ⟨xs, e, h⟩
  · exact h.elim
def setI (xs : List V) (i : Int) (v : V) : Option (List V) := (ixN xs.length i).map fun j => xs.set j v
def rIxM : R2 := fun x y H Q => ∃ p i, x = .ref p ∧ y = .int i ∧ lstAt H p fun xs => ∃ v, atI xs i = some v ∧ Q v H
def rSetM : V → V → V → Hp → (Hp → Prop) → Prop := fun o i v H Q => ∃ p k, o = .ref p ∧ i = .int k ∧ lstAt H p fun xs => ∃ ys, setI xs k v = some ys ∧ Q (upd H p (.lst ys))
def rLenM : List V → Hp → VK → Prop := fun vs H Q => ∃ p, vs = [.ref p] ∧ lstAt H p fun xs => Q (.int xs.length) H
theorem atI_0 {α : Type} {a : α} {l : List α} : atI (a :: l) 0 = some a := by simp [atI, ixN]
theorem atI_1 {α : Type} {a b : α} {l : List α} : atI (a :: b :: l) 1 = some b := by
  have : ixN (a :: b :: l).length 1 = some 1 := by
    unfold ixN
    rw [if_pos (by omega), if_pos (by simp only [List.length_cons]; omega)]
    rfl
  unfold atI
  rw [this]
  rfl
theorem atI_2 {α : Type} {a b c : α} {l : List α} : atI (a :: b :: c :: l) 2 = some c := by
  have : ixN (a :: b :: c :: l).length 2 = some 2 := by
    unfold ixN
    rw [if_pos (by omega), if_pos (by simp only [List.length_cons]; omega)]
    rfl
  unfold atI
  rw [this]
  rfl
theorem atI_3 {α : Type} {a b c d : α} {l : List α} : atI (a :: b :: c :: d :: l) 3 = some d := by
  have : ixN (a :: b :: c :: d :: l).length 3 = some 3 := by
    unfold ixN
    rw [if_pos (by omega), if_pos (by simp only [List.length_cons]; omega)]
    rfl
  unfold atI
  rw [this]
  rfl
theorem setI_0 {a v : V} {l : List V} : setI (a :: l) 0 v = some (v :: l) := by simp [setI, ixN]
theorem setI_1 {a b v : V} {l : List V} : setI (a :: b :: l) 1 v = some (a :: v :: l) := by
  have : ixN (a :: b :: l).length 1 = some 1 := by
    unfold ixN
    rw [if_pos (by omega), if_pos (by simp only [List.length_cons]; omega)]
    rfl
  unfold setI
  rw [this]
  rfl
theorem setI_2 {a b c v : V} {l : List V} : setI (a :: b :: c :: l) 2 v = some (a :: b :: v :: l) := by
  have : ixN (a :: b :: c :: l).length 2 = some 2 := by
    unfold ixN
    rw [if_pos (by omega), if_pos (by simp only [List.length_cons]; omega)]
    rfl
  unfold setI
  rw [this]
  rfl
theorem setI_3 {a b c d v : V} {l : List V} : setI (a :: b :: c :: d :: l) 3 v = some (a :: b :: c :: v :: l) := by
  have : ixN (a :: b :: c :: d :: l).length 3 = some 3 := by
    unfold ixN
    rw [if_pos (by omega), if_pos (by simp only [List.length_cons]; omega)]
    rfl
  unfold setI
  rw [this]
  rfl
/-- isinstance of a plain value and a built-in type -/
def isTy : V → String → Option Bool
  | .bl _, T => L2.kitB "bool" T
  | .int _, T => L2.kitB "int" T
  | .str _, T => L2.kitB "str" T
  | .non, T => L2.kitB "NoneType" T
  | _, _ => none
def rIsS : List V → Hp → VK → Prop := fun xs H Q => ∃ x T, xs = [x, .ty T] ∧ ∃ b, isTy x T = some b ∧ Q (.bl b) H
theorem isTy_bb {b : Bool} : isTy (.bl b) "bool" = some true := by
  show L2.kitB "bool" "bool" = some true
  decide +kernel
theorem isTy_bi {b : Bool} : isTy (.bl b) "int" = some true := by
  show L2.kitB "bool" "int" = some true
  decide +kernel
theorem isTy_ib {i : Int} : isTy (.int i) "bool" = some false := by
  show L2.kitB "int" "bool" = some false
  decide +kernel
theorem isTy_ii {i : Int} : isTy (.int i) "int" = some true := by
  show L2.kitB "int" "int" = some true
  decide +kernel
theorem isTy_ss {x : Str} : isTy (.str x) "str" = some true := by
  show L2.kitB "str" "str" = some true
  decide +kernel
theorem isTy_nb : isTy .non "bool" = some false := by
  show L2.kitB "NoneType" "bool" = some false
  decide +kernel
theorem isTy_ni : isTy .non "int" = some false := by
  show L2.kitB "NoneType" "int" = some false
  decide +kernel
section
variable {X : Cx}
theorem call_isS : CallR X (.builtin "isinstance") rIsS := by
  intro pins s σ H xs us Q I r h
  obtain ⟨x, T, rfl, b, e, q⟩ := h
  have ty : ∃ t, TyX X.K H x (.type t) ∧ L2.kitB t T = some b := by
    cases x with
    | bl k => exact ⟨_, .base (.bl k), e⟩
    | int k => exact ⟨_, .base (.int k), e⟩
    | str k => exact ⟨_, .base (.str k), e⟩
    | non => exact ⟨_, .base .non, e⟩
    | byt k => cases e
    | flt k => cases e
    | ref k => cases e
    | ty k => cases e
  obtain ⟨t, ht, hk⟩ := ty
  exact call_isi pins s σ H _ us Q I r ⟨x, .ty T, .type t, .type T, b, rfl, .ty T, ht, kit_ty hk, q⟩
theorem ix_lstM : IxR X rIxM := by
  intro value slice pins s σ H x y v u Q I rx ry h hs
  obtain ⟨p, i, e1, e2, h⟩ := h
  obtain ⟨xs, hp, z, hz, q⟩ := lstAt_get h
  exact ix_list value slice pins s σ H x y v u Q I rx ry ⟨p, xs, i, z, e1, e2, .inl (.inl hp), hz, q⟩ hs
theorem set_lstM : PSet X rSetM := by
  intro pins s σ H o i v ov iv u Q I ro ri rv h
  obtain ⟨p, k, e1, e2, h⟩ := h
  obtain ⟨xs, hp, ys, hy, q⟩ := lstAt_get h
  unfold setI at hy
  cases hj : ixN xs.length k with
  | none =>
    rw [hj] at hy
    cases hy
  | some j =>
    rw [hj] at hy
    have hy2 : xs.set j v = ys := Option.some.inj hy
    subst hy2
    exact set_list pins s σ H o i v ov iv u Q I ro ri rv ⟨p, xs, k, j, e1, e2, hp, hj, q⟩
theorem call_lenM : CallR X (.builtin "len") rLenM := by
  intro pins s σ H xs us Q I r h
  obtain ⟨p, e, h⟩ := h
  obtain ⟨ys, hp, q⟩ := lstAt_get h
  exact call_len_seq pins s σ H xs us Q I r ⟨p, ys, e, .inl (.inl (.inl hp)), q⟩
/-- int(n) of an int -/
theorem call_intI : CallR X (.type "int") (fun xs H Q => ∃ i, xs = [.int i] ∧ Q (.int i) H) := fun pins s σ H xs us Q I r h => call_int1 pins s σ H xs us Q I r (Or.inl h)
end
theorem same_new {H : Hp} {p : Addr} {o : HO} (h : H p = none) : Same H (upd H p o) := fun b x e => by
  rw [upd_ne (ne_of_none e h)]
  exact e
/-! ### loops by an invariant, told over the loop's own reading -/
theorem for_rng {ta : TA} {g : TG} {tb : TS} {D : Ends} {σ : L2.St} {H : Hp} (j : Int) (hta : ∀ R : List V → Hp → Prop, R [.int j] H → ta σ H R) (h0 : 0 ≤ j) (h1 : j < 2 ^ 62) (Pv : Nat → L2.St → Hp → Prop) (hp : Pv 0 σ H)
    (hs : ∀ (i : Nat) σ H, (i : Int) < j → Pv i σ H → g (.int (i : Int)) σ H fun σ2 H2 => tb { D with nx := Pv (i + 1), ct := Pv (i + 1), bk := D.nx } σ2 H2) (hd : ∀ σ H, Pv j.toNat σ H → D.nx σ H) : tFor (iRng1 ta) g tb D σ H := by
  refine hta _ ⟨j, rfl, by omega, h1, for_range (lo := 0) (n := j.toNat) Pv hp (fun i σ H hi pv => ?_) hd⟩
  rw [Int.zero_add]
  exact hs i σ H (by omega) pv
theorem for_rng2 {ta : TA} {g : TG} {tb : TS} {D : Ends} {σ : L2.St} {H : Hp} (l j : Int) (hta : ∀ R : List V → Hp → Prop, R [.int l, .int j] H → ta σ H R) (h0 : -(2 ^ 62) ≤ l) (h2 : l < 2 ^ 62) (h3 : -(2 ^ 62) ≤ j) (h1 : j < 2 ^ 62) (Pv : Nat → L2.St → Hp → Prop) (hp : Pv 0 σ H)
    (hs : ∀ (i : Nat) σ H, l + (i : Int) < j → Pv i σ H → g (.int (l + (i : Int))) σ H fun σ2 H2 => tb { D with nx := Pv (i + 1), ct := Pv (i + 1), bk := D.nx } σ2 H2) (hd : ∀ σ H, Pv (j - l).toNat σ H → D.nx σ H) : tFor (iRng2 ta) g tb D σ H :=
  hta _ ⟨l, j, rfl, ⟨h0, h2, h3, h1⟩, for_range (lo := l) (n := (j - l).toNat) Pv hp (fun i σ H hi pv => hs i σ H (by omega) pv) hd⟩
theorem for_lst {K : PySem.W.Frag} {tl : TE} {g : TG} {tb : TS} {D : Ends} {σ : L2.St} {H H0 : Hp} {a : Addr} (xs : List V) (htl : ∀ R : V → Hp → Prop, R (.ref a) H0 → tl σ H R) (Pv : Nat → L2.St → Hp → Prop) (hp : Pv 0 σ H0) (hl : ∀ i σ H, i ≤ xs.length → Pv i σ H → SqL K H a xs)
    (hs : ∀ i x σ H, xs[i]? = some x → Pv i σ H → g x σ H fun σ2 H2 => tb { D with nx := Pv (i + 1), ct := Pv (i + 1), bk := D.nx } σ2 H2) (hd : ∀ σ H, Pv xs.length σ H → D.nx σ H) : tFor (iList K tl) g tb D σ H :=
  htl _ ⟨a, rfl, ⟨xs, hl 0 σ H0 (Nat.zero_le _) hp⟩, L2.for_list (K := K) (a := a) (xs := xs) Pv hp hl hs hd⟩
/-- [f(x) for x in a list of ints], the element an int that is reckoned from x alone -/
theorem lc_ints {K : PySem.W.Frag} {tl te : TE} {c : Nat} {σ : L2.St} {H : Hp} {Q : VK} {a : Addr} {ns : List Int} (f : Int → Int) (htl : ∀ R : V → Hp → Prop, R (.ref a) H → tl σ H R) (ha : SqL K H a (ns.map V.int)) (hc : c < σ.length) (hn : ns.length ≤ 100000)
    (hte : ∀ (σ' : L2.St) (H' : Hp) (z : Int) (R : VK), σ'[c]? = some (some (.int z)) → R (.int (f z)) H' → te σ' H' R) (k : ∀ D, H D = none → Q (.ref D) (upd H D (.lst (ns.map fun z => .int (f z))))) : tLc (iList K tl) (gName c) tYes te [c] σ H Q := by
  refine htl _ ⟨a, rfl, ⟨_, ha⟩, fun D hD => lc_list (K := K) (a := a) (xs := ns.map V.int) (fun i H' => H' = upd H D (.lst ((ns.take i).map fun z => .int (f z)))) (by rw [List.take_zero]; rfl) (fun i H' _ e => ?_) ?_ ?_⟩
  · rw [e]
    exact (same_new hD).seq ha
  · rintro i x H' hx rfl
    rw [List.getElem?_map] at hx
    cases hz : ns[i]? with
    | none =>
      rw [hz] at hx
      cases hx
    | some z =>
      rw [hz] at hx
      have ex : V.int z = x := Option.some.inj hx
      subst ex
      have hlt : i < ns.length := (List.getElem?_eq_some_iff.mp hz).1
      refine ⟨?_, ?_⟩
      · show List.set (List.set (List.set σ c none) c _) c none = List.set σ c none
        rw [List.set_set, List.set_set]
      · simp only [tYes, if_true]
        refine hte _ _ z _ ?_ ⟨_, upd_same, ?_, ?_⟩
        · show (List.set (List.set σ c none) c _)[c]? = _
          rw [List.getElem?_set_self (by rw [List.length_set]; exact hc)]
        · rw [List.length_map, List.length_take]
          exact Nat.lt_of_le_of_lt (Nat.min_le_left _ _) (Nat.lt_of_lt_of_le (by omega : i < 100000) (by decide))
        · rw [upd_upd, List.take_add_one, hz, List.map_append]
          rfl
  · rintro H' rfl
    rw [List.length_map, List.take_length]
    exact k D hD

/-! ### dicts, told over a tracked dict as it stands -/
def dcAt (H : Hp) (p : Addr) (R : List (Key × V) → Prop) : Prop := match H p with
  | some (.dK kvs) => R kvs
  | _ => False
theorem dcAt_get {H : Hp} {p : Addr} {R : List (Key × V) → Prop} (h : dcAt H p R) : ∃ kvs, H p = some (.dK kvs) ∧ R kvs := by
  unfold dcAt at h
  split at h
  · rename_i kvs e
    exact ⟨kvs, e, h⟩
  · exact h.elim
/-- .. read, though it may be locked -/
def dcRd (H : Hp) (p : Addr) (R : List (Key × V) → Prop) : Prop := match H p with
  | some (.dK kvs) => R kvs
  | some (.frz _ (.dK kvs)) => R kvs
  | _ => False
theorem dcRd_get {H : Hp} {p : Addr} {R : List (Key × V) → Prop} (h : dcRd H p R) : ∃ kvs, Rd H p (.dK kvs) ∧ R kvs := by
  unfold dcRd at h
  split at h
  · rename_i kvs e
    exact ⟨kvs, .inl e, h⟩
  · rename_i o kvs e
    exact ⟨kvs, .inr ⟨o, e⟩, h⟩
  · exact h.elim
def keyOf : V → Option Key
  | .int i => some (Sum.inl i)
  | .str x => some (Sum.inr x)
  | _ => none
theorem keyOf_kV {y : V} {k : Key} (h : keyOf y = some k) : y = kV k := by
  cases y <;> first | (cases h; rfl) | cases h
theorem keyOf_int {i : Int} : keyOf (.int i) = some (Sum.inl i) := rfl
theorem keyOf_str {x : Str} : keyOf (.str x) = some (Sum.inr x) := rfl
theorem kV_int {i : Int} {k : Key} : (V.int i = kV k) = (Sum.inl i = k) := by
  apply propext
  cases k with
  | inl j => exact ⟨(fun h => by cases h; rfl), (fun h => by cases h; rfl)⟩
  | inr x => exact ⟨(fun h => by cases h), (fun h => by cases h)⟩
theorem kV_str {x : Str} {k : Key} : (V.str x = kV k) = (Sum.inr x = k) := by
  apply propext
  cases k with
  | inl j => exact ⟨(fun h => by cases h), (fun h => by cases h)⟩
  | inr y => exact ⟨(fun h => by cases h; rfl), (fun h => by cases h; rfl)⟩
def rDInM (neg : Bool) : R2 := fun y x H Q => ∃ a, x = .ref a ∧ ∃ k, keyOf y = some k ∧ dcRd H a fun kvs => Q (.bl (if neg then !(valV kvs k).isSome else (valV kvs k).isSome)) H
def rDGetM : R2 := fun x y H Q => ∃ a, x = .ref a ∧ ∃ k, keyOf y = some k ∧ dcRd H a fun kvs => ∃ v, valV kvs k = some v ∧ Q v H
def rDSetM : V → V → V → Hp → (Hp → Prop) → Prop := fun o i v H Q => ∃ a, o = .ref a ∧ ∃ k, keyOf i = some k ∧ dcAt H a fun kvs => kvs.length < sizeLine ∧ Q (upd H a (.dK (putK kvs k v)))
def rDLenM : List V → Hp → VK → Prop := fun vs H Q => ∃ a, vs = [.ref a] ∧ dcAt H a fun kvs => Q (.int kvs.length) H
section
variable {X : Cx}
theorem op_dinM (hu : X.A.units + 1 < cLine) : OpR X (compareOp .In) (rDInM false) := by
  intro pins s σ H y x u v Q I ry rx h
  obtain ⟨a, rfl, k, hk, h⟩ := h
  obtain ⟨kvs, hp, q⟩ := dcRd_get h
  obtain rfl : v = Value.ref a := rx
  have e := keyOf_kV hk
  subst e
  exact d_in hu I (.inl ⟨kvs, k, hp, rfl, rfl⟩) ry fun s3 I3 => ⟨.bl (valV kvs k).isSome, H, I3, rfl, q⟩
theorem op_dnotinM (hu : X.A.units + 1 < cLine) : OpR X (compareOp .NotIn) (rDInM true) := by
  intro pins s σ H y x u v Q I ry rx h
  obtain ⟨a, rfl, k, hk, h⟩ := h
  obtain ⟨kvs, hp, q⟩ := dcRd_get h
  obtain rfl : v = Value.ref a := rx
  have e := keyOf_kV hk
  subst e
  exact d_notIn hu I (.inl ⟨kvs, k, hp, rfl, rfl⟩) ry fun s3 I3 => ⟨.bl (!(valV kvs k).isSome), H, I3, rfl, q⟩
theorem ix_dictM (hu : X.A.units + 1 < cLine) : IxR X rDGetM := by
  intro value slice pins s σ H x y v u Q I rx ry h hs
  obtain ⟨a, rfl, k, hk, h⟩ := h
  obtain ⟨kvs, hp, z, hz, q⟩ := dcRd_get h
  obtain rfl : v = Value.ref a := rx
  have e := keyOf_kV hk
  subst e
  have g : DGet H a (kV k) (some z) := by
    rw [← hz]
    exact .inl ⟨kvs, k, hp, rfl, rfl⟩
  exact tail_any (dict_typeIs I g) PySem.F.slot_dict_getitem.lookup (d_getItem hu I g ry fun w' s3 I3 rw' => ⟨z, H, I3, rw', q⟩) hs
theorem set_dictM (hu : X.A.units + 1 < cLine) : PSet X rDSetM := by
  intro pins s σ H o i v ov iv u Q I ro ri rv h
  obtain ⟨a, rfl, k, hk, h⟩ := h
  obtain ⟨kvs, hp, hl, q⟩ := dcAt_get h
  obtain rfl : ov = Value.ref a := ro
  have e := keyOf_kV hk
  subst e
  exact d_setItem hu I (.k hp hl) ri rv fun s4 I4 => ⟨_, I4, q⟩
theorem call_lenDM : CallR X (.builtin "len") rDLenM := by
  intro pins s σ H xs us Q I r h
  obtain ⟨a, e, h⟩ := h
  obtain ⟨kvs, hp, q⟩ := dcAt_get h
  exact call_lenD pins s σ H xs us Q I r ⟨a, kvs, e, hp, q⟩
end
/-! ### own errors with fields -/
/-- what the written part says of an own error class at C, its __init__ at fI -/
structure ExF (K : PySem.W.Frag) (C fI : Addr) : Prop where
  o : OexC K C
  x : XfC K C
  ic : PySem.W.findIn K (.ref C) "__init__" = some (some (.ref fI))
  ti : PySem.W.typeIn K (.ref fI) = some (.type "function")
  ha : PySem.W.findIn K (.ref C) "__class__" = some (some (.builtin "object.__class__"))
  hn : PySem.W.specialIn K (.builtin "object.__class__") "__get__" = some (some (.builtin "getset_descriptor.__get__"))
  ht : PySem.W.takesIn K (.builtin "object.__class__") = some true
  hm : PySem.W.mroIn K C (.type "object") = some true
/-- __init__ of an error with one field, with two -/
def sp_ex1 (C : Addr) (f : Str) : Sp := fun vs H Q _ => ∃ (a : Addr) (v : V), vs = [.ref a, v] ∧ H a = some (exo a C none) ∧ ∀ dx, H dx = none → dx ≠ a → Q .non (upd (upd H dx (exd dx [(f, v)])) a (exo a C (some dx)))
def sp_ex2 (C : Addr) (f g : Str) : Sp := fun vs H Q _ => ∃ (a : Addr) (v w : V), vs = [.ref a, v, w] ∧ H a = some (exo a C none) ∧
  ∀ dx, H dx = none → dx ≠ a → Q .non (upd (upd (upd H dx (exd dx [(f, v)])) a (exo a C (some dx))) dx (exd dx [(g, w), (f, v)]))
/-- raise C(e), raise C(e, e2) -/
def tRz1 (C : Addr) (f : Str) (W : WX) (ta : TA) : TS := fun _ σ H => ta σ H fun vs H1 => ∃ v, vs = [v] ∧ ∀ d, H1 d = none → W (.ref C) (some d) σ (upd H1 d (.xd [(f, v)]))
def tRz2 (C : Addr) (f g : Str) (W : WX) (ta : TA) : TS := fun _ σ H => ta σ H fun vs H1 => ∃ v w, vs = [v, w] ∧ ∀ d, H1 d = none → W (.ref C) (some d) σ (upd H1 d (.xd [(g, w), (f, v)]))
theorem del_upd_upd {H : Hp} {a dx : Addr} {o1 o2 : HO} {o3 : HO} {o0 : HO} (ha : H a = none) (ne : dx ≠ a) : upd (del (upd (upd (upd H a o0) dx o1) a o2) a) dx o3 = upd H dx o3 := by
  funext b
  by_cases hb : b = dx
  · subst hb
    rw [upd_same, upd_same]
  · rw [upd_ne hb, upd_ne hb]
    by_cases hba : b = a
    · subst hba
      rw [del_same, ha]
    · rw [del_ne hba, upd_ne hba, upd_ne hb, upd_ne hba]
theorem del_upd_upd2 {H : Hp} {a dx : Addr} {o0 o1 o2 o3 o4 : HO} (ha : H a = none) (ne : dx ≠ a) : upd (del (upd (upd (upd (upd H a o0) dx o1) a o2) dx o3) a) dx o4 = upd H dx o4 := by
  funext b
  by_cases hb : b = dx
  · subst hb
    rw [upd_same, upd_same]
  · rw [upd_ne hb, upd_ne hb]
    by_cases hba : b = a
    · subst hba
      rw [del_same, ha]
    · rw [del_ne hba, upd_ne hb, upd_ne hba, upd_ne hb, upd_ne hba]
theorem pa_at {X : Cx} {es : List Expr} {ta : TA} {σ0 : L2.St} {H0 : Hp} {R : List V → Hp → Prop} (ha : PA X es ta) (h0 : ta σ0 H0 R) : PA X es (fun σ H Q => σ = σ0 ∧ H = H0 ∧ ∀ vs H1, R vs H1 → Q vs H1) := by
  refine ⟨fun pos pins s σ H Q I h => ?_⟩
  obtain ⟨e1, e2, hk⟩ := h
  subst e1 e2
  exact thn (ha.run pos pins s σ H _ I h0) fun us s1 ⟨vs, H1, I1, r, q⟩ => ⟨vs, H1, I1, r, hk vs H1 q⟩
section
variable {X : Cx} {C fI : Addr} {k : Nat} {fd : FuncData} {x f g : Str} {W : WX} {ta : TA} {e : Expr} {es : List Expr} {p pos pos2 : Pos}
/-- C(e, ..) where nothing is handled: the error that comes has no context -/
theorem pmkN {CX0' : CXT} {ps : List Str} {sp : Sp} (T : ExF X.K C fI) (F1 : FnOk X.prog X.w X.K X.mg X.base CX0' k fI fd ps sp) (hr : Room (k + 1) X.A) (hb : Binds X.K fd ps []) (hx : Passes CX0' X (fun _ _ _ => False)) (hg : Gl X x) (hm : X.mg x = some (.ref C)) (ha : PA X (e :: es) ta)
    (hdb : (x == ("__debug__" : Str)) = false) (he : starEach (e :: es) X.env = (false, eval e X.env) :: starEach es X.env) (hpl : (backTo pos (starEach es X.env)).any (·.1) = false) :
    L2N.PMk X (.Call (.Name x p) (e :: es) [] pos) (tMkO C sp [] ta) := by
  intro pn0 st sg Hh Qq J hh
  obtain ⟨_, _, _, _, lb, _, _, _, _, _, _, _, _, _, _, hCl, hRef⟩ := T.o.cls
  refine wpAny_Call_Name_kw (ld_glob J hg hm ?_ hdb)
  refine PySem.W.callWith_K (h₀ := X.base) J.ok.mod.kin T.o.kC (thn (ha.run pos pn0 st sg Hh _ J hh) fun us st1 hx1 => ?_) he hpl
  obtain ⟨vs, G1, J1, rl, hz, hq0⟩ := hx1
  refine ⟨J1.kIn, ?_⟩
  show wpAny _ _ (call (.ref C) us) _ _ _
  obtain ⟨hp, gs, dr, tks, osx⟩ := st1
  have two : ∀ b o, hp.get? b = some o → ((hp.push (PySem.W.kdv_tup us)).push (PySem.HandSPX.excO C hp.objs.size)).get? b = some o := fun b o q => Heap.get?_push_of_some _ (Heap.get?_push_of_some _ q)
  have here : ((hp.push (PySem.W.kdv_tup us)).push (PySem.HandSPX.excO C hp.objs.size)).get? (hp.objs.size + 1) = some (PySem.HandSPX.excO C hp.objs.size) := by heap_get
  generalize hN : hp.objs.size + 1 = n at here
  have big : hp.objs.size ≤ n := by omega
  have hq := hq0 n (J1.hok.fresh big)
  rw [List.append_nil] at hq
  have J2 := J1.laid (t' := tks) (a := n) (o := exo n C none) two big (exo_ok here)
  have rl2 : Vals (V.ref n :: vs) (Value.ref n :: us) := .cons rfl rl
  have len2 : (Value.ref n :: us ++ []).length = ps.length := by
    rw [List.append_nil, ← rl2.length]
    exact F1.len _ _ _ _ hq
  have few : us.length ≤ sizeLine := by
    have := Paired.length rl
    rw [sizeLine_eq]
    omega
  have bnd := hb _ (Value.ref n :: us) J2.kIn len2
  rw [List.append_nil] at bnd
  have run := F1.run _ X.stack _ _ ⟨Value.ref n :: us, []⟩ (Value.ref n :: us) _ _ (fun _ _ _ => False) (hr.make C us []) (J2.env0.make C us []) bnd rl2 hq
  subst hN
  refine wpAny_call (PySem.HandSPX.call_own F.excBase_ValueError (fun Y => PySem.HandSPX.refsVE_contains Y lb hRef) (J1.kIn _ _ hCl) (PySem.W.looks_findIn J1.kIn T.ic) (fun me => PySem.W.bind_fn J1.kIn me T.ti) few (codeAny_mono run fun res st2 hres => ?_))
  cases res with
  | error er => exact hx pn0 sg _ _ er st2 J2 hres
  | ok fl =>
    cases fl with
    | next => exact hres.elim
    | brk => exact hres.elim
    | cont => exact hres.elim
    | ret u =>
      obtain ⟨v, G2, o2, b2, u2, k2, rv, ev, d, fs, ea, ed, hd1, q2⟩ := hres
      subst ev
      obtain ⟨hp2, gs2, dr2, tk2, os2⟩ := st2
      obtain ⟨t0, G, J3, kG, ge, hoe, na⟩ := mk_end0 (d2 := dr2) (t2 := tk2) J1 big two u2 k2 o2 b2 ea ed hd1
      exact ⟨rv, _, _, _, ⟨G, gs2, dr2, tk2, os2⟩, _, .ref C, some d, rfl, J3, kG, ge, hoe, ⟨rfl, rfl, fun ws hw => by cases hw; rfl⟩, rfl, rfl, na, rfl, b2, raises_own T.o.exC T.o.tyC, q2⟩
theorem ps_rz1 {ps : List Str} (hc : X.calm = true) (T : ExF X.K C fI) (F : FnOk X.prog X.w X.K X.mg X.base CX0 k fI fd ps (sp_ex1 C f)) (hr : Room (k + 1) X.A) (hb : Binds X.K fd ps []) (tk : L2N.Takes X W) (hg : Gl X x) (hm : X.mg x = some (.ref C)) (ha : PA X (e :: es) ta)
    (hdb : (x == ("__debug__" : Str)) = false := by decide) (he : starEach (e :: es) X.env = (false, eval e X.env) :: starEach es X.env := by rfl) (hpl : (backTo pos (starEach es X.env)).any (·.1) = false := by rfl) :
    PS X (.Raise (some (.Call (.Name x p) (e :: es) [] pos)) none pos2) (tRz1 C f W ta) := by
  refine ⟨fun pins s σ H D I h => ?_⟩
  have key := L2N.ps_raise (pos := pos2) hc tk (pmkN (p := p) T F hr hb pass0 hg hm (pa_at ha h) hdb he hpl)
  refine key.run pins s σ H D I ⟨rfl, rfl, fun vs H1 hk => ?_⟩
  obtain ⟨v, rfl, hw⟩ := hk
  refine ⟨by show 1 ≤ 1000; decide, fun a ha2 => ⟨a, v, rfl, upd_same, fun dx hdx ne => ⟨rfl, dx, [(f, v)], upd_same, ?_, ?_, ?_⟩⟩⟩
  · rw [upd_ne ne, upd_same]
  · rw [upd_ne ne] at hdx
    exact hdx
  · rw [upd_ne ne] at hdx
    rw [del_upd_upd ha2 ne]
    exact hw dx hdx
theorem ps_rz2 {ps : List Str} (hc : X.calm = true) (T : ExF X.K C fI) (F : FnOk X.prog X.w X.K X.mg X.base CX0 k fI fd ps (sp_ex2 C f g)) (hr : Room (k + 1) X.A) (hb : Binds X.K fd ps []) (tk : L2N.Takes X W) (hg : Gl X x) (hm : X.mg x = some (.ref C)) (ha : PA X (e :: es) ta)
    (hdb : (x == ("__debug__" : Str)) = false := by decide) (he : starEach (e :: es) X.env = (false, eval e X.env) :: starEach es X.env := by rfl) (hpl : (backTo pos (starEach es X.env)).any (·.1) = false := by rfl) :
    PS X (.Raise (some (.Call (.Name x p) (e :: es) [] pos)) none pos2) (tRz2 C f g W ta) := by
  refine ⟨fun pins s σ H D I h => ?_⟩
  have key := L2N.ps_raise (pos := pos2) hc tk (pmkN (p := p) T F hr hb pass0 hg hm (pa_at ha h) hdb he hpl)
  refine key.run pins s σ H D I ⟨rfl, rfl, fun vs H1 hk => ?_⟩
  obtain ⟨v, w, rfl, hw⟩ := hk
  refine ⟨by show 2 ≤ 1000; decide, fun a ha2 => ⟨a, v, w, rfl, upd_same, fun dx hdx ne => ⟨rfl, dx, [(g, w), (f, v)], ?_, upd_same, ?_, ?_⟩⟩⟩
  · rw [upd_ne (Ne.symm ne), upd_same]
  · rw [upd_ne ne] at hdx
    exact hdx
  · rw [upd_ne ne] at hdx
    rw [del_upd_upd2 ha2 ne]
    exact hw dx hdx
end
/-! ### an error that an except suite holds: isinstance, fields -/
def rIsX (K : PySem.W.Frag) (a : Addr) (cls : Value) (d : Option Addr) : List V → Hp → VK → Prop := fun xs H Q => ∃ (c : V) (cv : Value) (C fI dd : Addr) (fs : List (Str × V)) (b : Bool),
  xs = [.ref a, c] ∧ ClsV c cv ∧ cls = .ref C ∧ d = some dd ∧ H dd = some (.xd fs) ∧ ExF K C fI ∧ PySem.W.kitOne K (.ref C) cv = some b ∧ Q (.bl b) H
theorem call_isX {X : Cx} {a : Addr} {oe : Obj} {cls : Value} {d : Option Addr} (hp : (a, oe) ∈ X.pn) (hz : Zc cls d oe) (hf : ∃ vs, oe.data = .fields vs) : CallR X (.builtin "isinstance") (rIsX X.K a cls d) := by
  intro pins s σ H xs us Q I r h
  obtain ⟨c, cv, C, fI, dd, fs, b, rfl, hcv, rfl, rfl, hdd, T, hk, q⟩ := h
  obtain ⟨u1, u2, rfl, r1, r2⟩ := vals2 r
  have e2 := hcv.eq r2
  subst e2
  cases (show u1 = Value.ref a from r1)
  obtain ⟨hget, _⟩ := I.pin (a, oe) (List.mem_append_left _ hp)
  obtain ⟨vs, hv⟩ := hf
  obtain ⟨mA, hns, _⟩ := (show ObjOk X.prog X.w H s.heap dd (.xd fs) from I.hok dd _ hdd)
  obtain ⟨od, ho, _⟩ := lookIn_ns hns
  have J : PySem.W.InstAt s.heap a oe C (some od) := ⟨hget, hz.1, by unfold PySem.W.notCls; rw [hv] <;> rfl, by rw [hz.2]; exact ho⟩
  have hcl : (PySem.W.clsIn X.K C).isSome = true := by
    obtain ⟨nm, q, N, bs, bm, sn, sub, ab, col, dD, k0, k1, k2, k3, k5, hC, _⟩ := T.o.cls
    unfold PySem.W.clsIn
    rw [hC] <;> rfl
  exact PySem.W.kia_one (PySem.W.kitx_exc hcl T.x.ga T.x.gg T.x.exC T.ha T.hn T.ht T.hm) I.kIn J hk (fun z => nomatch z) fun tk => ⟨.bl b, H, I.kept (t' := tk) fun _ _ z => z, rfl, q⟩
/-- e.f, e the error at a -/
def tFx (a : Addr) (cls : Value) (d : Option Addr) (f : Str) (K : PySem.W.Frag) (te : TE) : TE := fun σ H Q => te σ H fun x H1 => x = .ref a ∧ ∃ (C fI dd : Addr) (fs : List (Str × V)) (v : V), cls = .ref C ∧ ExF K C fI ∧ PySem.W.findIn K (.ref C) f = some none ∧ d = some dd ∧ H1 dd = some (.xd fs) ∧ fs.lookup f = some v ∧ Q v H1
theorem pe_fx {X : Cx} {a : Addr} {oe : Obj} {cls : Value} {d : Option Addr} {e : Expr} {te : TE} {pos : Pos} {n : Str} (hp : (a, oe) ∈ X.pn) (hz : Zc cls d oe) (hf : ∃ vs, oe.data = .fields vs) (he : PE X e te)
    (hb : attributeBase e n X.env (eval e X.env) = eval e X.env := by rfl) : PE X (.Attribute e n pos) (tFx a cls d n X.K te) := by
  refine ⟨fun pins s σ H Q I h => ?_⟩
  refine attr_of hb (thn (he.run pins s σ H _ I h) fun u s1 hh => ?_)
  obtain ⟨x, H1, I1, rx, ex, C, fI, dd, fs, v, rfl, T, hno, rfl, ea, l, q⟩ := hh
  subst ex
  obtain rfl : u = Value.ref a := rx
  obtain ⟨hget, _⟩ := I1.pin (a, oe) (List.mem_append_left _ hp)
  obtain ⟨vs, hv⟩ := hf
  obtain ⟨mA, hns, hr⟩ := (show ObjOk X.prog X.w H1 s1.heap dd (.xd fs) from I1.hok dd _ ea)
  obtain ⟨od, ho, hl⟩ := lookIn_ns hns
  obtain ⟨w1, hw1, rw1⟩ := RelO.some_of (v := v) (o := mA n) (by rw [← l]; exact hr n)
  have J : PySem.W.InstAt s1.heap a oe C (some od) := ⟨hget, hz.1, by unfold PySem.W.notCls; rw [hv] <;> rfl, by rw [hz.2]; exact ho⟩
  exact HandSPX.exc_get I1.kIn J T.x.ga T.x.gg T.x.exC (PySem.W.findObj_own T.x.hdC hno rfl (by rw [hl, hw1])) (handed_of rw1) ⟨v, H1, I1.tok _, rw1, q⟩
/-- o.m(e, ..) that may raise, within a try -/
def tMethE (C : Addr) (m : Str) (sp : Sp) (E : L2.St → XK) (ta : TE) (t : TA) : TE := fun σ H Q => ta σ H fun x H1 => ∃ a dx fs, x = .ref a ∧ H1 a = some (.ins C dx fs) ∧ fs.lookup m = none ∧ t σ H1 fun vs H2 => sp (x :: vs) H2 Q (E σ)
theorem pe_methE {X : Cx} {CX : CXT} {k : Nat} {C f : Addr} {fd : FuncData} {ps : List Str} {m : Str} {sp : Sp} {E : L2.St → XK} {o e : Expr} {es : List Expr} {ta : TE} {t : TA} {apos pos : Pos} {pl : Sem Bool} (he : PE X o ta) (c : Cls X.K C) (hm : Meth X.K C m f)
    (F : FnOk X.prog X.w X.K X.mg X.base CX k f fd ps sp) (hr : Room k X.A) (hb : Binds X.K fd ps []) (hx : ∀ σ, PassesAt CX X σ (E σ)) (ha : PA X (e :: es) t)
    (hst : starEach (e :: es) X.env = (false, eval e X.env) :: starEach es X.env := by rfl) (hpl : (backTo pos (starEach es X.env)).any (·.1) = false := by rfl)
    (ht : eval (.Call (.Attribute o m apos) (e :: es) [] pos) X.env = (do
      let ov ← eval o X.env
      standAt apos.atName
      let (f, first) ← holding [ov] (getMethod ov m pl)
      callWith pos f first (backTo pos (starEach (e :: es) X.env)) (backToKw pos (keywordEach [] X.env))) := by rfl) :
    PE X (.Call (.Attribute o m apos) (e :: es) [] pos) (tMethE C m sp E ta t) := by
  refine ⟨fun pins s σ H Q I h => ?_⟩
  refine PySem.W.methodCall_KW (pl := pl) (thn (he.run pins s σ H _ I h) fun u1 s1 hh => ?_) ht
  obtain ⟨x, H1, I1, rx, a, dx, fs, ex, ea, l, q⟩ := hh
  subst ex
  obtain rfl : u1 = Value.ref a := rx
  refine getmeth_ok I1 ea c hm l ?_
  refine PySem.W.callWith_K (first := [.ref a]) (h₀ := X.base) I.ok.mod.kin hm.kp (thn (ha.run pos pins s1 σ H1 _ I1 q) fun us s2 hh2 => ?_) hst hpl
  obtain ⟨vs, H2, I2, r, q2⟩ := hh2
  exact ⟨I2.kIn, run_fnS (us := .ref a :: us) (vs := .ref a :: vs) F hr hb (hx σ) I2 (.cons rfl r) q2⟩
/-- a def that may raise -/
theorem okN {P : Program} {w : World} {K : PySem.W.Frag} {mg : Str → Option Value} {base : Heap} {CXx : CXT} {x qual : Str} {st : Stmt} {f : Addr} {fd : FuncData} {N ps : List Str} {k : Nat} {sp : Sp} (F : Fun K x qual st f fd) (S : FnScope N ps (defScope st)) (len : ∀ vs H Q E, sp vs H Q E → vs.length = ps.length)
    (body : ∀ (cdv : Value) (A : Around) (outer : List Env) (s : Shared) (H : Hp) (vs : List V) (Q : VK) (E : XK), Room k (A.deeper (envOfC qual (defScope st) s.heap.objs.size f cdv)) → sp vs H Q E →
      ∃ t, PSs (cxOf CXx P w K mg base N qual (defScope st) f cdv A outer s H E) (defBody st) t ∧ t { nx := fun _ H' => Q .non H', rt := Q } (L2.start N vs) H) : FnOk P w K mg base CXx (k + 1) f fd ps sp := by
  obtain ⟨_, _, _, _, _, _, cdv, _, _, rfl, lk, hcd⟩ := F.ex
  exact fn_of lk hcd S len (body cdv)
/-- a def as it is called where an error is handled -/
theorem okH {P : Program} {w : World} {K : PySem.W.Frag} {mg : Str → Option Value} {base : Heap} {CXx : CXT} {x qual : Str} {st : Stmt} {f : Addr} {fd : FuncData} {N ps : List Str} {k : Nat} {sp : Sp} (F : Fun K x qual st f fd) (S : FnScope N ps (defScope st)) (len : ∀ vs H Q E, sp vs H Q E → vs.length = ps.length)
    (body : ∀ (cdv : Value) (A : Around) (outer : List Env) (s : Shared) (H : Hp) (vs : List V) (Q : VK) (E : XK) (p : Addr × Obj), L2H.Hot1 A p → L2H.RoomH k (A.deeper (envOfC qual (defScope st) s.heap.objs.size f cdv)) → sp vs H Q E →
      ∃ t, PSs (L2H.cxH CXx P w K mg base N qual (defScope st) f cdv A outer s H E p) (defBody st) t ∧ t { nx := fun _ H' => Q .non H', rt := Q } (L2.start N vs) H) : L2H.FnH P w K mg base CXx (k + 1) f fd ps sp := by
  obtain ⟨_, _, _, _, _, _, cdv, _, _, rfl, lk, hcd⟩ := F.ex
  exact L2H.fn_ofH lk hcd S len (body cdv)
theorem takesN {X : Cx} : L2N.Takes X (fun _ _ _ _ => False) := fun _ _ x => by
  obtain ⟨_, _, _, _, _, _, _, _, _, _, _, _, _, _, _, _, z⟩ := x
  exact z.elim
theorem passAt0 {X : Cx} {σ : L2.St} : PassesAt CX0 X σ E0 := fun _ _ _ _ _ _ h => h.elim
theorem hotC_suite {X : Cx} {a : Addr} {oe : Obj} {cls : Value} {d : Option Addr} {pn : List (Addr × Obj)} (hz : L2N.Zn cls d oe) (hf : ∃ vs, oe.data = .fields vs) : L2H.HotC (X.suite a ((a, oe) :: pn)) := by
  obtain ⟨vs, hv⟩ := hf
  exact ⟨(a, oe), ⟨rfl, vs, hv, hz.2.2 vs hv⟩, List.mem_cons_self ..⟩
theorem roomH_suite {k : Nat} {A : Around} {h : Option Value} (r : Room k A) : L2H.RoomH k (A.mark h) := ⟨r.dp, r.un⟩
theorem tt_true {a : Prop} (h : a) : (a = True) := propext ⟨fun _ => trivial, fun _ => h⟩
/-! ### x is True, of a plain value -/
def plainV : V → Bool
  | .bl _ => true
  | .int _ => true
  | .non => true
  | .str _ => true
  | _ => false
def rIsBM (neg : Bool) : R2 := fun x y H Q => ∃ b, y = .bl b ∧ plainV x = true ∧ Q (.bl (if neg then !decide (x = .bl b) else decide (x = .bl b))) H
theorem plainV_b {b : Bool} : plainV (.bl b) = true := rfl
theorem plainV_i {i : Int} : plainV (.int i) = true := rfl
theorem plainV_n : plainV .non = true := rfl
theorem plainV_s {x : Str} : plainV (.str x) = true := rfl
section
variable {X : Cx}
theorem op_isBM : OpR X (compareOp .Is) (rIsBM false) := by
  intro pins s σ H x y v u Q I rx ry h
  obtain ⟨b, rfl, hx, q⟩ := h
  cases (show u = Value.bool b from ry)
  by_cases e : x = .bl b
  · subst e
    cases (show v = Value.bool b from rx)
    exact wpAny_is_self rfl ⟨.bl true, H, I, rfl, by simpa using q⟩
  · have ne : v ≠ Value.bool b := fun z => by
      subst z
      cases x with
      | bl a => exact e (by rw [Value.bool.inj (show Value.bool b = Value.bool a from rx)])
      | int i =>
        obtain ⟨t, z⟩ := rx
        cases z
      | str i =>
        obtain ⟨t, z⟩ := rx
        cases z
      | non => cases (show Value.bool b = Value.none from rx)
      | byt k => cases hx
      | flt k => cases hx
      | ref k => cases hx
      | ty k => cases hx
    have pl : PySem.plainIs v (Value.bool b) = true := by
      cases x with
      | bl a =>
        cases (show v = Value.bool a from rx)
        rfl
      | int i =>
        obtain ⟨t, rfl⟩ := rx
        rfl
      | str i =>
        obtain ⟨t, rfl⟩ := rx
        rfl
      | non =>
        cases (show v = Value.none from rx)
        rfl
      | byt k => cases hx
      | flt k => cases hx
      | ref k => cases hx
      | ty k => cases hx
    exact wpAny_is_other pl ne ⟨.bl false, H, I, rfl, by simpa [e] using q⟩
end
/-! ### in, methods, slices of a tracked list -/
def rInM (neg : Bool) : R2 := fun x y H Q => ∃ p, y = .ref p ∧ lstAt H p fun xs => flatV x = true ∧ xs.all flatV = true ∧ Q (.bl (if neg then !inV x xs else inV x xs)) H
def tBMM (r : V → List V → Hp → VK → Prop) (to : TE) (t : TA) : TE := fun σ H Q => to σ H fun x H1 => ∃ p, x = .ref p ∧ lstAt H1 p fun _ => t σ H1 fun xs H2 => r x xs H2 Q
def tBM0M (r : V → List V → Hp → VK → Prop) (to : TE) : TE := fun σ H Q => to σ H fun x H1 => ∃ p, x = .ref p ∧ lstAt H1 p fun _ => r x [] H1 Q
def rSlM : V → Option Int → Option Int → Hp → VK → Prop := fun x lo hi H Q => ∃ p, x = .ref p ∧ lstAt H p fun xs => ∀ l, H l = none → Q (.ref l) (upd H l (.lst (cutV xs lo hi)))
theorem pe_at {X : Cx} {e : Expr} {te : TE} {σ0 : L2.St} {H0 : Hp} {R : V → Hp → Prop} (ha : PE X e te) (h0 : te σ0 H0 R) : PE X e (fun σ H Q => σ = σ0 ∧ H = H0 ∧ ∀ v H1, R v H1 → Q v H1) := by
  refine ⟨fun pins s σ H Q I h => ?_⟩
  obtain ⟨e1, e2, hk⟩ := h
  subst e1 e2
  exact thn (ha.run pins s σ H _ I h0) fun u s1 ⟨v, H1, I1, r, q⟩ => ⟨v, H1, I1, r, hk v H1 q⟩
section
variable {X : Cx}
theorem op_inM : OpR X (compareOp .In) (rInM false) := by
  intro pins s σ H x y v u Q I rx ry h
  obtain ⟨p, e, h⟩ := h
  obtain ⟨xs, hp, h1, h2, q⟩ := lstAt_get h
  exact op_in_seq pins s σ H x y v u Q I rx ry ⟨p, xs, e, .inl (.inl (.inl hp)), h1, h2, q⟩
theorem op_notInM : OpR X (compareOp .NotIn) (rInM true) := by
  intro pins s σ H x y v u Q I rx ry h
  obtain ⟨p, e, h⟩ := h
  obtain ⟨xs, hp, h1, h2, q⟩ := lstAt_get h
  exact op_notIn_seq pins s σ H x y v u Q I rx ry ⟨p, xs, e, .inl (.inl (.inl hp)), h1, h2, q⟩
theorem sl_listM : SlR X rSlM := by
  intro pins s σ H x v vl vu lo hi sl Q I rx hs pl pu h
  obtain ⟨p, e, h⟩ := h
  obtain ⟨xs, hp, q⟩ := lstAt_get h
  exact sl_list pins s σ H x v vl vu lo hi sl Q I rx hs pl pu ⟨p, xs, e, .inl (.inl hp), q⟩
theorem pe_bmM {name : Str} {id : String} {r : V → List V → Hp → VK → Prop} {o e : Expr} {es : List Expr} {to : TE} {t : TA} {apos cpos : Pos} (slot : Slot "list" name id) (hty : typeOf (.builtin id) = pure (.type "method_descriptor")) (hm : MtR X id r) (ho : PE X o to) (ha : PA X (e :: es) t)
    (hbase : attributeBase o name X.env (eval o X.env) = eval o X.env := by rfl)
    (hfew : ((backTo cpos (starEach (e :: es) X.env)).all (fun x => !x.1) && (backToKw cpos (keywordEach [] X.env)).all (fun x => x.1.isSome)
      && decide ((e :: es).length + ([] : List Keyword).length + (if ([] : List Keyword).isEmpty then 0 else 1) < 30)) = true := by rfl)
    (hline : (apos.endLine == cpos.line) = true := by rfl) (hs : starEach (e :: es) X.env = (false, eval e X.env) :: starEach es X.env := by rfl) (hplain : (backTo cpos (starEach es X.env)).any (·.1) = false := by rfl) :
    PE X (.Call (.Attribute o name apos) (e :: es) [] cpos) (tBMM r to t) := by
  refine ⟨fun pins s σ H Q I h => ?_⟩
  refine (pe_bm PySem.F.plainAttrs_list slot hty hm (pe_at ho h) ha hbase hfew hline hs hplain).run pins s σ H Q I ⟨rfl, rfl, fun v H1 hv => ?_⟩
  obtain ⟨p, rfl, hv⟩ := hv
  obtain ⟨xs, hp, q⟩ := lstAt_get hv
  exact ⟨.inl ⟨rfl, xs, .inl (.inl hp)⟩, q⟩
theorem pe_bm0M {name : Str} {id : String} {r : V → List V → Hp → VK → Prop} {o : Expr} {to : TE} {apos cpos : Pos} (slot : Slot "list" name id) (hty : typeOf (.builtin id) = pure (.type "method_descriptor")) (hm : MtR X id r) (ho : PE X o to)
    (hbase : attributeBase o name X.env (eval o X.env) = eval o X.env := by rfl) (hline : (apos.endLine == cpos.line) = true := by rfl) : PE X (.Call (.Attribute o name apos) [] [] cpos) (tBM0M r to) := by
  refine ⟨fun pins s σ H Q I h => ?_⟩
  refine (pe_bm0 PySem.F.plainAttrs_list slot hty hm (pe_at ho h) hbase hline).run pins s σ H Q I ⟨rfl, rfl, fun v H1 hv => ?_⟩
  obtain ⟨p, rfl, hv⟩ := hv
  obtain ⟨xs, hp, q⟩ := lstAt_get hv
  exact ⟨.inl ⟨rfl, xs, .inl (.inl hp)⟩, q⟩
end
theorem lkc {a k : Str} {b : V} {es : List (Str × V)} : List.lookup a ((k, b) :: es) = if a = k then some b else List.lookup a es := by
  by_cases h : a = k
  · subst h
    simp [List.lookup]
  · have e : (a == k) = false := by simpa using h
    rw [if_neg h]
    simp [List.lookup, e]
theorem lkn {a : Str} : List.lookup a ([] : List (Str × V)) = none := rfl
theorem pfn {f : Str} {v : V} : putF f v [] = [(f, v)] := rfl
theorem pfc {f g : Str} {v x : V} {r : List (Str × V)} : putF f v ((g, x) :: r) = if g = f then (g, v) :: r else (g, x) :: putF f v r := rfl
theorem cxH_K {CX : CXT} {P : Program} {w : World} {K : PySem.W.Frag} {mg : Str → Option Value} {base : Heap} {N : List Str} {qual : Str} {scope : Scope} {f : Addr} {cd : Value} {A : Around} {outer : List Env} {s : Shared} {H : Hp} {E : XK} {p : Addr × Obj} : (L2H.cxH CX P w K mg base N qual scope f cd A outer s H E p).K = K := rfl
theorem clsV_ref {C : Addr} {u : Value} : ClsV (.ref C) u = (Value.ref C = u) := by
  apply propext
  constructor
  · intro h
    cases h
    rfl
  · intro h
    subst h
    exact .own C
theorem clsV_ty {n : String} {u : Value} : ClsV (.ty n) u = (Value.type n = u) := by
  apply propext
  constructor
  · intro h
    cases h
    rfl
  · intro h
    subst h
    exact .ty n

/-! ### a def that is handed the error that is handled: its promise speaks of the pinned object -/
structure FnE (P : Program) (w : World) (K : PySem.W.Frag) (mg : Str → Option Value) (base : Heap) (CXx : CXT) (k : Nat) (f : Addr) (fd : FuncData) (ps : List Str) (sp : Addr × Obj → Sp) : Prop where
  len : ∀ p vs H Q E, sp p vs H Q E → vs.length = ps.length
  run : ∀ (p : Addr × Obj) (A : Around) (outer : List Env) (s : Shared) (H : Hp) (args : Args) (us : List Value) (vs : List V) (Q : VK) (E : XK), L2H.RoomH k A → L2H.Hot1 A p → L2H.PinOk outer H s p → Env0 P w K mg base A outer s H → BindsTo s fd args (ps.zip us) →
    Vals vs us → sp p vs H Q E → codeAny (model P w) A (.call (.ref f) args) (CR CXx outer P w H s Q E) s
theorem okE {P : Program} {w : World} {K : PySem.W.Frag} {mg : Str → Option Value} {base : Heap} {CXx : CXT} {x qual : Str} {st : Stmt} {f : Addr} {fd : FuncData} {N ps : List Str} {k : Nat} {sp : Addr × Obj → Sp} (F : Fun K x qual st f fd) (S : FnScope N ps (defScope st))
    (len : ∀ p vs H Q E, sp p vs H Q E → vs.length = ps.length)
    (body : ∀ (p : Addr × Obj) (cdv : Value) (A : Around) (outer : List Env) (s : Shared) (H : Hp) (vs : List V) (Q : VK) (E : XK), L2H.Hot1 A p → L2H.RoomH k (A.deeper (envOfC qual (defScope st) s.heap.objs.size f cdv)) → sp p vs H Q E →
      ∃ t, PSs (L2H.cxH CXx P w K mg base N qual (defScope st) f cdv A outer s H E p) (defBody st) t ∧ t { nx := fun _ H' => Q .non H', rt := Q } (L2.start N vs) H) : FnE P w K mg base CXx (k + 1) f fd ps sp := by
  obtain ⟨_, _, _, _, _, _, cdv, _, _, rfl, lk, hcd⟩ := F.ex
  refine ⟨len, fun p A outer s H args us vs Q E hr hot pin e0 bnd rv hsp => ?_⟩
  have kin : K.In s.heap := e0.mod.kin.keeps fun b o q => (e0.bs b o q).1
  have own : ∀ y ∈ ps.zip us, (defScope st).names.lookup y.1 = some .local ∨ ((defScope st).names.lookup y.1 = some .cell ∧ ((cellsFrom (s.heap.objs.size + 1) (defScope st).names []).lookup y.1).isSome = true) := by
    intro y hy
    rcases S.par y.1 (List.of_mem_zip (a := y.1) (b := y.2) hy).1 with h | h
    · exact .inl h
    · exact .inr ⟨h, PySem.W.cellsFrom_some _ _ _ (.inl h)⟩
  refine codeAny_call_function hr.depth (kin _ _ lk) rfl S.co S.gen rfl (PySem.W.codeRec_of kin hcd) (bnd _ _ _ _ (wpAny_newFunctionEnv_cells S.kind own fun env he s1 z => ?_))
  subst he
  refine ⟨(e0.mod.nolimit.keeps fun b o q => (e0.bs b o q).1).keeps z.toInCall.keep, codeAny_func ?_⟩
  obtain ⟨t, ht, hq⟩ := body p cdv A outer s H vs Q E hot (hr.deeper _) hsp
  have I := L2H.inv_startH (CX := CXx) (P := P) (w := w) (mg := mg) (base := base) (E := E) S pin e0 (len _ _ _ _ _ hsp) rv z
  refine wpAny_mono (ht.run [] s1 (L2.start N vs) H _ I hq) (fun fl s2 h2 => ?_) fun _ _ h2 => h2
  cases fl with
  | brk =>
    obtain ⟨_, _, _, h2⟩ := h2
    exact h2.elim
  | cont =>
    obtain ⟨_, _, _, h2⟩ := h2
    exact h2.elim
  | next =>
    obtain ⟨_, H2, J, q⟩ := h2
    exact ⟨V.non, H2, J.os, J.bare, J.base, J.hok, rfl, q⟩
  | ret u =>
    obtain ⟨v, _, H2, J, r, q⟩ := h2
    exact ⟨v, H2, J.os, J.bare, J.base, J.hok, r, q⟩
def tCallZ (sp : Addr × Obj → Sp) (a : Addr) (cls : Value) (d : Option Addr) (t : TA) : TE := fun σ H Q => t σ H fun vs H1 => ∀ oe, L2N.Zn cls d oe → (∃ ws, oe.data = .fields ws) → sp (a, oe) vs H1 Q E0
theorem pe_callE {X : Cx} {k : Nat} {f : Addr} {fd : FuncData} {ps : List Str} {sp : Addr × Obj → Sp} {x : Str} {q pos : Pos} {e : Expr} {es : List Expr} {t : TA} {a : Addr} {oe : Obj} {cls : Value} {d : Option Addr} (F : FnE X.prog X.w X.K X.mg X.base CX0 k f fd ps sp) (hr : L2H.RoomH k X.A) (hot : L2H.Hot1 X.A (a, oe)) (hp : (a, oe) ∈ X.pn) (hz : L2N.Zn cls d oe) (hf : ∃ ws, oe.data = .fields ws)
    (hg : Gl X x) (hm : X.mg x = some (.ref f)) (hk : PySem.W.keepIn X.K (.ref f) = true) (hb : Binds X.K fd ps []) (ha : PA X (e :: es) t) (hdb : (x == ("__debug__" : Str)) = false := by decide)
    (he : starEach (e :: es) X.env = (false, eval e X.env) :: starEach es X.env := by rfl) (hpl : (backTo pos (starEach es X.env)).any (·.1) = false := by rfl) : PE X (.Call (.Name x q) (e :: es) [] pos) (tCallZ sp a cls d t) := by
  refine ⟨fun pins s σ H Q I h => ?_⟩
  refine wpAny_Call_Name_kw (ld_glob I hg hm ?_ hdb)
  refine PySem.W.callWith_K (h₀ := X.base) I.ok.mod.kin hk (thn (ha.run pos pins s σ H _ I h) fun us s1 z => ?_) he hpl
  obtain ⟨vs, H1, I1, r, hsp0⟩ := z
  have hsp := hsp0 oe hz hf
  refine ⟨I1.kIn, ?_⟩
  have n : us.length = ps.length := r.length.symm.trans (F.len _ _ _ _ _ hsp)
  have b := hb s1 us I1.kIn (by rw [List.append_nil]; exact n)
  rw [List.append_nil] at b
  have at1 := I1.pin (a, oe) (List.mem_append_left _ hp)
  have pin : L2H.PinOk X.stack H1 s1 (a, oe) := ⟨at1.1, at1.2.1, fun hx => (List.mem_cons.mp (I1.stkSub a hx)).elim at1.2.2.1 at1.2.2.2.1, at1.2.2.2.2⟩
  refine wpAny_call (codeAny_mono (F.run (a, oe) X.A X.stack s1 H1 ⟨us, []⟩ us vs Q E0 hr hot pin I1.env0 b r hsp) fun res s2 hres => ?_)
  cases res with
  | error er => exact hres.elim
  | ok fl =>
    cases fl with
    | ret u => exact I1.after hres
    | next => exact hres.elim
    | brk => exact hres.elim
    | cont => exact hres.elim
theorem hot_suite {X : Cx} {a : Addr} {oe : Obj} {cls : Value} {d : Option Addr} {pn : List (Addr × Obj)} (hz : L2N.Zn cls d oe) (hf : ∃ vs, oe.data = .fields vs) : L2H.Hot1 (X.suite a ((a, oe) :: pn)).A (a, oe) := by
  obtain ⟨vs, hv⟩ := hf
  exact ⟨rfl, vs, hv, hz.2.2 vs hv⟩

/-! ### more small rules -/
theorem passN0 {P : Program} {w : World} {X : Cx} : Passes (L2N.CX P w) X E0 := fun _ _ _ _ _ _ _ ⟨_, _, _, _, _, _, _, _, _, _, _, _, h⟩ => h.elim
theorem isTy_si {x : Str} : isTy (.str x) "int" = some false := by
  show L2.kitB "str" "int" = some false
  decide +kernel
theorem isTy_is {i : Int} : isTy (.int i) "str" = some false := by
  show L2.kitB "int" "str" = some false
  decide +kernel
theorem isTy_sb {x : Str} : isTy (.str x) "bool" = some false := by
  show L2.kitB "str" "bool" = some false
  decide +kernel
/-- isinstance(x, list), x a tracked list -/
def rIsL : List V → Hp → VK → Prop := fun xs H Q => ∃ p, xs = [.ref p, .ty "list"] ∧ lstAt H p fun _ => Q (.bl true) H
theorem call_isL {X : Cx} : CallR X (.builtin "isinstance") rIsL := by
  intro pins s σ H xs us Q I r h
  obtain ⟨p, rfl, h⟩ := h
  obtain ⟨ys, hp, q⟩ := lstAt_get h
  exact call_isi pins s σ H _ us Q I r ⟨.ref p, .ty "list", .type "list", .type "list", true, rfl, .ty "list", .base (.lst hp), kit_ty rfl, q⟩
/-- a str times an int that is more than one -/
def rRepS : R2 := fun x y H Q => ∃ (i : Str) (n : Int), x = .str i ∧ y = .int n ∧ 1 < n ∧ n ≤ 100000 ∧ 0 < i.length ∧ i.length ≤ 10 ∧ ∀ z : Str, z.length = i.length * n.toNat → Q (.str z) H
theorem size_foldl_rep (b : Array Nat) : ∀ (n : Nat) (a : Array Nat), (List.foldl (fun x1 x2 => x1 ++ x2) a (List.replicate n b)).size = a.size + b.size * n
  | 0, a => by simp
  | n + 1, a => by
    rw [List.replicate_succ, List.foldl_cons, size_foldl_rep b n, Array.size_append, Nat.mul_succ]
    omega
theorem op_repS {X : Cx} : OpR X (binaryOp .Mult) rRepS := by
  intro pins s σ H x y v u Q I rx ry h
  obtain ⟨i, n, rfl, rfl, h1, h2, h3, h4, q⟩ := h
  obtain ⟨t, rfl⟩ := rx
  obtain ⟨t', rfl⟩ := ry
  have hl : i.length * n.toNat ≤ 1000000 := by
    have := Nat.mul_le_mul h4 (show n.toNat ≤ 100000 by omega)
    omega
  have c0 : ¬ n < 1 := by omega
  have c1 : (n == 1 || i.length == 0) = false := by
    have a1 : (n == 1) = false := by simp; omega
    have a2 : (i.length == 0) = false := by simp; omega
    rw [a1, a2] <;> rfl
  have hs : (⟨(List.replicate n.toNat i.cps).foldl (· ++ ·) #[]⟩ : Str).length = i.length * n.toNat := by
    show Array.size _ = _
    rw [size_foldl_rep]
    simp [Str.length]
  have hsl : i.length * n.toNat ≤ sizeLine := Nat.le_trans hl (by decide)
  have ns : PySem.Builtin.Str.tooLong (i.length * n.toNat) = false := decide_eq_false (by omega)
  refine PySem.P.mul_str ?_ (fun _ _ => ?_) (fun _ _ => ns) ?_
  · have a1 : ¬ n < -(2 ^ 63 : Int) := by omega
    have a2 : ¬ n ≥ 2 ^ 63 := by omega
    rw [decide_eq_false a1, decide_eq_false a2] <;> rfl
  · have a1 : (100 : Int) ≤ (2 ^ 63 - 1) / n := by
      refine Int.le_ediv_of_mul_le (by omega) ?_
      omega
    omega
  · rw [if_neg c0, if_neg (by rw [c1]; decide)]
    exact ⟨by rw [hs]; exact hsl, ⟨.str _, H, I.tok _, ⟨_, rfl⟩, q _ hs⟩⟩
/-- a loop over a list that is made for it -/
theorem for_lstN {K : PySem.W.Frag} {tl : TE} {g : TG} {tb : TS} {D : Ends} {σ : L2.St} {H : Hp} (xs : List V) (htl : ∀ R : V → Hp → Prop, (∀ p, H p = none → R (.ref p) (upd H p (.lst xs))) → tl σ H R) (Pv : Addr → Nat → L2.St → Hp → Prop)
    (hp : ∀ p, H p = none → Pv p 0 σ (upd H p (.lst xs))) (hl : ∀ p i σ' H', H p = none → Pv p i σ' H' → H' p = some (.lst xs))
    (hs : ∀ p i x σ' H', H p = none → xs[i]? = some x → Pv p i σ' H' → g x σ' H' fun σ2 H2 => tb { D with nx := Pv p (i + 1), ct := Pv p (i + 1), bk := D.nx } σ2 H2) (hd : ∀ p σ' H', H p = none → Pv p xs.length σ' H' → D.nx σ' H') : tFor (iList K tl) g tb D σ H :=
  htl _ fun p h0 => ⟨p, rfl, ⟨xs, .inl (.inl upd_same)⟩, L2.for_list (K := K) (a := p) (xs := xs) (Pv p) (hp p h0) (fun i σ' H' _ h => .inl (.inl (hl p i σ' H' h0 h))) (fun i x σ' H' hx h => hs p i x σ' H' h0 hx h) (fun σ' H' h => hd p σ' H' h0 h)⟩
theorem cutV_from {xs : List V} {c : Nat} : cutV xs (some (c : Int)) none = xs.drop c := by
  unfold cutV
  rw [HT.sIx_none, HT.sIx_nat]
  by_cases h : c ≤ xs.length
  · rw [Nat.min_eq_left h]
    exact List.take_of_length_le (by rw [List.length_drop]; exact Nat.le_refl _)
  · rw [Nat.min_eq_right (by omega), List.drop_length, List.take_nil, List.drop_eq_nil_of_le (by omega)]
theorem cutV_to {xs : List V} {c : Nat} : cutV xs none (some (c : Int)) = xs.take c := by
  unfold cutV
  rw [HT.sIx_none, HT.sIx_nat, List.drop_zero, Nat.sub_zero]
  by_cases h : c ≤ xs.length
  · rw [Nat.min_eq_left h]
  · rw [Nat.min_eq_right (by omega), List.take_length, List.take_of_length_le (by omega)]
theorem suite_mem {X : Cx} {a : Addr} {oe : Obj} {pn : List (Addr × Obj)} : (a, oe) ∈ (X.suite a ((a, oe) :: pn)).pn := List.mem_cons_self ..
theorem call_isXs {X : Cx} {a : Addr} {oe : Obj} {pn : List (Addr × Obj)} {cls : Value} {d : Option Addr} (hz : L2N.Zn cls d oe) (hf : ∃ vs, oe.data = .fields vs) : CallR (X.suite a ((a, oe) :: pn)) (.builtin "isinstance") (rIsX X.K a cls d) :=
  call_isX (X := X.suite a ((a, oe) :: pn)) suite_mem (L2N.Zn.zc hz) hf
theorem pe_fxs {X : Cx} {a : Addr} {oe : Obj} {pn : List (Addr × Obj)} {cls : Value} {d : Option Addr} {e : Expr} {te : TE} {pos : Pos} {n : Str} (hz : L2N.Zn cls d oe) (hf : ∃ vs, oe.data = .fields vs) (he : PE (X.suite a ((a, oe) :: pn)) e te)
    (hb : attributeBase e n (X.suite a ((a, oe) :: pn)).env (eval e (X.suite a ((a, oe) :: pn)).env) = eval e (X.suite a ((a, oe) :: pn)).env := by rfl) : PE (X.suite a ((a, oe) :: pn)) (.Attribute e n pos) (tFx a cls d n X.K te) :=
  pe_fx (X := X.suite a ((a, oe) :: pn)) suite_mem (L2N.Zn.zc hz) hf he hb
/-- for k in range(j), j maybe less than nothing -/
theorem for_rngT {ta : TA} {g : TG} {tb : TS} {D : Ends} {σ : L2.St} {H : Hp} (j : Int) (hta : ∀ R : List V → Hp → Prop, R [.int j] H → ta σ H R) (h0 : -(2 ^ 62) ≤ j) (h1 : j < 2 ^ 62) (Pv : Nat → L2.St → Hp → Prop) (hp : Pv 0 σ H)
    (hs : ∀ (i : Nat) σ H, (i : Int) < j → Pv i σ H → g (.int (i : Int)) σ H fun σ2 H2 => tb { D with nx := Pv (i + 1), ct := Pv (i + 1), bk := D.nx } σ2 H2) (hd : ∀ σ H, Pv j.toNat σ H → D.nx σ H) : tFor (iRng1 ta) g tb D σ H :=
  hta _ ⟨j, rfl, h0, h1, for_range (lo := 0) (n := j.toNat) Pv hp (fun i σ H hi pv => by
    rw [Int.zero_add]
    exact hs i σ H (by omega) pv) hd⟩

/-! ### heappush, heappop over lists of ints -/
section
open PySem.AutoSeq1 PySem.MeetsSeq
def vals (ps : Array (Int × Tok)) : Array Value := ps.map fun p => Value.int p.1 p.2
theorem vals_size {ps : Array (Int × Tok)} : (vals ps).size = ps.size := Array.size_map ..
theorem vals_get {ps : Array (Int × Tok)} {i : Nat} (h : i < ps.size) : (vals ps)[i]? = some (Value.int ps[i].1 ps[i].2) := by
  unfold vals
  rw [Array.getElem?_map, Array.getElem?_eq_getElem h]
  rfl
theorem plain_sift : plainId "_heapq.heapify.sift" = true := by decide +kernel
theorem entry_sift : entryFor table "_heapq.heapify.sift" = some Builtin.«_heapq.heapify.sift» := entryFor_of_fast (by kernel_rfl)
def upS (l : Addr) (r : Value) (ps qs : Array (Int × Tok)) (n : Nat) : PySem.Spec := fun _ R s => s.heap.get? l = some { cls := .type "list", dict := none, data := .seq (vals ps) n, slots := #[] } ∧
  ∀ h' n' t', h'.get? l = some { cls := .type "list", dict := none, data := .seq (vals qs) n', slots := #[] } → (∀ b u, b ≠ l → s.heap.get? b = some u → h'.get? b = some u) → h'.objs.size = s.heap.objs.size → R (.ok (.ret r)) { s with heap := h', toks := t' }
def up (ps : Array (Int × Tok)) (pos : Nat) : Array (Int × Tok) :=
  if h : 0 < pos ∧ pos < ps.size then
    if ps[pos].1 < (ps[(pos - 1) / 2]'(by omega)).1 then up ((ps.setIfInBounds ((pos - 1) / 2) ps[pos]).setIfInBounds pos (ps[(pos - 1) / 2]'(by omega))) ((pos - 1) / 2) else ps
  else ps
termination_by pos
decreasing_by omega
theorem rc_lt {prog : Program} {w : World} {A : Around} {Q : Value → Shared → Prop} {E : Value → Shared → Prop} {s : Shared} {a b : Int} {t u : Tok} (h : Q (.bool (decide (a < b))) s) : wpAny (model prog w) A (richCompare .Lt (.int a t) (.int b u)) Q E s := PySem.P.lt_int h
theorem sift_up (l : Addr) (r : Value) (pos : Nat) : ∀ (ps : Array (Int × Tok)) (n : Nat), pos < ps.size → ps.size ≤ 100001 → Meets (Builtin.«_heapq.heapify.sift» ⟨[.ref l, .bool false, .bool false, rawInt (pos : Nat), rawInt (0 : Nat), r, rawInt (-1)], []⟩) (upS l r ps (up ps pos) n) := by
  induction pos using Nat.strongRecOn with
  | ind pos ih =>
    intro ps n hps hz prog w A R s h
    obtain ⟨hp, g, d, tk, os⟩ := s
    obtain ⟨hl, h⟩ := h
    have hz2 : (vals ps).size ≤ sizeLine := by rw [vals_size, sizeLine_eq]; omega
    wp_walk using wpAny_loadPart' hl
    by_cases hpos : 0 < pos
    · rw [if_pos (show ((pos : Nat) : Int).toNat > ((0 : Nat) : Int).toNat by rw [Int.toNat_natCast, Int.toNat_natCast]; exact hpos)]
      have hpar : (pos - 1) / 2 < ps.size := by omega
      simp only [Int.toNat_natCast]
      wp_walk
      rw [vals_get hps]
      wp_walk
      rw [vals_get hpar]
      wp_walk using rc_lt, wpAny_loadPart' hl
      by_cases c : ps[pos].1 < (ps[(pos - 1) / 2]).1
      · rw [if_pos (decide_eq_true c)]
        have e : up ps pos = up ((ps.setIfInBounds ((pos - 1) / 2) ps[pos]).setIfInBounds pos ps[(pos - 1) / 2]) ((pos - 1) / 2) := by
          rw [up, dif_pos ⟨hpos, hps⟩, if_pos c]
        have hz3 : (((vals ps).setIfInBounds ((pos - 1) / 2) (Value.int ps[pos].1 ps[pos].2)).setIfInBounds pos (Value.int (ps[(pos - 1) / 2]).1 (ps[(pos - 1) / 2]).2)).size ≤ sizeLine + 1 := by
          rw [Array.size_setIfInBounds, Array.size_setIfInBounds]
          omega
        wp_walk using wpAny_loadPart' hl
        rw [vals_get hpar]
        wp_walk
        rw [vals_get hps]
        wp_walk using (wpAny_updateSeq hl rfl (hz := hz2) (_hz' := hz3))
        have ev : vals ((ps.setIfInBounds ((pos - 1) / 2) ps[pos]).setIfInBounds pos ps[(pos - 1) / 2]) = ((vals ps).setIfInBounds ((pos - 1) / 2) (Value.int ps[pos].1 ps[pos].2)).setIfInBounds pos (Value.int (ps[(pos - 1) / 2]).1 (ps[(pos - 1) / 2]).2) := by
          unfold vals
          rw [Array.map_setIfInBounds, Array.map_setIfInBounds]
        have g1 := PySem.IsL.update hl (fun xs => (xs.setIfInBounds ((pos - 1) / 2) (Value.int ps[pos].1 ps[pos].2)).setIfInBounds pos (Value.int (ps[(pos - 1) / 2]).1 (ps[(pos - 1) / 2]).2))
        rw [← ev] at g1
        rw [e] at h
        exact ⟨plainId_quiet plain_sift _, codeAny_builtin entry_sift (by
          rw [Around.under_plainId plain_sift _]
          exact ih ((pos - 1) / 2) (by omega) _ _ (by rw [Array.size_setIfInBounds, Array.size_setIfInBounds]; exact hpar) (by rw [Array.size_setIfInBounds, Array.size_setIfInBounds]; exact hz) prog w A R _
            ⟨g1, fun h' n' t' a1 a2 a3 => h h' n' t' a1 (fun b u hb hu => a2 b u hb ((Heap.get?_update_other hp _ (Ne.symm hb)).trans hu)) (a3.trans (by simp [Heap.update]))⟩)⟩
      · rw [if_neg (by rw [decide_eq_true_eq]; exact c)]
        have e : up ps pos = ps := by
          rw [up, dif_pos ⟨hpos, hps⟩, if_neg c]
        rw [e] at h
        wp_walk
        exact h hp n tk hl (fun _ _ _ z => z) rfl
    · rw [if_neg (show ¬ ((pos : Nat) : Int).toNat > ((0 : Nat) : Int).toNat by rw [Int.toNat_natCast, Int.toNat_natCast]; exact hpos)]
      have e : up ps pos = ps := by
        unfold up
        rw [dif_neg (by omega)]
      rw [e] at h
      wp_walk
      exact h hp n tk hl (fun _ _ _ z => z) rfl
/-- the key at a place -/
def key (ps : Array (Int × Tok)) (i : Nat) : Int := (ps.getD i (0, 0)).1
theorem key_get {ps : Array (Int × Tok)} {i : Nat} (h : i < ps.size) : ps[i].1 = key ps i := by
  unfold key
  rw [Array.getD_eq_getD_getElem?, Array.getElem?_eq_getElem h]
  rfl
theorem key_set {ps : Array (Int × Tok)} {j : Nat} {y : Int × Tok} (h : j < ps.size) (i : Nat) : key (ps.setIfInBounds j y) i = if i = j then y.1 else key ps i := by
  unfold key
  rw [Array.getD_eq_getD_getElem?, Array.getD_eq_getD_getElem?, Array.getElem?_setIfInBounds]
  by_cases e : i = j
  · subst e
    rw [if_pos rfl, if_pos rfl, if_pos h]
    rfl
  · rw [if_neg (Ne.symm e), if_neg e]
def HpBut (ps : Array (Int × Tok)) (pos : Nat) : Prop := ∀ i, 0 < i → i < ps.size → i ≠ pos → key ps ((i - 1) / 2) ≤ key ps i
def IsHp (ps : Array (Int × Tok)) : Prop := ∀ i, 0 < i → i < ps.size → key ps ((i - 1) / 2) ≤ key ps i
theorem up_heap (pos : Nat) : ∀ ps : Array (Int × Tok), pos < ps.size → HpBut ps pos → (0 < pos → ∀ i, i < ps.size → 0 < i → (i - 1) / 2 = pos → key ps ((pos - 1) / 2) ≤ key ps i) → IsHp (up ps pos) := by
  induction pos using Nat.strongRecOn with
  | ind pos ih =>
    intro ps hps h1 h2
    by_cases hpos : 0 < pos
    · have hpar : (pos - 1) / 2 < ps.size := by omega
      by_cases c : ps[pos].1 < (ps[(pos - 1) / 2]).1
      · rw [up, dif_pos ⟨hpos, hps⟩, if_pos c]
        rw [key_get, key_get] at c
        have k1 : ∀ i, key ((ps.setIfInBounds ((pos - 1) / 2) ps[pos]).setIfInBounds pos ps[(pos - 1) / 2]) i = if i = pos then key ps ((pos - 1) / 2) else if i = (pos - 1) / 2 then key ps pos else key ps i := fun i => by
          rw [key_set (by rw [Array.size_setIfInBounds]; exact hps), key_set hpar, key_get, key_get]
        have sz : ((ps.setIfInBounds ((pos - 1) / 2) ps[pos]).setIfInBounds pos ps[(pos - 1) / 2]).size = ps.size := by rw [Array.size_setIfInBounds, Array.size_setIfInBounds]
        refine ih ((pos - 1) / 2) (by omega) _ (by rw [sz]; exact hpar) (fun i i0 i1 i2 => ?_) (fun p0 i i1 i0 i2 => ?_)
        · rw [sz] at i1
          rw [k1, k1]
          by_cases e : i = pos
          · subst e
            rw [if_neg (by omega), if_pos rfl, if_pos rfl]
            exact Int.le_of_lt c
          · rw [if_neg e, if_neg i2]
            have g := h1 i i0 i1 e
            by_cases e2 : (i - 1) / 2 = pos
            · rw [if_pos e2]
              exact h2 hpos i i1 i0 e2
            · rw [if_neg e2]
              by_cases e3 : (i - 1) / 2 = (pos - 1) / 2
              · rw [if_pos e3]
                rw [e3] at g
                omega
              · rw [if_neg e3]
                exact g
        · rw [sz] at i1
          rw [k1, k1, if_neg (by omega), if_neg (by omega)]
          have g := h1 ((pos - 1) / 2) p0 hpar (by omega)
          by_cases e : i = pos
          · rw [if_pos e]
            exact g
          · rw [if_neg e, if_neg (by omega)]
            have g2 := h1 i i0 i1 e
            rw [i2] at g2
            omega
      · rw [up, dif_pos ⟨hpos, hps⟩, if_neg c]
        rw [key_get, key_get] at c
        intro i i0 i1
        by_cases e : i = pos
        · subst e
          omega
        · exact h1 i i0 i1 e
    · rw [up, dif_neg (by omega)]
      exact fun i i0 i1 => h1 i i0 i1 (by omega)
theorem up_perm (pos : Nat) : ∀ ps : Array (Int × Tok), (up ps pos).toList.Perm ps.toList := by
  induction pos using Nat.strongRecOn with
  | ind pos ih =>
    intro ps
    by_cases h : 0 < pos ∧ pos < ps.size
    · have hpar : (pos - 1) / 2 < ps.size := by omega
      by_cases c : ps[pos].1 < (ps[(pos - 1) / 2]).1
      · rw [up, dif_pos h, if_pos c]
        refine (ih ((pos - 1) / 2) (by omega) _).trans ?_
        have e : (ps.setIfInBounds ((pos - 1) / 2) ps[pos]).setIfInBounds pos ps[(pos - 1) / 2] = ps.swap ((pos - 1) / 2) pos hpar h.2 := by
          simp [Array.swap_def, Array.setIfInBounds, hpar, h.2]
        rw [e]
        exact (Array.swap_perm hpar h.2).toList
      · rw [up, dif_pos h, if_neg c]
    · rw [up, dif_neg h]
theorem sub_tt : isSubtype (.type "tuple") (.type "tuple") = pure true := PySem.AutoSeq1.sub_tuple_tuple
theorem push_meets (l : Addr) (x : Int) (t : Tok) (ps : Array (Int × Tok)) (n : Nat) (hz : ps.size ≤ 100000) : Meets (Builtin.«_heapq.heappush» ⟨[.ref l, .int x t], []⟩) (upS l .none ps (up (ps.push (x, t)) ps.size) n) := by
  intro prog w A R s h
  obtain ⟨hp, g, d, tk, os⟩ := s
  obtain ⟨hl, h⟩ := h
  have f1 := idx_int
  have f2 := sub_tt
  have f3 := PySem.AutoSeq1.sub_list_list
  have f4 := PySem.AutoSeq1.sub_tuple_list
  have f5 := PySem.AutoSeq1.sub_list_tuple
  have hz' : ((vals ps).push (.int x t)).size ≤ sizeLine + 1 := by rw [Array.size_push, sizeLine_eq, vals_size]; omega
  have hz2 : (vals ps).size ≤ sizeLine := by rw [sizeLine_eq, vals_size]; omega
  have ev : vals (ps.push (x, t)) = (vals ps).push (.int x t) := by
    unfold vals
    rw [Array.map_push]
  have g1 := PySem.IsL.update hl (fun xs => xs.push (.int x t))
  rw [← ev] at g1
  wp_walk using (wpAny_updateSeq hl rfl (hz := hz2) (_hz' := hz')), wpAny_loadPart' hl, wpAny_loadPart' g1
  refine ⟨plainId_quiet plain_sift _, codeAny_builtin entry_sift ?_⟩
  rw [Around.under_plainId plain_sift _]
  have e : (vals (ps.push (x, t))).size - 1 = ps.size := by rw [vals_size, Array.size_push]; rfl
  rw [e]
  exact sift_up l _ ps.size (ps.push (x, t)) _ (by rw [Array.size_push]; omega) (by rw [Array.size_push]; omega) prog w A R _
    ⟨g1, fun h' n' t' a1 a2 a3 => h h' n' t' a1 (fun b u hb hu => a2 b u hb ((Heap.get?_update_other hp _ (Ne.symm hb)).trans hu)) (a3.trans (by simp [Heap.update]))⟩
/-- two places change -/
def sw (ps : Array (Int × Tok)) (i j : Nat) : Array (Int × Tok) := (ps.setIfInBounds i (ps.getD j (0, 0))).setIfInBounds j (ps.getD i (0, 0))
theorem sw_size {ps : Array (Int × Tok)} {i j : Nat} : (sw ps i j).size = ps.size := by
  unfold sw
  rw [Array.size_setIfInBounds, Array.size_setIfInBounds]
theorem getD_get {ps : Array (Int × Tok)} {i : Nat} (h : i < ps.size) : ps.getD i (0, 0) = ps[i] := by
  rw [Array.getD_eq_getD_getElem?, Array.getElem?_eq_getElem h]
  rfl
theorem sw_key {ps : Array (Int × Tok)} {i j : Nat} (hi : i < ps.size) (hj : j < ps.size) (k : Nat) : key (sw ps i j) k = if k = j then key ps i else if k = i then key ps j else key ps k := by
  unfold sw
  rw [key_set (by rw [Array.size_setIfInBounds]; exact hj), key_set hi]
  rfl
theorem sw_perm {ps : Array (Int × Tok)} {i j : Nat} (hi : i < ps.size) (hj : j < ps.size) : (sw ps i j).toList.Perm ps.toList := by
  have e : sw ps i j = ps.swap i j hi hj := by
    unfold sw
    rw [getD_get hi, getD_get hj]
    simp [Array.swap_def, Array.setIfInBounds, hi, hj]
  rw [e]
  exact (Array.swap_perm hi hj).toList
theorem sw_vals {ps : Array (Int × Tok)} {i j : Nat} (hi : i < ps.size) (hj : j < ps.size) : vals (sw ps i j) = ((vals ps).setIfInBounds i (Value.int ps[j].1 ps[j].2)).setIfInBounds j (Value.int ps[i].1 ps[i].2) := by
  unfold sw vals
  rw [getD_get hi, getD_get hj, Array.map_setIfInBounds, Array.map_setIfInBounds]
def dnC (ps : Array (Int × Tok)) (pos : Nat) : Nat := if 2 * pos + 1 + 1 < ps.size ∧ ¬ key ps (2 * pos + 1) < key ps (2 * pos + 1 + 1) then 2 * pos + 1 + 1 else 2 * pos + 1
theorem dnC_lt {ps : Array (Int × Tok)} {pos : Nat} (h : pos < ps.size / 2) : dnC ps pos < ps.size ∧ pos < dnC ps pos := by
  unfold dnC
  split <;> omega
def dn (ps : Array (Int × Tok)) (pos : Nat) : Array (Int × Tok) := if h : pos < ps.size / 2 then dn (sw ps (dnC ps pos) pos) (dnC ps pos) else up ps pos
termination_by ps.size - pos
decreasing_by
  have := dnC_lt h
  rw [sw_size]
  omega
theorem dn_perm (k : Nat) : ∀ (ps : Array (Int × Tok)) (pos : Nat), ps.size - pos = k → (dn ps pos).toList.Perm ps.toList := by
  induction k using Nat.strongRecOn with
  | ind k ih =>
    intro ps pos hk
    by_cases h : pos < ps.size / 2
    · have hc := dnC_lt h
      rw [dn, dif_pos h]
      exact (ih (ps.size - dnC ps pos) (by omega) (sw ps (dnC ps pos) pos) (dnC ps pos) (by rw [sw_size])).trans (sw_perm hc.1 (by omega))
    · rw [dn, dif_neg h]
      exact up_perm pos ps
theorem dn_heap (k : Nat) : ∀ (ps : Array (Int × Tok)) (pos : Nat), ps.size - pos = k → pos < ps.size → (∀ i, 0 < i → i < ps.size → i ≠ pos → (i - 1) / 2 ≠ pos → key ps ((i - 1) / 2) ≤ key ps i) →
    (0 < pos → ∀ i, i < ps.size → 0 < i → (i - 1) / 2 = pos → key ps ((pos - 1) / 2) ≤ key ps i) → IsHp (dn ps pos) := by
  induction k using Nat.strongRecOn with
  | ind k ih =>
    intro ps pos hk hp h1 h2
    by_cases h : pos < ps.size / 2
    · have hc := dnC_lt h
      have sm : ∀ i, i < ps.size → 0 < i → (i - 1) / 2 = pos → key ps (dnC ps pos) ≤ key ps i := fun i i1 i0 e => by
        have e2 : i = 2 * pos + 1 ∨ i = 2 * pos + 1 + 1 := by omega
        unfold dnC
        rcases e2 with rfl | rfl
        · split <;> omega
        · split
          · exact Int.le_refl _
          · rename_i g
            have g2 : key ps (2 * pos + 1) < key ps (2 * pos + 1 + 1) := Classical.byContradiction fun z => g ⟨i1, z⟩
            omega
      have pc : (dnC ps pos - 1) / 2 = pos := by
        unfold dnC
        split <;> omega
      rw [dn, dif_pos h]
      refine ih (ps.size - dnC ps pos) (by omega) (sw ps (dnC ps pos) pos) (dnC ps pos) (by rw [sw_size]) (by rw [sw_size]; exact hc.1) (fun i i0 i1 i2 i3 => ?_) (fun p0 i i1 i0 i2 => ?_)
      · rw [sw_size] at i1
        rw [sw_key hc.1 hp, sw_key hc.1 hp, if_neg i3, if_neg i2]
        by_cases e : i = pos
        · subst e
          rw [if_neg (by omega), if_pos rfl]
          exact h2 i0 _ hc.1 (by omega) pc
        · rw [if_neg e]
          by_cases e2 : (i - 1) / 2 = pos
          · rw [if_pos e2]
            exact sm i i1 i0 e2
          · rw [if_neg e2]
            exact h1 i i0 i1 e e2
      · rw [sw_size] at i1
        rw [sw_key hc.1 hp, sw_key hc.1 hp, pc, if_pos rfl, if_neg (by omega), if_neg (by omega)]
        have g := h1 i i0 i1 (by omega) (by omega)
        rw [i2] at g
        exact g
    · rw [dn, dif_neg h]
      exact up_heap pos ps hp (fun i i0 i1 i2 => h1 i i0 i1 i2 (by omega)) (fun p0 i i1 i0 i2 => by omega)
theorem sift_dn (l : Addr) (r : Value) (k : Nat) : ∀ (ps : Array (Int × Tok)) (pos : Nat) (n : Nat), ps.size - pos = k → pos < ps.size → ps.size ≤ 100001 →
    Meets (Builtin.«_heapq.heapify.sift» ⟨[.ref l, .bool false, .bool true, rawInt (pos : Nat), rawInt (0 : Nat), r, rawInt (-1)], []⟩) (upS l r ps (dn ps pos) n) := by
  induction k using Nat.strongRecOn with
  | ind k ih =>
    intro ps pos n hk hps hz prog w A R s h
    obtain ⟨hp, g, d, tk, os⟩ := s
    obtain ⟨hl, h⟩ := h
    have hz2 : (vals ps).size ≤ sizeLine := by rw [vals_size, sizeLine_eq]; omega
    wp_walk using wpAny_loadPart' hl
    by_cases hpos : pos < ps.size / 2
    · rw [if_pos (show ((pos : Nat) : Int).toNat < (vals ps).size / 2 by rw [Int.toNat_natCast, vals_size]; exact hpos)]
      simp only [Int.toNat_natCast]
      have hl2 : 2 * pos + 1 < ps.size := by omega
      wp_walk
      by_cases c1 : 2 * pos + 1 + 1 < ps.size
      · rw [if_pos (show 2 * pos + 1 + 1 < (vals ps).size by rw [vals_size]; exact c1)]
        wp_walk
        rw [vals_get hl2]
        wp_walk
        rw [vals_get c1]
        wp_walk using rc_lt, wpAny_loadPart' hl
        by_cases c2 : ¬ key ps (2 * pos + 1) < key ps (2 * pos + 1 + 1)
        · have c3 : (!decide ((ps[2 * pos + 1]).1 < (ps[2 * pos + 1 + 1]).1)) = true := by
            rw [key_get, key_get, decide_eq_false c2] <;> rfl
          rw [if_pos c3]
          have ec : dnC ps pos = 2 * pos + 1 + 1 := by
            unfold dnC
            rw [if_pos ⟨c1, c2⟩]
          have hc1 : 2 * pos + 1 + 1 < ps.size := by omega
          have g1 := PySem.IsL.update hl (fun xs => (xs.setIfInBounds (2 * pos + 1 + 1) (Value.int ps[pos].1 ps[pos].2)).setIfInBounds pos (Value.int (ps[2 * pos + 1 + 1]).1 (ps[2 * pos + 1 + 1]).2))
          rw [← sw_vals hc1 hps] at g1
          rw [dn, dif_pos hpos] at h
          have hz3 : (((vals ps).setIfInBounds (2 * pos + 1 + 1) (Value.int ps[pos].1 ps[pos].2)).setIfInBounds pos (Value.int (ps[2 * pos + 1 + 1]).1 (ps[2 * pos + 1 + 1]).2)).size ≤ sizeLine + 1 := by
            rw [Array.size_setIfInBounds, Array.size_setIfInBounds]
            omega
          wp_walk using wpAny_loadPart' hl
          rw [vals_get hc1]
          wp_walk
          rw [vals_get hps]
          wp_walk using (wpAny_updateSeq hl rfl (hz := hz2) (_hz' := hz3))
          refine ⟨plainId_quiet plain_sift _, codeAny_builtin entry_sift ?_⟩
          rw [Around.under_plainId plain_sift _]
          have key2 := fun n2 => ih (ps.size - dnC ps pos) (by have := dnC_lt hpos; omega) (sw ps (dnC ps pos) pos) (dnC ps pos) n2 (by rw [sw_size]) (by rw [sw_size]; exact (dnC_lt hpos).1) (by rw [sw_size]; exact hz) prog w A R
          rw [ec] at key2 h
          exact key2 _ _ ⟨g1, fun h' n' t' a1 a2 a3 => h h' n' t' a1 (fun b u hb hu => a2 b u hb ((Heap.get?_update_other hp _ (Ne.symm hb)).trans hu)) (a3.trans (by simp [Heap.update]))⟩
        · have c3 : ¬ (!decide ((ps[2 * pos + 1]).1 < (ps[2 * pos + 1 + 1]).1)) = true := by
            rw [key_get, key_get, decide_eq_true (Classical.not_not.mp c2)]
            decide
          rw [if_neg c3]
          have ec : dnC ps pos = 2 * pos + 1 := by
            unfold dnC
            rw [if_neg (fun z => z.2 (Classical.not_not.mp c2))]
          have hc1 : 2 * pos + 1 < ps.size := by omega
          have g1 := PySem.IsL.update hl (fun xs => (xs.setIfInBounds (2 * pos + 1) (Value.int ps[pos].1 ps[pos].2)).setIfInBounds pos (Value.int (ps[2 * pos + 1]).1 (ps[2 * pos + 1]).2))
          rw [← sw_vals hc1 hps] at g1
          rw [dn, dif_pos hpos] at h
          have hz3 : (((vals ps).setIfInBounds (2 * pos + 1) (Value.int ps[pos].1 ps[pos].2)).setIfInBounds pos (Value.int (ps[2 * pos + 1]).1 (ps[2 * pos + 1]).2)).size ≤ sizeLine + 1 := by
            rw [Array.size_setIfInBounds, Array.size_setIfInBounds]
            omega
          wp_walk using wpAny_loadPart' hl
          rw [vals_get hc1]
          wp_walk
          rw [vals_get hps]
          wp_walk using (wpAny_updateSeq hl rfl (hz := hz2) (_hz' := hz3))
          refine ⟨plainId_quiet plain_sift _, codeAny_builtin entry_sift ?_⟩
          rw [Around.under_plainId plain_sift _]
          have key2 := fun n2 => ih (ps.size - dnC ps pos) (by have := dnC_lt hpos; omega) (sw ps (dnC ps pos) pos) (dnC ps pos) n2 (by rw [sw_size]) (by rw [sw_size]; exact (dnC_lt hpos).1) (by rw [sw_size]; exact hz) prog w A R
          rw [ec] at key2 h
          exact key2 _ _ ⟨g1, fun h' n' t' a1 a2 a3 => h h' n' t' a1 (fun b u hb hu => a2 b u hb ((Heap.get?_update_other hp _ (Ne.symm hb)).trans hu)) (a3.trans (by simp [Heap.update]))⟩
      · rw [if_neg (show ¬ 2 * pos + 1 + 1 < (vals ps).size by rw [vals_size]; exact c1)]
        have ec : dnC ps pos = 2 * pos + 1 := by
          unfold dnC
          rw [if_neg (fun z => c1 z.1)]
        have hc1 : 2 * pos + 1 < ps.size := by omega
        have g1 := PySem.IsL.update hl (fun xs => (xs.setIfInBounds (2 * pos + 1) (Value.int ps[pos].1 ps[pos].2)).setIfInBounds pos (Value.int (ps[2 * pos + 1]).1 (ps[2 * pos + 1]).2))
        rw [← sw_vals hc1 hps] at g1
        rw [dn, dif_pos hpos] at h
        have hz3 : (((vals ps).setIfInBounds (2 * pos + 1) (Value.int ps[pos].1 ps[pos].2)).setIfInBounds pos (Value.int (ps[2 * pos + 1]).1 (ps[2 * pos + 1]).2)).size ≤ sizeLine + 1 := by
          rw [Array.size_setIfInBounds, Array.size_setIfInBounds]
          omega
        wp_walk using wpAny_loadPart' hl
        rw [vals_get hc1]
        wp_walk
        rw [vals_get hps]
        wp_walk using (wpAny_updateSeq hl rfl (hz := hz2) (_hz' := hz3))
        refine ⟨plainId_quiet plain_sift _, codeAny_builtin entry_sift ?_⟩
        rw [Around.under_plainId plain_sift _]
        have key2 := fun n2 => ih (ps.size - dnC ps pos) (by have := dnC_lt hpos; omega) (sw ps (dnC ps pos) pos) (dnC ps pos) n2 (by rw [sw_size]) (by rw [sw_size]; exact (dnC_lt hpos).1) (by rw [sw_size]; exact hz) prog w A R
        rw [ec] at key2 h
        exact key2 _ _ ⟨g1, fun h' n' t' a1 a2 a3 => h h' n' t' a1 (fun b u hb hu => a2 b u hb ((Heap.get?_update_other hp _ (Ne.symm hb)).trans hu)) (a3.trans (by simp [Heap.update]))⟩
    · rw [if_neg (show ¬ ((pos : Nat) : Int).toNat < (vals ps).size / 2 by rw [Int.toNat_natCast, vals_size]; exact hpos)]
      rw [dn, dif_neg hpos] at h
      wp_walk
      refine ⟨plainId_quiet plain_sift _, codeAny_builtin entry_sift ?_⟩
      rw [Around.under_plainId plain_sift _]
      exact sift_up l r pos ps n hps hz prog w A R _ ⟨hl, h⟩
end
section
open PySem.AutoSeq1 PySem.MeetsSeq
theorem pop_meets1 (l : Addr) (x : Int) (t : Tok) (n : Nat) : Meets (Builtin.«_heapq.heappop» ⟨[.ref l], []⟩) (upS l (.int x t) #[(x, t)] #[] n) := by
  intro prog w A R s h
  obtain ⟨hp, g, d, tk, os⟩ := s
  obtain ⟨hl, h⟩ := h
  have f2 := sub_tt
  have f3 := PySem.AutoSeq1.sub_list_list
  have f4 := PySem.AutoSeq1.sub_tuple_list
  have f5 := PySem.AutoSeq1.sub_list_tuple
  have eb : (vals #[(x, t)]).back? = some (.int x t) := by
    unfold vals
    simp
  have g1 := PySem.IsL.update hl (fun xs => xs.pop)
  have hz2 : (vals #[(x, t)]).size ≤ sizeLine := by rw [vals_size, sizeLine_eq]; simp
  have hz3 : ((vals #[(x, t)]).pop).size ≤ sizeLine + 1 := by rw [Array.size_pop, vals_size, sizeLine_eq]; simp
  have ep : (vals #[(x, t)]).pop = vals #[] := by
    unfold vals
    simp
  rw [ep] at g1
  wp_walk using wpAny_loadPart' hl
  rw [eb]
  wp_walk using (wpAny_updateSeq hl rfl (hz := hz2) (_hz' := hz3)), wpAny_loadPart' hl
  rw [if_pos (show ((vals #[(x, t)]).size == 1) = true by rw [vals_size]; rfl)]
  wp_walk
  exact h _ _ _ g1 (fun b u hb hu => (Heap.get?_update_other hp _ (Ne.symm hb)).trans hu) (by simp [Heap.update])
theorem pop_meets (l : Addr) (x y : Int) (t u : Tok) (ps : Array (Int × Tok)) (n : Nat) (hz : ps.size ≤ 100000) :
    Meets (Builtin.«_heapq.heappop» ⟨[.ref l], []⟩) (upS l (.int x t) (#[(x, t)] ++ ps ++ #[(y, u)]) (dn (#[(y, u)] ++ ps) 0) n) := by
  intro prog w A R s h
  obtain ⟨hp, g, d, tk, os⟩ := s
  obtain ⟨hl, h⟩ := h
  have f2 := sub_tt
  have f3 := PySem.AutoSeq1.sub_list_list
  have f4 := PySem.AutoSeq1.sub_tuple_list
  have f5 := PySem.AutoSeq1.sub_list_tuple
  have eb : (vals (#[(x, t)] ++ ps ++ #[(y, u)])).back? = some (.int y u) := by
    unfold vals
    simp
  have e0 : (vals (#[(x, t)] ++ ps ++ #[(y, u)]))[0]? = some (.int x t) := by
    unfold vals
    rw [Array.map_append, Array.map_append, Array.append_assoc, Array.getElem?_append_left (by simp)]
    simp
  have ep : (vals (#[(x, t)] ++ ps ++ #[(y, u)])).pop = vals (#[(x, t)] ++ ps) := by
    unfold vals
    simp
  have es : (vals (#[(x, t)] ++ ps)).setIfInBounds 0 (.int y u) = vals (#[(y, u)] ++ ps) := by
    unfold vals
    apply Array.ext'
    simp [Array.toList_setIfInBounds]
  have sz : (vals (#[(x, t)] ++ ps ++ #[(y, u)])).size = ps.size + 2 := by
    rw [vals_size]
    simp
    omega
  have sz2 : (vals (#[(x, t)] ++ ps)).size = ps.size + 1 := by
    rw [vals_size]
    simp
    omega
  have sz3 : (vals (#[(y, u)] ++ ps)).size = ps.size + 1 := by
    rw [vals_size]
    simp
    omega
  have g1 := PySem.IsL.update hl (fun xs => xs.pop)
  rw [ep] at g1
  have g2 := PySem.IsL.update g1 (fun xs => xs.setIfInBounds 0 (.int y u))
  rw [es] at g2
  have hz2 : (vals (#[(x, t)] ++ ps ++ #[(y, u)])).size ≤ sizeLine := by rw [sz, sizeLine_eq]; omega
  have hz3 : ((vals (#[(x, t)] ++ ps ++ #[(y, u)])).pop).size ≤ sizeLine + 1 := by rw [ep, sz2, sizeLine_eq]; omega
  have hz4 : (vals (#[(x, t)] ++ ps)).size ≤ sizeLine := by rw [sz2, sizeLine_eq]; omega
  have hz5 : ((vals (#[(x, t)] ++ ps)).setIfInBounds 0 (.int y u)).size ≤ sizeLine + 1 := by rw [es, sz3, sizeLine_eq]; omega
  have ne1 : ((vals (#[(x, t)] ++ ps ++ #[(y, u)])).size == 1) = false := by
    rw [sz]
    simp
  wp_walk using wpAny_loadPart' hl
  rw [eb]
  wp_walk using (wpAny_updateSeq hl rfl (hz := hz2) (_hz' := hz3)), wpAny_loadPart' hl
  rw [ne1]
  rw [if_neg (by decide)]
  wp_walk
  rw [e0]
  wp_walk using (wpAny_updateSeq g1 rfl (hz := hz4) (_hz' := hz5)), wpAny_loadPart' hl
  refine ⟨plainId_quiet plain_sift _, codeAny_builtin entry_sift ?_⟩
  rw [Around.under_plainId plain_sift _]
  exact sift_dn l (.int x t) ((#[(y, u)] ++ ps).size - 0) (#[(y, u)] ++ ps) 0 _ rfl (by simp; omega) (by simp; omega) prog w A R _
    ⟨g2, fun h' n' t' a1 a2 a3 => h h' n' t' a1 (fun b v hb hv => a2 b v hb ((Heap.get?_update_other _ _ (Ne.symm hb)).trans ((Heap.get?_update_other hp _ (Ne.symm hb)).trans hv))) (a3.trans (by simp [Heap.update]))⟩
end
/-- a heap, as a list of ints -/
def HpL (xs : List Int) : Prop := ∀ i, 0 < i → i < xs.length → xs.getD ((i - 1) / 2) 0 ≤ xs.getD i 0
theorem HpL.nil : HpL [] := fun i _ h => absurd h (by simp)
theorem key_getD {ps : Array (Int × Tok)} {xs : List Int} (h : ps.toList.map (·.1) = xs) (i : Nat) : key ps i = xs.getD i 0 := by
  subst h
  unfold key
  by_cases e : i < ps.size
  · rw [getD_get e]
    simp [List.getD_eq_getElem?_getD, e]
  · simp [Array.getD_eq_getD_getElem?, List.getD_eq_getElem?_getD, e]
theorem hpL_iff {ps : Array (Int × Tok)} {xs : List Int} (h : ps.toList.map (·.1) = xs) : IsHp ps ↔ HpL xs := by
  have sz : xs.length = ps.size := by
    rw [← h]
    simp
  unfold IsHp HpL
  rw [sz]
  constructor
  · intro q i i0 i1
    have := q i i0 i1
    rwa [key_getD h, key_getD h] at this
  · intro q i i0 i1
    have := q i i0 i1
    rwa [key_getD h, key_getD h]
theorem HpL.least : ∀ {xs : List Int}, HpL xs → ∀ (i : Nat), i < xs.length → xs.getD 0 0 ≤ xs.getD i 0 := by
  intro xs h i
  induction i using Nat.strongRecOn with
  | ind i ih =>
    intro hi
    by_cases e : i = 0
    · rw [e]
      exact Int.le_refl _
    · have a := ih ((i - 1) / 2) (by omega) (by omega)
      have b := h i (by omega) hi
      omega
theorem HpL.head {x : Int} {xs : List Int} (h : HpL (x :: xs)) : ∀ y ∈ xs, x ≤ y := by
  intro y hy
  obtain ⟨i, hi⟩ := List.mem_iff_getElem?.mp hy
  have := h.least (i + 1) (by have := (List.getElem?_eq_some_iff.mp hi).1; simp; omega)
  simpa [List.getD_eq_getElem?_getD, hi] using this
/-- a list of ints as it stands on the heap -/
theorem ints_arr : ∀ {its : List Value} {ns : List Int}, Vals (ns.map V.int) its → ∃ ps : List (Int × Tok), its = (ps.map fun p => Value.int p.1 p.2) ∧ ps.map (·.1) = ns
  | [], [], _ => ⟨[], rfl, rfl⟩
  | u :: us, n :: ns, h => by
    cases h with
    | cons a b =>
      obtain ⟨t, rfl⟩ := a
      obtain ⟨ps, e1, e2⟩ := ints_arr b
      exact ⟨(n, t) :: ps, by rw [e1]; rfl, by simp [e2]⟩
  | [], n :: ns, h => by cases h
  | u :: us, [], h => by cases h
theorem arr_ints {ps : List (Int × Tok)} : Vals ((ps.map (·.1)).map V.int) (ps.map fun p => Value.int p.1 p.2) := by
  induction ps with
  | nil => exact .nil
  | cons p ps ih => exact .cons ⟨p.2, rfl⟩ ih
def rPush : List V → Hp → VK → Prop := fun vs H Q => ∃ (l : Addr) (x : Int) (xs : List Int), vs = [.ref l, .int x] ∧ H l = some (.lst (xs.map V.int)) ∧ xs.length ≤ 100000 ∧
  ∀ ys : List Int, ys.Perm (x :: xs) → (HpL xs → HpL ys) → Q .non (upd H l (.lst (ys.map V.int)))
def rPopH : List V → Hp → VK → Prop := fun vs H Q => ∃ (l : Addr) (x : Int) (xs : List Int), vs = [.ref l] ∧ H l = some (.lst ((x :: xs).map V.int)) ∧ xs.length ≤ 100000 ∧
  ∀ ys : List Int, ys.Perm xs → (HpL (x :: xs) → HpL ys) → Q (.int x) (upd H l (.lst (ys.map V.int)))
theorem kind_push : builtinKind "_heapq.heappush" = none := by decide +kernel
theorem plain_push : plainId "_heapq.heappush" = true := by decide +kernel
theorem entry_push : entryFor table "_heapq.heappush" = some Builtin.«_heapq.heappush» := entryFor_of_fast (by kernel_rfl)
theorem kind_popH : builtinKind "_heapq.heappop" = none := by decide +kernel
theorem plain_popH : plainId "_heapq.heappop" = true := by decide +kernel
theorem entry_popH : entryFor table "_heapq.heappop" = some Builtin.«_heapq.heappop» := entryFor_of_fast (by kernel_rfl)
theorem args_push (a b : Value) : argsOk "_heapq.heappush" ⟨[a, b], []⟩ := by
  unfold argsOk
  first | rfl | kernel_rfl
theorem args_popH (a : Value) : argsOk "_heapq.heappop" ⟨[a], []⟩ := by
  unfold argsOk
  first | rfl | kernel_rfl
section
variable {X : Cx}
theorem inv_frame {pins : List (Addr × Obj)} {σ : L2.St} {H : Hp} {s : Shared} {l : Addr} {xs : List V} {ys : List Int} {qs : Array (Int × Tok)} {h' : Heap} {n' t' : Nat} (I : Inv X pins σ H s) (hH : H l = some (.lst xs))
    (a1 : h'.get? l = some { cls := .type "list", dict := none, data := .seq (vals qs) n', slots := #[] }) (a2 : ∀ b u, b ≠ l → s.heap.get? b = some u → h'.get? b = some u) (e : qs.toList.map (·.1) = ys) (hz : ys.length ≤ sizeLine) :
    Inv X pins σ (upd H l (.lst (ys.map V.int))) { s with heap := h', toks := t' } := by
  refine I.write (x := l) (e := l) (by rw [hH]; exact trivial) (.inl rfl) a2 ⟨_, a1⟩ ?_
  refine ⟨by rw [List.length_map]; exact hz, qs.toList.map fun p => Value.int p.1 p.2, n', ?_, ?_⟩
  · subst e
    exact arr_ints
  · rw [a1]
    have : (qs.toList.map fun p => Value.int p.1 p.2).toArray = vals qs := by
      unfold vals
      apply Array.ext'
      simp
    rw [this]
theorem call_push : CallR X (.builtin "_heapq.heappush") rPush := by
  intro pins s σ H vs us Q I r h
  obtain ⟨l, x, xs, rfl, hH, hz, q⟩ := h
  obtain ⟨u1, u2, rfl, r1, r2⟩ := vals2 r
  cases r1
  obtain ⟨t, rfl⟩ := r2
  obtain ⟨z, its, n, rv, hl, e⟩ := I.lstM hH
  obtain ⟨ps, e1, e2⟩ := ints_arr rv
  subst e1
  have ev : (ps.map fun p => Value.int p.1 p.2).toArray = vals ps.toArray := by
    unfold vals
    simp
  rw [ev] at e
  have sz : ps.toArray.size = xs.length := by
    rw [← e2]
    simp
  refine call_function_meets kind_push plain_push entry_push (args_push _ _) (push_meets l x t ps.toArray n (by omega)) ⟨e, fun h' n' t' a1 a2 a3 => ?_⟩
  have hp := up_perm ps.toArray.size (ps.toArray.push (x, t))
  have hp2 : ((up (ps.toArray.push (x, t)) ps.toArray.size).toList.map (·.1)).Perm (x :: xs) := by
    refine (hp.map (·.1)).trans ?_
    rw [Array.toList_push, List.map_append, e2]
    exact List.perm_append_comm
  refine ⟨.non, _, inv_frame I hH a1 a2 rfl ?_, rfl, q _ hp2 fun h => ?_⟩
  · rw [hp2.length_eq, List.length_cons, sizeLine_eq]
    omega
  · refine (hpL_iff rfl).mp (up_heap _ _ (by rw [Array.size_push]; omega) (fun i i0 i1 i2 => ?_) (fun p0 i i1 i0 i2 => ?_))
    · rw [Array.size_push] at i1
      have ps2 : (ps.toArray.push (x, t)).toList.map (·.1) = xs ++ [x] := by
        rw [Array.toList_push, List.map_append, e2]
        rfl
      rw [key_getD ps2, key_getD ps2]
      have := h i i0 (by omega)
      have a1 : (xs ++ [x]).getD ((i - 1) / 2) 0 = xs.getD ((i - 1) / 2) 0 := by
        rw [List.getD_eq_getElem?_getD, List.getElem?_append_left (by omega), List.getD_eq_getElem?_getD]
      have a2 : (xs ++ [x]).getD i 0 = xs.getD i 0 := by
        rw [List.getD_eq_getElem?_getD, List.getElem?_append_left (by omega), List.getD_eq_getElem?_getD]
      rw [a1, a2]
      exact this
    · rw [Array.size_push] at i1
      omega
theorem call_popH : CallR X (.builtin "_heapq.heappop") rPopH := by
  intro pins s σ H vs us Q I r h
  obtain ⟨l, x, xs, rfl, hH, hz, q⟩ := h
  have er := Vals.ref1 r
  subst er
  obtain ⟨z, its, n, rv, hl, e⟩ := I.lstM hH
  obtain ⟨ps, e1, e2⟩ := ints_arr rv
  subst e1
  have ev : (ps.map fun p => Value.int p.1 p.2).toArray = vals ps.toArray := by
    unfold vals
    simp
  rw [ev] at e
  rcases List.eq_nil_or_concat xs with hx | ⟨zs, y, hx⟩
  · subst hx
    match ps, e2 with
    | [(x', t)], e2 =>
      have : x' = x := by simpa using e2
      subst this
      refine call_function_meets kind_popH plain_popH entry_popH (args_popH _) (pop_meets1 l x' t n) ⟨e, fun h' n' t' a1 a2 a3 => ?_⟩
      exact ⟨.int x', _, inv_frame I hH a1 a2 (ys := []) rfl (Nat.zero_le _), ⟨_, rfl⟩, q [] (List.Perm.refl _) fun _ => HpL.nil⟩
  · rw [List.concat_eq_append] at hx
    subst hx
    have : ∃ t qs u, ps = (x, t) :: qs ++ [(y, u)] ∧ qs.map (·.1) = zs := by
      match ps, e2 with
      | (x', t) :: ps', e2 =>
        rw [List.map_cons, List.cons.injEq] at e2
        obtain ⟨e3, e4⟩ := e2
        rcases List.eq_nil_or_concat ps' with h | ⟨qs, w, h⟩
        · subst h
          simp at e4
        · rw [List.concat_eq_append] at h
          subst h
          rw [List.map_append] at e4
          have h1 := List.append_inj' e4 (by simp)
          have h2 : w.1 = y := by simpa using h1.2
          subst e3
          subst h2
          exact ⟨t, qs, w.2, rfl, h1.1⟩
    obtain ⟨t, qs, u, rfl, eq⟩ := this
    have ea : ((x, t) :: qs ++ [(y, u)]).toArray = #[(x, t)] ++ qs.toArray ++ #[(y, u)] := by
      apply Array.ext'
      simp
    rw [ea] at e
    have sq : qs.toArray.size = zs.length := by
      rw [← eq]
      simp
    rw [List.length_append] at hz
    have hz1 : zs.length + 1 ≤ 100000 := hz
    refine call_function_meets kind_popH plain_popH entry_popH (args_popH _) (pop_meets l x y t u qs.toArray n (by omega)) ⟨e, fun h' n' t' a1 a2 a3 => ?_⟩
    have hp := dn_perm _ (#[(y, u)] ++ qs.toArray) 0 rfl
    have hp2 : ((dn (#[(y, u)] ++ qs.toArray) 0).toList.map (·.1)).Perm (zs ++ [y]) := by
      refine (hp.map (·.1)).trans ?_
      rw [Array.toList_append, List.map_append, List.toList_toArray, eq]
      exact List.perm_append_comm
    refine ⟨.int x, _, inv_frame I hH a1 a2 rfl ?_, ⟨_, rfl⟩, q _ hp2 fun h => ?_⟩
    · rw [hp2.length_eq, List.length_append, sizeLine_eq]
      show zs.length + 1 ≤ _
      omega
    · have ps2 : (#[(y, u)] ++ qs.toArray).toList.map (·.1) = y :: zs := by
        simp [eq]
      have sz2 : (#[(y, u)] ++ qs.toArray).size = zs.length + 1 := by
        simp
        rw [← eq]
        simp
      refine (hpL_iff rfl).mp (dn_heap _ _ 0 rfl (by omega) (fun i i0 i1 i2 i3 => ?_) (fun p0 => absurd p0 (by omega)))
      rw [key_getD ps2, key_getD ps2]
      rw [sz2] at i1
      have g : ∀ j, 0 < j → j < zs.length + 1 → (y :: zs).getD j 0 = (x :: (zs ++ [y])).getD j 0 := fun j j0 j1 => by
        obtain ⟨k, rfl⟩ : ∃ k, j = k + 1 := ⟨j - 1, by omega⟩
        rw [List.getD_cons_succ, List.getD_cons_succ, List.getD_eq_getElem?_getD, List.getD_eq_getElem?_getD, List.getElem?_append_left (by omega)]
      rw [g _ (by omega) (by omega), g _ i0 i1]
      exact h i i0 (by simp; omega)
end

/-! ### xs[:] = ys, sorted of a dict, d.get(k) -/
theorem PE.by {X : Cx} {e : Expr} {t t' : TE} (h : PE X e t) (w : ∀ σ H Q, t' σ H Q → t σ H Q) : PE X e t' := ⟨fun pins s σ H Q I q => h.run pins s σ H Q I (w σ H Q q)⟩
section
variable {pg : Program} {wd : World} {Ar : Around} {Er : Value → Shared → Prop} {sh : Shared}
/-- where a whole list is replaced: from its beginning to its end, by ones -/
theorem whole_bounds {k : Nat} : sliceBounds none none none k = ((0 : Int), (k : Int), 1) := by simp [sliceBounds]
theorem set_whole {p q c : Addr} {old fresh : Array Value} {e1 e2 : Nat} {u v : Value} {R : Unit → Shared → Prop}
    (hp : sh.heap.get? p = some { cls := .type "list", data := .seq old e1 }) (hq : sh.heap.get? q = some { cls := .type "list", data := .seq fresh e2 }) (pq : p ≠ q)
    (hc : sh.heap.IsSliceOf c u v .none) (hu : IsPart u none) (hv : IsPart v none) (fits : old.size + fresh.size ≤ sizeLine)
    (k : R () { sh with heap := sh.heap.update p (Obj.mapSeq fun xs => xs.extract 0 0 ++ fresh ++ xs.extract old.size xs.size) }) : wpAny (model pg wd) Ar (setItem (.ref p) (.ref c) (.ref q)) R Er sh := by
  have lp := PySem.IsL.isList hp
  have lq := PySem.IsL.isList hq
  obtain ⟨oc, gc, cc, dc⟩ := id hc
  have tc : sh.TypeIs (.ref c) "slice" := ⟨oc, gc, cc⟩
  have other : Builtin.List.listSameRef (.ref p) (.ref q) = false := by unfold Builtin.List.listSameRef; exact beq_eq_false_iff_ne.mpr pq
  have upTo : (max ((0 : Nat) : Int) (old.size : Int)).toNat = old.size := by omega
  have grows : ((fun xs : Array Value => xs.extract 0 0 ++ fresh ++ xs.extract old.size xs.size) old).size ≤ sizeLine + 1 := by simp only [Array.size_append, Array.size_extract]; omega
  unfold setItem
  with_reducible refine wpAny_holding (wpAny_bind (wpAny_sequenceKey lp.typeIs (by decide) (wpAny_bind (wpAny_callSpecial?_slot (name := Str.ofString "__setitem__") lp.typeIs slot_list_setitem (wpAny_call_entry slot_list_setitem lp.typeIs entry_list_setitem ?_ (args_list_setitem _ _ _))))))
  show wpAny _ _ (Builtin.List.listSubscript? (.ref c) >>= _) _ _ sh; refine wpAny_bind ?_
  unfold Builtin.List.listSubscript?; refine wpAny_bind (wpAny_specialOf tc slice_no_index ?_)
  simp only [Option.isNone_none, if_true]; refine wpAny_pure ?_
  show wpAny _ _ (typeOf (.ref c) >>= _) _ _ sh; refine wpAny_bind (wpAny_typeOf tc (PySem.W.KFB.if_not (by decide) ?_))
  rw [listSliceParts_eq]; refine wpAny_bind (wpAny_bind (wpAny_field gc dc (x := .none) rfl (wpAny_bind (wpAny_listPart .none ?_)))); rw [if_neg (show ¬ (rawPart none == rawInt 0) = true from Bool.false_ne_true)]
  refine wpAny_bind (wpAny_field gc dc (x := u) rfl (wpAny_bind (wpAny_listPart hu (wpAny_bind (wpAny_field gc dc (x := v) rfl (wpAny_bind (wpAny_listPart hv (wpAny_pure ?_))))))))
  refine PySem.W.KFB.if_not other (wpAny_bind (m := Builtin.List.listAllItems (.ref q) _) ?_)
  unfold Builtin.List.listAllItems; refine wpAny_bind (wpAny_typeOf lq.typeIs (PySem.W.KFB.if_so (by decide) ?_))
  unfold Builtin.List.listItems; refine wpAny_bind (wpAny_seqItems hq rfl (wpAny_pure (wpAny_bind (wpAny_bind (wpAny_seqItems hp rfl (wpAny_pure ?_))))))
  refine wpAny_bind (wpAny_of_eq ((sliceIndices_raw none none none old.size (by simp)).trans (congrArg (pure : Int × Int × Int → Sem (Int × Int × Int)) whole_bounds)) ?_)
  show wpAny _ _ (if ((1 : Int) == 1) = true then _ else _) _ _ sh; rw [if_pos (by decide)]
  refine wpAny_bind (wpAny_rule (PySem.W.KFB.if_not (notLongL fits) ?_))
  first | refine wpAny_bind (wpAny_pure ?_) | (skip; skip)
  show wpAny _ _ (updateSeq p (fun xs => xs.extract 0 (((0 : Nat) : Int)).toNat ++ fresh ++ xs.extract (max ((0 : Nat) : Int) (old.size : Int)).toNat xs.size) >>= _) _ _ sh; rw [upTo, Int.toNat_natCast]
  refine wpAny_bind (wpAny_updateSeq (hz := Nat.le_trans (Nat.le_add_right _ _) fits) (_hz' := grows) hp rfl (wpAny_bind (wpAny_letGo ?_)))
  first | exact wpAny_bind (wpAny_pure (wpAny_pure ⟨.none, rfl, wpAny_pure k⟩)) | exact wpAny_pure ⟨.none, rfl, wpAny_pure k⟩
end
def gAll (to : TE) : TG := fun v σ H Q => to σ H fun x H1 => ∃ l b, x = .ref l ∧ v = .ref b ∧ l ≠ b ∧ lstAt H1 l fun xs => lstAt H1 b fun ys => xs.length + ys.length ≤ sizeLine ∧ Q σ (upd H1 l (.lst ys))
section
variable {X : Cx}
theorem pg_all {o : Expr} {to : TE} {p2 pos : Pos} (ho : PE X o to)
    (shape : ∀ v, assign (.Subscript o (.Slice none none none p2) pos) X.env v = (do let ov ← holding [v] (eval o X.env); let iv ← holding [v, ov] (eval (.Slice none none none p2) X.env); standAt pos; holding [v, ov, iv] (setItem ov iv v); release [iv, v, ov] []) := by intro _; rfl) : PG X (.Subscript o (.Slice none none none p2) pos) (gAll to) := by
  refine ⟨fun pins sh σ H v u Q inv rel ask => ?_⟩
  rw [shape]; refine wpAny_bind (wpAny_holding (thn (ho.run pins sh σ H _ inv ask) fun ov s1 hh => ?_))
  obtain ⟨x, H1, I1, r1, l, b, rfl, rfl, hne, q1⟩ := hh
  obtain ⟨xs, hx, q1⟩ := lstAt_get q1
  obtain ⟨ys, hy, hz, q1⟩ := lstAt_get q1
  cases r1
  cases rel
  refine wpAny_bind (wpAny_holding (wpAny_Slice ?_)); rw [evalPart_none]
  refine wpAny_pure (wpAny_pure (wpAny_pure ?_))
  have I4 : Inv X pins σ H1 { s1 with heap := s1.heap.push { cls := .type "slice", data := .fields #[.none, .none, .none] } } := I1.kept (t' := s1.toks) fun b ob q => Heap.get?_push_of_some _ q
  obtain ⟨_, its, n, rv, hl, e⟩ := I4.lstM hx
  obtain ⟨z2, its2, n2, r2, hl2, e2⟩ := I4.lstM hy
  refine wpAny_bind (wpAny_standAt (wpAny_bind (wpAny_holding (set_whole e e2 hne (Heap.IsSliceOf.new ..) .none .none (by rw [List.size_toArray, List.size_toArray]; omega) ?_))))
  refine wpAny_release ⟨σ, _, I4.lset (its' := its2) (t' := s1.toks) hx e ?_ r2 z2, q1⟩
  apply Array.ext'; simp
/-- sorted(d), d a dict of int keys, of any length -/
def rSortD : List V → Hp → VK → Prop := fun xs H Q => ∃ (a : Addr), xs = [.ref a] ∧ dcAt H a fun kvs => ∃ (ks : List Int), kvs.map (·.1) = ks.map Sum.inl ∧
    ∀ (ys : List Int) (p : Addr), ys.Perm ks → ys.Pairwise (· ≤ ·) → H p = none → Q (.ref p) (upd H p (.lst (ys.map V.int)))
theorem keys_ints {acc : Array Value} {vs : List (Key × Value)} {ks : List Int} (hk : vs.map (·.1) = ks.map Sum.inl) (sz : acc.size = vs.length) (each : ∀ (j : Nat) (u : Value), acc[j]? = some u → ∃ (k : Key) (x : _), vs[j]? = some (k, x) ∧ keyIs k u = true) : IntsAre acc.toList ks := by
  have lens : vs.length = ks.length := by simpa using congrArg List.length hk
  refine ints_each (by rw [Array.length_toList, sz, lens]) fun j u hu => ?_
  obtain ⟨k, x, here, is⟩ := each j u (by rw [← Array.getElem?_toList]; exact hu)
  have at_j : (ks.map Sum.inl)[j]? = some k := by rw [← hk, List.getElem?_map, here]; rfl
  rw [List.getElem?_map] at at_j
  obtain ⟨y, hy, same⟩ := Option.map_eq_some_iff.mp at_j
  subst same
  rcases keyIs_shape is with ⟨i, t, c, d⟩ | ⟨z, t, c, d⟩ <;> cases c
  exact ⟨_, t, hy, d⟩
theorem call_sortD (calm : X.calm = true) : CallR X (.builtin "sorted") rSortD := by
  intro pins sh σ H xs us Q inv rel ask
  obtain ⟨a, rfl, ask⟩ := ask
  obtain ⟨kvs, here, ks, hks, ask⟩ := dcAt_get ask
  obtain ⟨u, rfl, ra⟩ := vals1 rel
  cases ra
  obtain ⟨small, lo, vs, kv, dd⟩ := dk_rd inv.hok (.inl here)
  obtain ⟨ep, hat⟩ := dd.dictAt
  have vk : vs.map (·.1) = ks.map Sum.inl := kv.keys.symm.trans hks
  have l1 : vs.length = ks.length := by simpa using congrArg List.length vk
  have l2 : kvs.length = ks.length := by simpa using congrArg List.length hks
  refine Calls.call_function_entry kind_sorted plain_sorted entry_sorted (args_sorted1 (.ref a)) ?_
  unfold Builtin.«sorted»; refine wpAny_bind (m := checkCount "sorted" 1 1 _) (wpAny_pure (wpAny_bind ?_))
  refine PySem.W.kdu_collect (A := X.A.in1) (PySem.W.kdl_dict (knd := mixKind X.prog X.w) (kvs := vs) (ep := ep) lo) (inv.ok.hd calm) hat (by omega) fun h' tk acc kept got => ?_
  have nums := keys_ints vk got.1 got.2
  have fits : acc.toList.length ≤ sizeLine := by rw [Array.length_toList, got.1]; omega
  have I1 : Inv X pins σ H { sh with heap := h', toks := tk } := inv.kept kept
  refine wpAny_bind (wpAny_newList (wpAny_bind (wpAny_holding ?_)) fits)
  have new : (h'.push (seqObj "list" acc.toList.toArray 0)).get? h'.objs.size = some (seqObj "list" acc.toList.toArray 0) := Heap.get?_push_size _ rfl
  refine wpAny_call_entry (s := { sh with heap := h'.push (seqObj "list" acc.toList.toArray 0), toks := tk }) slot_list_sort ⟨_, new, rfl⟩ entry_list_sort (SrtO.list_sort_ord SrtO.swo_int new fits (fun two => SrtO.ints_sortable nums two) fun out o1 o2 => ⟨_, rfl, ?_⟩) (args_list_sort _)
  obtain ⟨k1, k2, k3⟩ := SrtO.ints_out nums o1 o2
  obtain ⟨e', he'⟩ := sortedHeap_at (vs := acc.toList) (out := out.toArray) new
  refine wpAny_pure ⟨_, rfl, .ref h'.objs.size, upd H h'.objs.size (.lst ((out.map SrtO.iv).map V.int)), I1.laid (t' := tk) (fun b u e => ?_) (Nat.le_refl _) ⟨by rw [List.length_map, k2.length_eq, ← l2]; exact small, out, e', vals_of_ints k1, he'⟩, rfl, ask _ _ k2 k3 (I1.hok.fresh (Nat.le_refl _))⟩
  have lt : b < h'.objs.size := Heap.lt_size e
  rw [sortedHeap_old (Nat.ne_of_lt lt) (by rw [size_push']; exact Nat.lt_succ_of_lt lt)]; exact Heap.get?_push_of_some _ e
/-- d.get(k) -/
def tDGetM (td ty : TE) : TE := fun σ H Q => td σ H fun x H1 => ∃ a, x = .ref a ∧ (dcAt H1 a fun _ => True) ∧ ty σ H1 fun y H2 => ∃ k, keyOf y = some k ∧ dcAt H2 a fun kvs => Q ((valV kvs k).getD .non) H2
theorem pe_dgetM {o e : Expr} {apos cpos : Pos} {td ty : TE} (hu : X.A.units + 1 < cLine) (ho : PE X o td) (he : PE X e ty) (m : M1 X o "get" apos e cpos) : PE X (.Call (.Attribute o "get" apos) [e] [] cpos) (tDGetM td ty) := by
  refine ⟨fun pins sh σ H Q inv ask => wpAny_Call_method m.base m.few m.line PySem.F.plainAttrs_dict PySem.F.slot_dict_get PySem.F.type_dict_get (thn (ho.run pins sh σ H _ inv ask) fun u s1 hh => ?_)⟩
  obtain ⟨x, H1, I1, rx, a, rfl, d, q1⟩ := hh
  cases rx
  obtain ⟨kvs0, hd0, _⟩ := dcAt_get d
  obtain ⟨t1, t2, _⟩ := isD_at I1 (.inl ⟨kvs0, .inl hd0⟩)
  refine ⟨t1, t2, ?_⟩; rw [m.trees]
  refine Calls.callWith_builtin rfl (Calls.evalArgs_plain (Calls.spliced_cons (thn (he.run pins s1 σ H1 _ I1 q1) fun iv s2 hh => Calls.spliced_nil ?_)))
  obtain ⟨y, H2, I2, ry, k, hk, q2⟩ := hh
  obtain ⟨kvs, hd, q3⟩ := dcAt_get q2
  obtain rfl := keyOf_kV hk
  exact d_get1 hu I2 (.k hd) ry fun w' s3 I3 rw' => ⟨_, H2, I3, rw', q3⟩
end
/-- o.m() that may raise -/
def tMethE0 (C : Addr) (m : Str) (sp : Sp) (E : L2.St → XK) (ta : TE) : TE := fun σ H Q => ta σ H fun x H1 => ∃ a dx fs, x = .ref a ∧ H1 a = some (.ins C dx fs) ∧ fs.lookup m = none ∧ sp [x] H1 Q (E σ)
theorem pe_methE0 {X : Cx} {CX : CXT} {k : Nat} {C f : Addr} {fd : FuncData} {ps : List Str} {m : Str} {sp : Sp} {E : L2.St → XK} {o : Expr} {ta : TE} {apos pos : Pos} {pl : Sem Bool} (he : PE X o ta) (c : Cls X.K C) (hm : Meth X.K C m f)
    (F : FnOk X.prog X.w X.K X.mg X.base CX k f fd ps sp) (hr : Room k X.A) (hb : Binds X.K fd ps []) (hx : ∀ σ, PassesAt CX X σ (E σ))
    (ht : eval (.Call (.Attribute o m apos) [] [] pos) X.env = (do let ov ← eval o X.env; standAt apos.atName; let (f, first) ← holding [ov] (getMethod ov m pl); callWith pos f first (backTo pos (starEach [] X.env)) (backToKw pos (keywordEach [] X.env))) := by rfl) :
    PE X (.Call (.Attribute o m apos) [] [] pos) (tMethE0 C m sp E ta) := by
  refine ⟨fun pins sh σ H Q inv ask => PySem.W.methodCall_KW (pl := pl) (thn (he.run pins sh σ H _ inv ask) fun u1 s1 hh => ?_) ht⟩
  obtain ⟨x, H1, I1, rx, a, dx, fs, rfl, ea, l, q⟩ := hh
  cases rx
  exact getmeth_ok I1 ea c hm l (PySem.W.callWith_K0 (first := [.ref a]) I1.kIn hm.kp (run_fnS (us := [.ref a]) (vs := [.ref a]) F hr hb (hx σ) I1 (.cons rfl .nil) q))

/-! ### comprehensions and loops, whose parts leave the heap as it is -/
inductive LcR (b : Nat → Bool) (Y : Nat → V → Prop) : Nat → List V → Prop
  | nil : LcR b Y 0 []
  | yes {i ys y} : LcR b Y i ys → b i = true → Y i y → LcR b Y (i + 1) (ys ++ [y])
  | no {i ys} : LcR b Y i ys → b i = false → LcR b Y (i + 1) ys
theorem LcR.len {b Y n ys} (h : LcR b Y n ys) : ys.length ≤ n := by
  induction h with
  | nil => exact Nat.le_refl _
  | yes h _ _ ih =>
    rw [List.length_append]
    show _ + 1 ≤ _
    omega
  | no h _ ih => omega
theorem LcR.map {b : Nat → Bool} {f : Nat → V} {n ys} (h : LcR b (fun i y => y = f i) n ys) : ys = ((List.range n).filter b).map f := by
  induction h with
  | nil => rfl
  | yes h hb hy ih =>
    rw [List.range_succ, List.filter_append, List.map_append, ← ih, List.filter_cons, if_pos hb, hy]
    rfl
  | no h hb ih =>
    rw [List.range_succ, List.filter_append, List.map_append, ← ih, List.filter_cons, if_neg (by rw [hb]; decide)]
    simp
theorem LcR.all {Y : Nat → V → Prop} {n ys} (h : LcR (fun _ => true) Y n ys) : ys.length = n ∧ ∀ i y, ys[i]? = some y → Y i y := by
  generalize hb : (fun _ : Nat => true) = b at h
  induction h with
  | nil => exact ⟨rfl, fun i y h => by simp at h⟩
  | @yes i ys y h _ hy ih =>
    obtain ⟨e, g⟩ := ih
    refine ⟨by rw [List.length_append, e]; rfl, fun j z hz => ?_⟩
    by_cases c : j < ys.length
    · rw [List.getElem?_append_left c] at hz
      exact g j z hz
    · rw [List.getElem?_append_right (by omega)] at hz
      have : j - ys.length = 0 := by
        have := (List.getElem?_eq_some_iff.mp hz).1
        simp at this
        omega
      rw [this] at hz
      have e2 : y = z := by simpa using hz
      have e3 : j = i := by omega
      rw [e3, ← e2]
      exact hy
  | no h hb2 ih =>
    subst hb
    cases hb2
/-- all values are ints -/
theorem LcR.ints {P : Nat → Int → Prop} {b n ys} (h : LcR b (fun i y => ∃ z, y = .int z ∧ P i z) n ys) : ∃ zs : List Int, ys = zs.map V.int := by
  induction h with
  | nil => exact ⟨[], rfl⟩
  | yes h _ hy ih =>
    obtain ⟨zs, e⟩ := ih
    obtain ⟨z, e2, _⟩ := hy
    exact ⟨zs ++ [z], by rw [e, e2, List.map_append]; rfl⟩
  | no h _ ih => exact ih
theorem lc_rngI {ta : TA} {tt : TT} {te : TE} {c : Nat} {σ : L2.St} {H : Hp} {Q : VK} (n : Nat) (b : Nat → Bool) (Y : Nat → V → Prop) (hta : ∀ R : List V → Hp → Prop, R [.int (n : Int)] H → ta σ H R) (hn : n ≤ 100000)
    (hb : ∀ i H' (R : Bool → Hp → Prop), i < n → Same H H' → R (b i) H' → tt ((σ.set c none).set c (some (.int (i : Int)))) H' R) (he : ∀ i H' (R : VK), i < n → b i = true → Same H H' → (∀ y, Y i y → R y H') → te ((σ.set c none).set c (some (.int (i : Int)))) H' R)
    (k : ∀ D ys, H D = none → LcR b Y n ys → Q (.ref D) (upd H D (.lst ys))) : tLc (iRng1 ta) (gName c) tt te [c] σ H Q := by
  refine hta _ ⟨n, rfl, by omega, by omega, fun D hD => ?_⟩
  rw [Int.toNat_natCast]
  refine lc_range (fun i H' => ∃ ys, LcR b Y i ys ∧ H' = upd H D (.lst ys)) ⟨[], .nil, rfl⟩ ?_ ?_
  · rintro i H' hi ⟨ys, hr, rfl⟩
    rw [Int.zero_add]
    have sm : Same H (upd H D (.lst ys)) := same_new hD
    have szl : (100000 : Nat) < sizeLine := by decide
    have hl := hr.len
    refine ⟨?_, hb i _ _ hi sm ?_⟩
    · show List.set (List.set (List.set σ c none) c _) c none = List.set σ c none
      rw [List.set_set, List.set_set]
    · by_cases hc : b i = true
      · rw [if_pos hc]
        refine he i _ _ hi hc sm fun y hy => ⟨ys, upd_same, by omega, ys ++ [y], hr.yes hc hy, by rw [upd_upd]⟩
      · rw [if_neg hc]
        exact ⟨ys, hr.no (by simpa using hc), rfl⟩
  · rintro H' ⟨ys, hr, rfl⟩
    exact k D ys hD hr
theorem lc_lstI {K : PySem.W.Frag} {tl : TE} {tt : TT} {te : TE} {c : Nat} {σ : L2.St} {H : Hp} {Q : VK} {a : Addr} (xs : List V) (b : Nat → Bool) (Y : Nat → V → Prop) (htl : ∀ R : V → Hp → Prop, R (.ref a) H → tl σ H R) (ha : SqL K H a xs) (hn : xs.length ≤ 100000)
    (hb : ∀ i x H' (R : Bool → Hp → Prop), xs[i]? = some x → Same H H' → R (b i) H' → tt ((σ.set c none).set c (some x)) H' R) (he : ∀ i x H' (R : VK), xs[i]? = some x → b i = true → Same H H' → (∀ y, Y i y → R y H') → te ((σ.set c none).set c (some x)) H' R)
    (k : ∀ D ys, H D = none → LcR b Y xs.length ys → Q (.ref D) (upd H D (.lst ys))) : tLc (iList K tl) (gName c) tt te [c] σ H Q := by
  refine htl _ ⟨a, rfl, ⟨_, ha⟩, fun D hD => lc_list (K := K) (a := a) (xs := xs) (fun i H' => ∃ ys, LcR b Y i ys ∧ H' = upd H D (.lst ys)) ⟨[], .nil, rfl⟩ ?_ ?_ ?_⟩
  · rintro i H' _ ⟨ys, hr, rfl⟩
    exact (same_new hD).seq ha
  · rintro i x H' hx ⟨ys, hr, rfl⟩
    have sm : Same H (upd H D (.lst ys)) := same_new hD
    have szl : (100000 : Nat) < sizeLine := by decide
    have hl := hr.len
    have hi := (List.getElem?_eq_some_iff.mp hx).1
    refine ⟨?_, hb i x _ _ hx sm ?_⟩
    · show List.set (List.set (List.set σ c none) c _) c none = List.set σ c none
      rw [List.set_set, List.set_set]
    · by_cases hc : b i = true
      · rw [if_pos hc]
        refine he i x _ _ hx hc sm fun y hy => ⟨ys, upd_same, by omega, ys ++ [y], hr.yes hc hy, by rw [upd_upd]⟩
      · rw [if_neg hc]
        exact ⟨ys, hr.no (by simpa using hc), rfl⟩
  · rintro H' ⟨ys, hr, rfl⟩
    exact k D ys hD hr
/-- for x in reversed(xs) -/
theorem for_revL {K : PySem.W.Frag} {ta : TA} {g : TG} {tb : TS} {D : Ends} {σ : L2.St} {H H0 : Hp} {a : Addr} (xs : List V) (hta : ∀ R : List V → Hp → Prop, R [.ref a] H0 → ta σ H R) (Pv : Nat → L2.St → Hp → Prop) (hp : Pv 0 σ H0) (hl : ∀ i σ H, i ≤ xs.length → Pv i σ H → SqL K H a xs)
    (hs : ∀ i x σ H, i < xs.length → xs[xs.length - 1 - i]? = some x → Pv i σ H → g x σ H fun σ2 H2 => tb { D with nx := Pv (i + 1), ct := Pv (i + 1), bk := D.nx } σ2 H2) (hd : ∀ σ H, Pv xs.length σ H → D.nx σ H) : tFor (iRev K ta) g tb D σ H := by
  refine hta _ ⟨a, xs, rfl, hl 0 σ H0 (Nat.zero_le _) hp, fun i m σ H => m = xs.length - i ∧ i ≤ xs.length ∧ Pv i σ H, ⟨xs.length, by simp, Nat.zero_le _, hp⟩, ?_⟩
  rintro i m σ H ⟨rfl, hi, p⟩
  have q := hl i σ H hi p
  by_cases hlt : i < xs.length
  · have hx : xs[xs.length - 1 - i]? = some (xs[xs.length - 1 - i]'(by omega)) := List.getElem?_eq_getElem (by omega)
    refine .inr ⟨⟨hlt, xs, _, q, hx⟩, Pv (i + 1), fun σ' H' p' => ⟨xs.length - (i + 1), by omega, rfl, hlt, p'⟩, fun x H' y => ?_⟩
    obtain ⟨e, y⟩ := y
    subst e
    exact hs i x σ _ hlt (y xs q) p
  · have e : i = xs.length := by omega
    subst e
    exact .inl ⟨Nat.le_refl _, hd σ H p⟩
/-- list(xs), sorted(xs), sum(xs) of a tracked list -/
def rListM : List V → Hp → VK → Prop := fun vs H Q => ∃ p, vs = [.ref p] ∧ lstAt H p fun xs => ∀ l, H l = none → Q (.ref l) (upd H l (.lst xs))
def rSortM : List V → Hp → VK → Prop := fun vs H Q => ∃ p, vs = [.ref p] ∧ lstAt H p fun xs => ∃ ns : List Int, xs = ns.map V.int ∧ ∀ (ys : List Int) (q : Addr), ys.Perm ns → ys.Pairwise (· ≤ ·) → H q = none → Q (.ref q) (upd H q (.lst (ys.map V.int)))
section
variable {X : Cx}
theorem call_listM : CallR X (.type "list") rListM := by
  intro pins s σ H xs us Q I r h
  obtain ⟨p, e, h⟩ := h
  obtain ⟨ys, hp, q⟩ := lstAt_get h
  exact call_list_of pins s σ H xs us Q I r ⟨p, ys, e, .inl (.inl (.inl hp)), q⟩
theorem cr_sortM : CallR X (.builtin "sorted") rSortM := by
  intro pins s σ H xs us Q I r h
  obtain ⟨p, e, h⟩ := h
  obtain ⟨ys, hp, ns, e2, q⟩ := lstAt_get h
  subst e2
  exact cr_sortedI pins s σ H xs us Q I r ⟨p, ns, e, .inl (.inl hp), q⟩
end
/-- two ascending lists of the same ints are one -/
theorem sorted_eq : ∀ {xs ys : List Int}, xs.Perm ys → xs.Pairwise (· ≤ ·) → ys.Pairwise (· ≤ ·) → xs = ys
  | [], ys, h, _, _ => h.nil_eq
  | x :: xs, [], h, _, _ => by simpa using h.length_eq
  | x :: xs, y :: ys, h, hx, hy => by
    have e : x = y := by
      have h1 : x ∈ y :: ys := h.mem_iff.mp (List.mem_cons_self ..)
      have h2 : y ∈ x :: xs := h.mem_iff.mpr (List.mem_cons_self ..)
      have p1 := List.pairwise_cons.mp hx
      have p2 := List.pairwise_cons.mp hy
      rcases List.mem_cons.mp h1 with e | h1
      · exact e
      · rcases List.mem_cons.mp h2 with e | h2
        · exact e.symm
        · have a := p1.1 y h2
          have b := p2.1 x h1
          omega
    subst e
    rw [sorted_eq (List.Perm.cons_inv h) (List.pairwise_cons.mp hx).2 (List.pairwise_cons.mp hy).2]
theorem flat_ints (xs : List Int) : (xs.map V.int).all flatV = true := by
  rw [List.all_eq_true]
  intro x hx
  obtain ⟨n, _, rfl⟩ := List.mem_map.mp hx
  rfl
theorem inV_int {x : Int} {xs : List Int} : inV (.int x) (xs.map V.int) = decide (x ∈ xs) := by
  unfold inV
  induction xs with
  | nil => simp
  | cons y ys ih =>
    rw [List.map_cons, List.any_cons, ih]
    show (decide (y = x) || decide (x ∈ ys)) = _
    by_cases h : x = y
    · subst h
      simp
    · have h2 : ¬ y = x := fun e => h e.symm
      simp [h, h2]
def rSumM : List V → Hp → VK → Prop := fun vs H Q => ∃ p, vs = [.ref p] ∧ lstAt H p fun xs => ∃ ns : List Int, xs = ns.map V.int ∧ Q (.int ns.sum) H
theorem call_sumM {X : Cx} (hc : X.calm = true) : CallR X (.builtin "sum") rSumM := by
  intro pins sh σ H xs us Q inv rel ask
  obtain ⟨p, e, ask⟩ := ask
  obtain ⟨ys, hp, ns, e2, q⟩ := lstAt_get ask
  subst e2
  exact cr_sum hc pins sh σ H xs us Q inv rel ⟨p, ns, e, .inl (.inl hp), q⟩
/-- isinstance(x, dict), x a tracked dict -/
def rIsD : List V → Hp → VK → Prop := fun xs H Q => ∃ p, xs = [.ref p, .ty "dict"] ∧ dcAt H p fun _ => Q (.bl true) H
theorem call_isD {X : Cx} : CallR X (.builtin "isinstance") rIsD := by
  intro pins sh σ H xs us Q inv rel ask
  obtain ⟨p, rfl, ask⟩ := ask
  obtain ⟨kvs, hp, q⟩ := dcAt_get ask
  exact call_isi pins sh σ H _ us Q inv rel ⟨.ref p, .ty "dict", .type "dict", .type "dict", true, rfl, .ty "dict", .base (.dK hp), kit_ty rfl, q⟩
theorem lc_keysI {td : TE} {tt : TT} {te : TE} {c : Nat} {σ : L2.St} {H : Hp} {Q : VK} {d : Addr} {od : Obj} (kvs : List (Key × V)) (b : Nat → Bool) (Y : Nat → V → Prop) (htd : ∀ R : V → Hp → Prop, R (.ref d) H → td σ H R) (hd : H d = some (.frz od (.dK kvs))) (hn : kvs.length ≤ 100000)
    (hb : ∀ i k v H' (R : Bool → Hp → Prop), kvs[i]? = some (k, v) → Same H H' → R (b i) H' → tt ((σ.set c none).set c (some (kV k))) H' R) (he : ∀ i k v H' (R : VK), kvs[i]? = some (k, v) → b i = true → Same H H' → (∀ y, Y i y → R y H') → te ((σ.set c none).set c (some (kV k))) H' R)
    (k : ∀ D ys, H D = none → LcR b Y kvs.length ys → Q (.ref D) (upd H D (.lst ys))) : tLc (iKeys td) (gName c) tt te [c] σ H Q := by
  refine htd _ ⟨d, od, rfl, .inl ⟨kvs, hd, fun D hD => ?_⟩⟩
  have sm : ∀ ys, Same H (upd H D (.lst ys)) := fun ys => same_new hD
  refine ⟨fun i m H' => m = kvs.length - i ∧ i ≤ kvs.length ∧ ∃ ys, LcR b Y i ys ∧ H' = upd H D (.lst ys), ⟨_, rfl, Nat.zero_le _, [], .nil, rfl⟩, ?_⟩
  rintro i m H' ⟨rfl, hi, ys, hr, rfl⟩
  have hd' := sm ys _ _ hd
  by_cases hlt : i < kvs.length
  · refine .inr ⟨⟨hd', hlt⟩, fun H2 => ∃ ys, LcR b Y (i + 1) ys ∧ H2 = upd H D (.lst ys), fun H2 h2 => ⟨kvs.length - (i + 1), by omega, rfl, hlt, h2⟩, fun x H2 hy => ?_⟩
    obtain ⟨rfl, key, v, hkv, rfl⟩ := hy
    have szl : (100000 : Nat) < sizeLine := by decide
    have hl := hr.len
    refine ⟨?_, hb i key v _ _ hkv (sm ys) ?_⟩
    · show List.set (List.set (List.set σ c none) c _) c none = List.set σ c none
      rw [List.set_set, List.set_set]
    · by_cases hc : b i = true
      · rw [if_pos hc]
        refine he i key v _ _ hkv hc (sm ys) fun y hy => ⟨ys, upd_same, by omega, ys ++ [y], hr.yes hc hy, by rw [upd_upd]⟩
      · rw [if_neg hc]
        exact ⟨ys, hr.no (by simpa using hc), rfl⟩
  · have e : i = kvs.length := by omega
    subst e
    exact .inl ⟨⟨hd', Nat.le_refl _⟩, k D ys hD hr⟩
theorem lc_rng2I {ta : TA} {tt : TT} {te : TE} {c : Nat} {σ : L2.St} {H : Hp} {Q : VK} (lo hi : Int) (b : Nat → Bool) (Y : Nat → V → Prop) (hta : ∀ R : List V → Hp → Prop, R [.int lo, .int hi] H → ta σ H R) (h1 : -1000000 ≤ lo ∧ lo ≤ 1000000) (h2 : -1000000 ≤ hi ∧ hi ≤ 1000000) (hn : hi - lo ≤ 100000)
    (hb : ∀ (i : Nat) H' (R : Bool → Hp → Prop), lo + (i : Int) < hi → Same H H' → R (b i) H' → tt ((σ.set c none).set c (some (.int (lo + (i : Int))))) H' R) (he : ∀ (i : Nat) H' (R : VK), lo + (i : Int) < hi → b i = true → Same H H' → (∀ y, Y i y → R y H') → te ((σ.set c none).set c (some (.int (lo + (i : Int))))) H' R)
    (k : ∀ D ys, H D = none → LcR b Y (hi - lo).toNat ys → Q (.ref D) (upd H D (.lst ys))) : tLc (iRng2 ta) (gName c) tt te [c] σ H Q := by
  refine hta _ ⟨lo, hi, rfl, ⟨by omega, by omega, by omega, by omega⟩, fun D hD => ?_⟩
  refine lc_range (fun i H' => ∃ ys, LcR b Y i ys ∧ H' = upd H D (.lst ys)) ⟨[], .nil, rfl⟩ ?_ ?_
  · rintro i H' hi2 ⟨ys, hr, rfl⟩
    have sm : Same H (upd H D (.lst ys)) := same_new hD
    have szl : (100000 : Nat) < sizeLine := by decide
    have hl := hr.len
    refine ⟨?_, hb i _ _ (by omega) sm ?_⟩
    · show List.set (List.set (List.set σ c none) c _) c none = List.set σ c none
      rw [List.set_set, List.set_set]
    · by_cases hc : b i = true
      · rw [if_pos hc]
        refine he i _ _ (by omega) hc sm fun y hy => ⟨ys, upd_same, by omega, ys ++ [y], hr.yes hc hy, by rw [upd_upd]⟩
      · rw [if_neg hc]
        exact ⟨ys, hr.no (by simpa using hc), rfl⟩
  · rintro H' ⟨ys, hr, rfl⟩
    exact k D ys hD hr
theorem lc_lstN {K : PySem.W.Frag} {tl : TE} {tt : TT} {te : TE} {c : Nat} {σ : L2.St} {H : Hp} {Q : VK} (xs : List V) (b : Nat → Bool) (Y : Nat → V → Prop) (htl : ∀ R : V → Hp → Prop, (∀ p H0, Same H H0 → SqL K H0 p xs → R (.ref p) H0) → tl σ H R) (hn : xs.length ≤ 100000)
    (hb : ∀ i x H' (R : Bool → Hp → Prop), xs[i]? = some x → Same H H' → R (b i) H' → tt ((σ.set c none).set c (some x)) H' R) (he : ∀ i x H' (R : VK), xs[i]? = some x → b i = true → Same H H' → (∀ y, Y i y → R y H') → te ((σ.set c none).set c (some x)) H' R)
    (k : ∀ H0 D ys, Same H H0 → H0 D = none → LcR b Y xs.length ys → Q (.ref D) (upd H0 D (.lst ys))) : tLc (iList K tl) (gName c) tt te [c] σ H Q :=
  htl _ fun p H0 sm0 hq => lc_lstI (K := K) (tl := fun _ H Q => Q (.ref p) H) (a := p) xs b Y (fun R h => h) hq hn (fun i x H' R hx sm h => hb i x H' R hx (fun b u e => sm _ _ (sm0 _ _ e)) h) (fun i x H' R hx ht sm h => he i x H' R hx ht (fun b u e => sm _ _ (sm0 _ _ e)) h) (fun D ys hD hy => k H0 D ys sm0 hD hy)
theorem range_all {α : Type} (g : α → V) (bs : List α) : (List.range bs.length).map (fun i => (bs[i]?.map g).getD .non) = bs.map g := by
  apply List.ext_getElem
  · simp
  · intro i h1 h2
    simp at h1
    simp [h1]

/-! ### a dict copied by a comprehension over its items -/
theorem valV_take {kvs : List (Key × V)} (nd : (kvs.map (·.1)).Nodup) {i : Nat} {k : Key} {v : V} (h : kvs[i]? = some (k, v)) : valV (kvs.take i) k = none := by
  unfold valV
  rw [Option.map_eq_none_iff, List.find?_eq_none]
  intro p hp
  rw [decide_eq_true_eq]
  intro e
  obtain ⟨j, hj⟩ := List.mem_iff_getElem?.mp hp
  have jl := (List.getElem?_eq_some_iff.mp hj).1
  rw [List.length_take] at jl
  rw [List.getElem?_take, if_pos (by omega)] at hj
  have a1 : (kvs.map (·.1))[j]? = some k := by rw [List.getElem?_map, hj, ← e]; rfl
  have a2 : (kvs.map (·.1))[i]? = some k := by rw [List.getElem?_map, h]; rfl
  obtain ⟨l1, g1⟩ := List.getElem?_eq_some_iff.mp a1
  obtain ⟨l2, g2⟩ := List.getElem?_eq_some_iff.mp a2
  have := (List.getElem_inj nd).mp (g1.trans g2.symm)
  omega
theorem dc_items {K : PySem.W.Frag} {td : TE} {c1 c2 : Nat} {σ : L2.St} {H : Hp} {Q : VK} {d : Addr} (kvs : List (Key × V)) (htd : ∀ od (R : V → Hp → Prop), R (.ref d) (upd H d (.frz od (.dK kvs))) → td σ (upd H d (.frz od (.dK kvs))) R)
    (hd : H d = some (.dK kvs)) (nd : (kvs.map (·.1)).Nodup) (hn : kvs.length ≤ 100000) (h1 : c1 < σ.length) (h2 : c2 < σ.length) (ne : c1 ≠ c2)
    (k : ∀ D H', Same H H' → H D = none → H' D = some (.dK kvs) → Q (.ref D) H') :
    tLockE (tDc (iItems td) (gTup K 2 (gCons (gName c1) (gCons (gName c2) gNil))) tYes (tVar c1) (tVar c2) [c1, c2]) σ H Q := by
  refine ⟨d, .dK kvs, hd, trivial, fun od => ?_⟩
  refine htd od _ ⟨d, od, kvs, rfl, upd_same, fun D hD => ?_⟩
  have dD : D ≠ d := fun e => by
    rw [e, upd_same] at hD
    cases hD
  have hD0 : H D = none := by
    rw [upd_ne dD] at hD
    exact hD
  have szl : (100000 : Nat) < sizeLine := by decide
  refine ⟨fun i m H' => m = kvs.length - i ∧ i ≤ kvs.length ∧ H' d = some (.frz od (.dK kvs)) ∧ H' D = some (.dK (kvs.take i)) ∧ ∀ b u, H b = some u → b ≠ d → H' b = some u, ⟨_, rfl, Nat.zero_le _, by rw [upd_ne (Ne.symm dD), upd_same], by rw [upd_same]; rfl, fun b u hb hbd => ?_⟩, ?_⟩
  · have : b ≠ D := fun e => by
      rw [e, hD0] at hb
      cases hb
    rw [upd_ne this, upd_ne hbd]
    exact hb
  rintro i m H' ⟨rfl, hi, e1, e2, sm⟩
  by_cases hlt : i < kvs.length
  · refine .inr ⟨⟨e1, hlt⟩, fun H2 => H2 d = some (.frz od (.dK kvs)) ∧ H2 D = some (.dK (kvs.take (i + 1))) ∧ ∀ b u, H b = some u → b ≠ d → H2 b = some u, fun H2 h => ⟨kvs.length - (i + 1), by omega, rfl, hlt, h⟩, fun x H2 hy => ?_⟩
    obtain ⟨T, key, v, hkv, rfl, hT, rfl⟩ := hy
    have nT : ∀ b u, H' b = some u → b ≠ T := fun b u hb e => by
      rw [e, hT] at hb
      cases hb
    have w1 : c1 < (wipe σ [c1, c2]).length := by rw [wipe_length]; exact h1
    have w2 : c2 < (wipe σ [c1, c2]).length := by rw [wipe_length]; exact h2
    refine ⟨T, [kV key, v], rfl, .inl (.inl upd_same), rfl, _, _, rfl, ?_⟩
    refine ⟨_, _, rfl, rfl, ?_, ?_⟩
    · show (((((σ.set c2 none).set c1 none).set c1 (some (kV key))).set c2 (some v)).set c2 none).set c1 none = (σ.set c2 none).set c1 none
      apply List.ext_getElem?
      intro j
      simp only [List.getElem?_set, List.length_set]
      repeat' split
      all_goals first | rfl | simp_all
    · simp only [tYes, if_true]
      refine ⟨kV key, ?_, v, ?_, kvs.take i, key, rfl, ?_, ?_, ?_, ?_, ?_⟩
      · rw [List.getElem?_set_ne (Ne.symm ne), List.getElem?_set_self w1]
      · rw [List.getElem?_set_self (by rw [List.length_set]; exact w2)]
      · rw [upd_ne (nT _ _ e2)]
        exact e2
      · have := List.length_take_le i kvs
        rw [List.length_take]
        omega
      · rw [upd_ne (Ne.symm dD), upd_ne (nT _ _ e1)]
        exact e1
      · rw [upd_same, putK_new _ (valV_take nd hkv), List.take_add_one, hkv]
        rfl
      · intro b u hb hbd
        have : b ≠ D := fun e => by
          rw [e, hD0] at hb
          cases hb
        rw [upd_ne this, upd_ne (nT _ _ (sm b u hb hbd))]
        exact sm b u hb hbd
  · have e : i = kvs.length := by omega
    subst e
    refine .inl ⟨⟨e1, Nat.le_refl _⟩, e1, k D _ (fun b u hb => ?_) hD0 ?_⟩
    · by_cases c : b = d
      · subst c
        rw [upd_same, ← hd, hb]
      · rw [upd_ne c]
        exact sm b u hb c
    · rw [upd_ne dD, e2, List.take_length]

/-! ### name = {..} by a dict comprehension -/
section
variable {X : Cx}
theorem sw_trueD {kx vx : Expr} {gs : List Comprehension} {scope : Scope} {pos py : Pos} {y : Str} {l : Nat} {env : Env} (hk : env.scope.kind = .function) (hy : env.scope.names.lookup y = some .local) (hl : (py.line == pos.line) = true)
    (ha : (scope.names.any fun (n, k) => n == y && (k == .local || k == .cell)) = false) : swapsWith (.DictComp kx vx gs scope pos) (some (.Name y py)) l env = pure true := by
  have ky : env.kindOf y = some .local := hy
  have hb : env.blockKind = .function := by unfold Env.blockKind; rw [hk]; rfl
  unfold swapsWith
  simp only [hb, ky, ha, Expr.pos, hl]
  rfl
theorem ps_setDc {i : Nat} {y : Str} {py : Pos} {kx vx tg iter : Expr} {ifs : List Expr} {scope : Scope} {own : List (Str × Nat)} {pos spos : Pos} {wi : TI} {g : TG} {tt : TT} {tk tv : TE} (hc : X.calm = true) (hN : X.N.Nodup) (hy : X.N[i]? = some y) (hyl : X.env.scope.names.lookup y = some .local)
    (hsw : swapsWith (.DictComp kx vx [⟨tg, iter, ifs, 0⟩] scope pos) (some (.Name y py)) spos.line X.env = pure true) (hi : PI X tg iter wi) (ok : BlkOk X.N X.env.scope scope own)
    (hg : ∀ (s : Shared) (H : Hp) (C : Addr) (cl : List (Str × Addr)) (fp : List Addr), PG (X.blk s H scope (compEnvC scope cl C X.env) fp) tg g) (ht : ∀ (s : Shared) (H : Hp) (C : Addr) (cl : List (Str × Addr)) (fp : List Addr), PTs (X.blk s H scope (compEnvC scope cl C X.env) fp) ifs tt)
    (hk : ∀ (s : Shared) (H : Hp) (C : Addr) (cl : List (Str × Addr)) (fp : List Addr), PE (X.blk s H scope (compEnvC scope cl C X.env) fp) kx tk)
    (he : ∀ (s : Shared) (H : Hp) (C : Addr) (cl : List (Str × Addr)) (fp : List Addr), PE (X.blk s H scope (compEnvC scope cl C X.env) fp) vx tv) (hs : ∀ x, foldedSetIterable iter X.env x = pure x := by intro _; rfl) :
    PS X (.Assign [.Name y py] (.DictComp kx vx [⟨tg, iter, ifs, 0⟩] scope pos) spos) (tAsg (tDc wi g tt tk tv (own.map (·.2))) (gName i)) := by
  refine ⟨fun pins s σ H D I h => ?_⟩
  rw [exec_Assign_Name_used _ _ _ _ hsw]
  refine wpAny_bind (wpAny_standAt (wpAny_bind ?_))
  show wpAny _ X.A (do let _ ← comprehension (.DictComp kx vx [⟨tg, iter, ifs, 0⟩] scope pos) scope X.env (firstIterPos [⟨tg, iter, ifs, 0⟩] pos) newDict false (eval iter X.env) (some (assign (.Name y py) X.env))) _ _ s
  have h : tDc wi g tt tk tv (own.map (·.2)) σ H (fun x H1 => gName i x σ H1 D.nx) := h
  refine wpAny_bind (thn (dc_core (Qf := fun _ s' => SP X pins D .next s') hc hN I hi ok hg ht hk he hs h fun L C s' m H' I' q hn f => ?_) fun _ s' hq => wpAny_pure (wpAny_pure hq))
  show wpAny _ _ (assign (.Name y py) X.env (.ref L)) _ _ _
  refine wpAny_assign_Name (store_ok2 (v := V.ref L) I' hN hy (.inl hyl) rfl (fun s2 I2 ⟨a, sb, ha⟩ => ?_) (.inr hyl))
  obtain ⟨f0, f1, f2, f3, f4, f5⟩ := f
  have haC : C ≠ a := by
    rcases ha with z | z
    · rw [z]; exact f1
    · exact fun e => f4 y a z e.symm
  refine ⟨m, hn.sameBut sb haC, fun h3 sb3 => ?_⟩
  exact ⟨_, H', I2.turned (t' := s2.toks) (fun b o hb e => (sb3.2 b hb).trans e) f0 f1 f3 f4 f5, q⟩
end
/-- the whole statement, the dict that is walked being locked -/
theorem t_lock_set {te : TE} {i : Nat} {D : Ends} {σ : L2.St} {H : Hp} (h : tLockE te σ H fun x H1 => D.nx (σ.set i (some x)) H1) : tLock (tAsg te (gName i)) D σ H := h
/-- a loop over a list that is made for it, of which something is known -/
theorem for_lstP {K : PySem.W.Frag} {tl : TE} {g : TG} {tb : TS} {D : Ends} {σ : L2.St} {H : Hp} (P : List V → Prop) (htl : ∀ R : V → Hp → Prop, (∀ p xs, P xs → H p = none → R (.ref p) (upd H p (.lst xs))) → tl σ H R) (Pv : Addr → List V → Nat → L2.St → Hp → Prop)
    (hp : ∀ p xs, P xs → H p = none → Pv p xs 0 σ (upd H p (.lst xs))) (hl : ∀ p xs i σ' H', H p = none → Pv p xs i σ' H' → H' p = some (.lst xs))
    (hs : ∀ p xs i x σ' H', P xs → H p = none → xs[i]? = some x → Pv p xs i σ' H' → g x σ' H' fun σ2 H2 => tb { D with nx := Pv p xs (i + 1), ct := Pv p xs (i + 1), bk := D.nx } σ2 H2) (hd : ∀ p xs σ' H', P xs → H p = none → Pv p xs xs.length σ' H' → D.nx σ' H') : tFor (iList K tl) g tb D σ H :=
  htl _ fun p xs hx h0 => ⟨p, rfl, ⟨xs, .inl (.inl upd_same)⟩, L2.for_list (K := K) (a := p) (xs := xs) (Pv p xs) (hp p xs hx h0) (fun i σ' H' _ h => .inl (.inl (hl p xs i σ' H' h0 h))) (fun i x σ' H' hx2 h => hs p xs i x σ' H' hx h0 hx2 h) (fun σ' H' h => hd p xs σ' H' hx h0 h)⟩
/-- a dict that is walked, or handed on, is locked from then on, if it is not yet -/
def tFrz (td : TE) : TE := fun σ H Q => td σ H fun x H1 => ∃ d, x = .ref d ∧ ((∃ u, H1 d = some u ∧ Mut (some u) ∧ ∀ od, Q x (upd H1 d (.frz od u))) ∨ Q x H1)
theorem pe_frz {X : Cx} {e : Expr} {td : TE} (h : PE X e td) : PE X e (tFrz td) := by
  refine ⟨fun pins s σ H Q I hw => ?_⟩
  refine thn (h.run pins s σ H _ I hw) fun v s1 ⟨x, H1, I1, r, d, ex, hh⟩ => ?_
  rcases hh with ⟨u, hd, mu, q⟩ | q
  · obtain ⟨od, I2⟩ := I1.lock hd mu
    exact ⟨x, _, I2, r, q od⟩
  · exact ⟨x, _, I1, r, q⟩
/-- for k in d: d a dict with int keys, which stays locked -/
theorem for_keysF {td : TE} {c : Nat} {tb : TS} {D : Ends} {σ : L2.St} {H : Hp} {d : Addr} {od : Obj} (kvs : List (Key × V)) (hd : H d = some (.frz od (.dK kvs))) (htd : ∀ (R : V → Hp → Prop), R (.ref d) H → td σ H R) (Pv : Nat → L2.St → Hp → Prop)
    (hp : Pv 0 σ H) (hl : ∀ i σ' H', Pv i σ' H' → H' d = some (.frz od (.dK kvs)))
    (hs : ∀ i k v σ' H', kvs[i]? = some (k, v) → Pv i σ' H' → tb { D with nx := Pv (i + 1), ct := Pv (i + 1), bk := D.nx } (σ'.set c (some (kV k))) H')
    (hx : ∀ σ' H', Pv kvs.length σ' H' → D.nx σ' H') : tFor (iKeys td) (gName c) tb D σ H := by
  refine htd _ ⟨d, od, rfl, .inl ⟨kvs, hd, ?_⟩⟩
  refine ⟨fun i m σ' H' => m = kvs.length - i ∧ i ≤ kvs.length ∧ Pv i σ' H', ⟨_, rfl, Nat.zero_le _, hp⟩, ?_⟩
  rintro i m σ' H' ⟨rfl, hi, p⟩
  have hd' := hl i σ' H' p
  by_cases hlt : i < kvs.length
  · refine .inr ⟨⟨hd', hlt⟩, Pv (i + 1), fun σ2 H2 q => ⟨kvs.length - (i + 1), by omega, rfl, hlt, q⟩, fun x H2 hy => ?_⟩
    obtain ⟨rfl, key, v, hkv, rfl⟩ := hy
    exact hs i key v σ' _ hkv p
  · have e : i = kvs.length := by omega
    subst e
    exact .inl ⟨⟨hd', Nat.le_refl _⟩, hx σ' H' p⟩

/-! ### walking a list while an exception is handled -/
section
variable {prog : Program} {w : World} {A : Around} {E : Value → Shared → Prop} {s : Shared}
theorem list_end_hot {it l x1 : Addr} {i : Nat} {items : Array Value} {Q : Option Value → Shared → Prop} (hot : HotX.HotAt A x1 s.heap) (hit : s.heap.IsListIter it l i) (hl : s.heap.IsList l items) (hx : items[i]? = none)
    (hQ : ∀ h', Heap.ExtBut it s.heap h' → Q none { s with heap := h' }) : wpAny (model prog w) A (pyNext (.ref it)) Q E s := by
  obtain ⟨o, ho, hc, hd⟩ := id hit
  obtain ⟨ol, hol, _, nl, hdl⟩ := hl
  obtain ⟨hh, o1, vs1, h1, d1, c1⟩ := hot
  have ne : x1 ≠ it := fun e => by
    rw [e, ho] at h1
    rw [← Option.some.inj h1, hd] at d1
    rw [← Data.fields.inj d1] at c1
    simp at c1
  unfold pyNext
  refine wpAny_bind (wpAny_attempt (wpAny_callSpecial?_slot (name := Str.ofString "__next__") hit.typeIs slot_listiter_next
    (wpAny_call_entry slot_listiter_next hit.typeIs entry_listiter_next ?_ (args_listiter_next _))))
  show wpAny _ _ (field (.ref it) 0 >>= _) _ _ s
  refine wpAny_bind (wpAny_field ho hd (x := .ref l) rfl ?_)
  show wpAny _ _ (if (Value.ref l == Value.none) = true then _ else _) _ _ s
  rw [if_neg (show ¬ ((Value.ref l == Value.none) = true) from Bool.false_ne_true)]
  show wpAny _ _ (field (.ref it) 1 >>= _) _ _ s
  refine wpAny_bind (wpAny_field ho hd (x := .int i 0) rfl ?_)
  show wpAny _ _ (seqItems? (.ref l) >>= _) _ _ s
  refine wpAny_bind (wpAny_seqItems hol hdl ?_)
  simp only [Int.toNat_natCast, hx]
  refine wpAny_bind (wpAny_rule (wpAny_bind (wpAny_setField ho hd (by simp) ?_)))
  show wpAny _ _ (newExc (.type "StopIteration") [] >>= _) _ _ _
  refine wpAny_bind ?_
  simp only [newExc, newTuple]
  refine wpAny_bind (wpAny_newObj_type ?_ (by size_fits))
  refine wpAny_bind (m := firstArgMember _ _) (wpAny_of_eq (a := Value.none) (by first | rfl | (simp only [firstArgMember]; rfl)) ?_)
  refine wpAny_newObj_type ?_ (by size_fits)
  have k1 := (Heap.get?_update_other s.heap (Obj.mapFields (·.setIfInBounds 0 .none)) (Ne.symm ne)).trans h1
  refine HotX.raiseNew_hot ⟨hh, o1, vs1, Heap.get?_push_of_some _ (Heap.get?_push_of_some _ k1), d1, c1⟩ (Nat.ne_of_lt (Heap.lt_size (Heap.get?_push_of_some _ k1))) (Heap.get?_push_size _ rfl) rfl (by first | (simp; done) | (simp; omega) | (simp only [Array.size_append]; simp; omega)) ?_
  refine wpAny_bind (wpAny_isInstance (T := "StopIteration") (b := true) ⟨_, Heap.get?_update_self _ (Heap.get?_push_size _ rfl) rfl, rfl⟩ isSubtype_stop ?_)
  refine wpAny_pure (hQ _ fun b o nb e => ?_)
  have e2 := (Heap.get?_update_other s.heap (Obj.mapFields (·.setIfInBounds 0 .none)) (Ne.symm nb)).trans e
  rw [Heap.get?_update_other _ _ (Nat.ne_of_gt (Heap.lt_size (Heap.get?_push_of_some _ e2)))]
  exact Heap.get?_push_of_some _ (Heap.get?_push_of_some _ e2)
end
theorem turn_listH {P : Program} {w : World} {K : PySem.W.Frag} {tg : Expr} (a it : Addr) : L2H.TurnH P w K tg (Itl K a) [it] it (fun i h => h.IsListIter it a i) where
  mem := by simp
  obj := fun i h st b hb => by
    rw [List.mem_singleton.mp hb]
    obtain ⟨o, e, _, d⟩ := st
    exact ⟨o, e, fun v z => by rw [d] at z; cases z⟩
  keep := fun i h h' st k => st.at fun o e => k it (by simp) o e
  item := by
    rintro X rfl rfl rfl hc i pins s σ H E I hf st ⟨xs, x, hq, hx⟩
    obtain ⟨its, rv, p, _⟩ := I.list hq
    obtain ⟨u, hu, ru⟩ := rv.get hx
    obtain ⟨f0, f1, f2, f3, f4, f5⟩ := hf it (by simp)
    refine wpAny_pyNext_list_item st p.isList (x := u) (by simpa using hu) fun h' st' sb => ?_
    have I1 : Inv X pins σ H { s with heap := h' } := I.turned (t' := s.toks) (fun b o hb e => (sb.2 b hb).trans e) f0 f1 f3 f4 f5
    obtain ⟨o, e, c, d⟩ := id st'
    exact ⟨u, rfl, go_of (s := { s with heap := h' }) e c d (by decide) ⟨x, H, I1, ru, ⟨rfl, fun ys hy => by rw [I.list_inj hy hq]; exact hx⟩, st', fun b hb => (hf b hb).1⟩⟩
  done := by
    rintro X rfl rfl rfl hc i pins s σ H E I hf st ⟨xs, hq, hx⟩
    obtain ⟨its, rv, p, _⟩ := I.list hq
    obtain ⟨f0, f1, f2, f3, f4, f5⟩ := hf it (by simp)
    obtain ⟨x1, hot⟩ := hc.at I
    have hl := rv.length
    exact list_end_hot hot st p.isList (by simp; omega) fun h' eb => ⟨rfl, I.turned (t' := s.toks) (fun b o hb e => eb b o hb e) f0 f1 f3 f4 f5⟩
  self := fun _ _ _ _ _ st h => wpAny_pyIter_listiter st h
section
variable {X : Cx} {tg : Expr}
theorem pi_listH {l : Expr} {tl : TE} (hl : PE X l tl) : L2H.PIH X tg l (iList X.K tl) := by
  refine ⟨fun pins s σ H R I h => ?_⟩
  refine thn (hl.run pins s σ H _ I h) fun v s1 ⟨x, H1, I1, r1, a, e, ⟨xs, hq⟩, q⟩ => ?_
  subst e
  cases r1
  obtain ⟨its, rv, p, _⟩ := I1.list hq
  refine wpAny_pyIter_list p.isList ⟨s1.heap.objs.size, [s1.heap.objs.size], _, _, H1, rfl, I1.kept (t' := s1.toks) fun b o e => Heap.get?_push_of_some _ e, turn_listH a _, ⟨_, Heap.get?_push_size _ rfl, rfl, rfl⟩, fun b hb => ?_, q⟩
  rw [List.mem_singleton.mp hb]
  exact I1.fpOk (Nat.le_refl _) (I1.hok.fresh (Nat.le_refl _))
end
/-! ### a comprehension's block while an exception is handled: what is handled is pinned there, too -/
section
variable {X : Cx}
theorem not_stack {p : Addr × Obj} {pins : List (Addr × Obj)} {σ : L2.St} {H : Hp} {s : Shared} (I : Inv X pins σ H s) (hp : p ∈ X.pn) : p.1 ∉ frs X.stack := by
  obtain ⟨_, _, nl, nf, _⟩ := I.pin p (List.mem_append_left _ hp)
  rcases I.ok.stk with e | ⟨e, ef⟩
  · rw [e]
    exact nf
  · rw [e]
    unfold frs
    rw [List.filterMap_cons, ef]
    intro z
    rcases List.mem_cons.mp z with z | z
    · exact nl z
    · exact nf z
/-- the block's context with what the def has pinned -/
abbrev blkH (X : Cx) (s : Shared) (H : Hp) (scope : Scope) (ce : Env) (fp : List Addr) : Cx := { X.blk s H scope ce fp with pn := X.pn }
theorem blk_up {s3 : Shared} {H3 : Hp} {scope : Scope} {ce : Env} {fp : List Addr} {pins pinsX : List (Addr × Obj)} {σ σX : L2.St} {H : Hp} {s : Shared} (I3 : Inv X pinsX σX H3 s3) (hl : s3.heap.objs.size ≤ ce.locals) (hf : ∀ p ∈ X.pn, p.1 ∉ fp)
    (I : Inv (X.blk s3 H3 scope ce fp) pins σ H s) : Inv (blkH X s3 H3 scope ce fp) pins σ H s := by
  obtain ⟨ok, os, bare, base, loc, cell, free, freeC, pin, hok, len⟩ := I
  refine ⟨⟨ok.mod, ok.kind, ok.glob, ok.blt, ok.above, ok.inj, ok.has, ok.cab, ok.hd, ok.frames, ok.stk, ok.exf, ok.bs, ok.bsz, ok.noex, ok.exfs, ok.funs, ok.frf⟩, os, bare, base, loc, cell, free, freeC, fun p hp => ?_, hok, len⟩
  rcases List.mem_append.mp hp with hp | hp
  · obtain ⟨g, n, _, _, nc⟩ := I3.pin p (List.mem_append_left _ hp)
    have ns := not_stack I3 hp
    exact ⟨base.keep _ _ g n ns (hf p hp), base.free _ _ g n (hf p hp), fun e => absurd (Nat.lt_of_lt_of_le (Heap.lt_size g) hl) (by rw [e]; exact Nat.lt_irrefl _), ns, nc⟩
  · exact pin p (List.mem_append_right _ hp)
theorem blk_dn {s3 : Shared} {H3 : Hp} {scope : Scope} {ce : Env} {fp : List Addr} {pins : List (Addr × Obj)} {σ : L2.St} {H : Hp} {s : Shared} (I : Inv (blkH X s3 H3 scope ce fp) pins σ H s) : Inv (X.blk s3 H3 scope ce fp) pins σ H s := by
  obtain ⟨ok, os, bare, base, loc, cell, free, freeC, pin, hok, len⟩ := I
  exact ⟨⟨ok.mod, ok.kind, ok.glob, ok.blt, ok.above, ok.inj, ok.has, ok.cab, ok.hd, ok.frames, ok.stk, ok.exf, ok.bs, ok.bsz, ok.noex, ok.exfs, ok.funs, ok.frf⟩, os, bare, base, loc, cell, free, freeC, fun p hp => pin p (List.mem_append_right _ (by simpa using hp)), hok, len⟩
theorem hotC_blk (hc : L2H.HotC X) (s : Shared) (H : Hp) (scope : Scope) (ce : Env) (fp : List Addr) : L2H.HotC (blkH X s H scope ce fp) := hc
end
section
variable {X : Cx}
theorem lc_coreH {pins : List (Addr × Obj)} {s : Shared} {σ : L2.St} {H : Hp} {Q : VK} {elt tg iter : Expr} {ifs : List Expr} {scope : Scope} {own : List (Str × Nat)} {pos pos' : Pos} {wi : TI} {g : TG} {tt : TT} {te : TE} {use : Option (Value → Sem Unit)} {Qf : Value → Shared → Prop}
    (hc : L2H.HotC X) (hN : X.N.Nodup) (I : Inv X pins σ H s) (hi : L2H.PIH X tg iter wi) (ok : BlkOk X.N X.env.scope scope own)
    (hg : ∀ (s : Shared) (H : Hp) (C : Addr) (cl : List (Str × Addr)) (fp : List Addr), PG (X.blk s H scope (compEnvC scope cl C X.env) fp) tg g) (ht : ∀ (s : Shared) (H : Hp) (C : Addr) (cl : List (Str × Addr)) (fp : List Addr), PTs (X.blk s H scope (compEnvC scope cl C X.env) fp) ifs tt)
    (he : ∀ (s : Shared) (H : Hp) (C : Addr) (cl : List (Str × Addr)) (fp : List Addr), PE (X.blk s H scope (compEnvC scope cl C X.env) fp) elt te) (hs : ∀ x, foldedSetIterable iter X.env x = pure x)
    (h : tLc wi g tt te (own.map (·.2)) σ H Q)
    (hRR : ∀ D C s' m H', Inv X pins σ H' s' → Q (.ref D) H' → s'.heap.Ns C m → FpOk X pins H' C → compPost (model X.prog X.w) X.A X.xe use Qf (.ref D) C (.ok .next) s') :
    wpAny (model X.prog X.w) X.A (comprehension (.ListComp elt [⟨tg, iter, ifs, 0⟩] scope pos) scope X.env pos' (newList []) false (eval iter X.env) use) Qf X.xe s := by
  have closes : ∀ y ∈ scope.names, y.2 = .free → ∃ c, X.env.cells.lookup y.1 = some c := fun y hy e => (ok.free y hy e).elim (fun k => I.ok.has _ (.inl k)) fun k => I.ok.has _ (.inr k)
  refine wpAny_comprehension_free (use := use) rfl hs (closure_ok closes) ok.kind (fun y hy e => by rw [ok.uniq y hy, e]) (thn (hi.run pins s σ H _ I h) fun _ s1 hx => thn hx fun itv s2 ⟨it, fp, tn, J, H2, e, I2, T, t2, f2, rest⟩ => ?_)
  subst e
  refine wpAny_newObj_type (newEnv_comp ?_) (by show 0 ≤ sizeLine; decide)
  obtain ⟨W, ⟨m0, w0⟩, turn⟩ := rest _ (I2.hok.fresh (Nat.le_refl _))
  have small : ∀ b ∈ fp, b < s2.heap.objs.size := fun b hb => Heap.lt_size (T.obj _ _ t2 b hb).choose_spec.1
  obtain ⟨s3, H3, hs3, hH3⟩ : ∃ (s3 : Shared) (H3 : Hp), s3 = { s2 with heap := s2.heap.push { cls := .type "list", data := .seq ([] : List Value).toArray } } ∧ H3 = upd H2 s2.heap.objs.size (.lst []) := ⟨_, _, rfl, rfl⟩
  have old3 : ∀ b o, s2.heap.get? b = some o → s3.heap.get? b = some o := fun b o e => by rw [hs3]; exact Heap.get?_push_of_some _ e
  have I3 : Inv X pins σ H3 s3 := by
    rw [hs3, hH3]
    exact I2.laid (t' := s2.toks) (fun b o e => Heap.get?_push_of_some _ e) (Nat.le_refl _) ⟨Nat.zero_le _, [], 0, .nil, Heap.get?_push_size _ rfl⟩
  have f3 : ∀ b ∈ fp, FpOk X pins H3 b ∧ b < s3.heap.objs.size := fun b hb => by
    refine ⟨⟨by rw [hH3, upd_ne (Nat.ne_of_lt (small b hb))]; exact (f2 b hb).1, (f2 b hb).2⟩, ?_⟩
    rw [hs3, Heap.size_push]
    exact Nat.lt_succ_of_lt (small b hb)
  have t3 : tn 0 s3.heap := T.keep _ _ _ t2 fun b _ o e => old3 b o e
  have w3 : W 0 m0 H3 := by rw [hH3]; exact w0
  generalize s2.heap.objs.size = D at turn
  rw [← hs3]
  clear w0 hH3 hs3
  have start := block_start I3 ok hN f3
  have pg := hg s3 H3 s3.heap.objs.size (cellsFrom (s3.heap.objs.size + 1) scope.names (cloFrom X.env.cells scope.names [])) fp
  have pt := ht s3 H3 s3.heap.objs.size (cellsFrom (s3.heap.objs.size + 1) scope.names (cloFrom X.env.cells scope.names [])) fp
  have pe := he s3 H3 s3.heap.objs.size (cellsFrom (s3.heap.objs.size + 1) scope.names (cloFrom X.env.cells scope.names [])) fp
  show codeAny _ _ (.compStart (.ListComp elt [⟨tg, iter, ifs, 0⟩] scope pos) 0 (.ref it) (.ref D) (compEnvC scope (cellsFrom (s3.heap.objs.size + 1) scope.names (cloFrom X.env.cells scope.names [])) s3.heap.objs.size X.env)) (compPost (model X.prog X.w) X.A X.xe use Qf (.ref D) s3.heap.objs.size) { s3 with heap := pushCells (s3.heap.push { cls := .type "dict", data := .dict #[] }) scope.names }
  have cL : (compEnvC scope (cellsFrom (s3.heap.objs.size + 1) scope.names (cloFrom X.env.cells scope.names [])) s3.heap.objs.size X.env).locals = s3.heap.objs.size := rfl
  generalize compEnvC scope (cellsFrom (s3.heap.objs.size + 1) scope.names (cloFrom X.env.cells scope.names [])) s3.heap.objs.size X.env = ce at start pg pt pe cL ⊢
  obtain ⟨s4, hs4⟩ : ∃ s4 : Shared, s4 = { s3 with heap := pushCells (s3.heap.push { cls := .type "dict", data := .dict #[] }) scope.names } := ⟨_, rfl⟩
  rw [← hs4] at start ⊢
  have t4 : tn 0 s4.heap := T.keep _ _ _ t3 fun b _ o e => by rw [hs4]; exact pushCells_keeps _ _ _ _ (Heap.get?_push_of_some _ e)
  have apart : ∀ p ∈ X.pn, p.1 ∉ fp := fun p hp z => (f2 _ z).2.2.2.2.2 p (List.mem_append_left _ hp) rfl
  have up : ∀ {σ' : L2.St} {H' : Hp} {s' : Shared}, Inv (X.blk s3 H3 scope ce fp) [] σ' H' s' → Inv (blkH X s3 H3 scope ce fp) [] σ' H' s' := fun J => blk_up I3 (by rw [cL]; exact Nat.le_refl _) apart J
  have okB : ∀ {σ' : L2.St} {H' : Hp} {s' : Shared}, Inv (X.blk s3 H3 scope ce fp) [] σ' H' s' → (∀ b ∈ fp, H' b = none) → ∀ b ∈ fp, FpOk (X.blk s3 H3 scope ce fp) [] H' b := fun J n b hb => ⟨n b hb, (J.ok.exf b hb).1, J.ok.exfs b hb, .inl hb, fun x c e => (J.ok.exf b hb).2 x c e, fun p hp => absurd (show p ∈ ([] : List (Addr × Obj)) ++ [] from hp) (by simp)⟩
  have okH : ∀ {σ' : L2.St} {H' : Hp} {s' : Shared}, Inv (X.blk s3 H3 scope ce fp) [] σ' H' s' → (∀ b ∈ fp, H' b = none) → ∀ b ∈ fp, FpOk (blkH X s3 H3 scope ce fp) [] H' b := fun J n b hb => ⟨n b hb, (J.ok.exf b hb).1, J.ok.exfs b hb, .inl hb, fun x c e => (J.ok.exf b hb).2 x c e, fun p hp z => apart p (by simpa using hp) (by rw [z]; exact hb)⟩
  have walk : codeAny (model X.prog X.w) X.A (.compLoop (.ListComp elt [⟨tg, iter, ifs, 0⟩] scope pos) 0 (.ref it) (.ref D) ce) (compPost (model X.prog X.w) X.A X.xe use Qf (.ref D) s3.heap.objs.size) s4 := by
    refine compLoop_any (fun n s' => ∃ i H', Inv (X.blk s3 H3 scope ce fp) [] (wipe σ (own.map (·.2))) H' s' ∧ tn i s'.heap ∧ (∀ b ∈ fp, H' b = none) ∧ W i n H') (fun n s5 ⟨i, H5, I5, t5, n5, w5⟩ => ?_) m0 ⟨0, H3, start, t4, fun b hb => (f3 b hb).1.1, w3⟩
    rcases turn i n H5 w5 with ⟨stop, qq⟩ | ⟨go, Nx, less, step⟩
    · refine thnF (T.done (blkH X s3 H3 scope ce fp) rfl rfl rfl (hotC_blk hc ..) i [] s5 _ H5 (fun _ _ => False) (up I5) (okH I5 n5) t5 stop) fun r s6 ⟨hr, J6⟩ => ?_
      subst hr
      have I6 := blk_dn J6
      have back : Inv X pins σ H5 s6 := I3.call' (ch := fp) I6.os I6.base I6.hok I6.bare fun b hb => ⟨(f3 b hb).1.2.2.2.1, (f3 b hb).1.2.1, (f3 b hb).1.2.2.2.2.1, (f3 b hb).1.2.2.2.2.2⟩
      have nC : H5 ce.locals = none := I6.free
      obtain ⟨m, hn, _⟩ := I6.loc
      have hn : s6.heap.Ns ce.locals m := hn
      rw [cL] at hn nC
      exact hRR D s3.heap.objs.size s6 m H5 back qq hn (I3.fpOk (Nat.le_refl _) nC)
    · refine thnF (T.item (blkH X s3 H3 scope ce fp) rfl rfl rfl (hotC_blk hc ..) i [] s5 _ H5 (fun _ _ => False) (up I5) (okH I5 n5) t5 go) fun r s6 ⟨u, hr, h6⟩ => ?_
      subst hr
      refine thnF h6 fun _ s7 ⟨x, H7, J7, r7, y7, t7, n7⟩ => ?_
      have I7 := blk_dn J7
      refine thnF (pg.run _ s7 _ H7 x u _ (I7.pinned (okB I7 n7) (T.obj _ _ t7)) r7 (step x H7 y7)) fun _ s8 ⟨σ8, H8, I8, same8, q8⟩ => ?_
      refine thnF (pt.run _ s8 σ8 H8 _ I8 q8) fun b s9 ⟨H9, I9, q9⟩ => ?_
      have done : ∀ {s' : Shared} {H' : Hp}, Inv (X.blk s3 H3 scope ce fp) ([] ++ pinsAt fp s7.heap) σ8 H' s' → Nx H' → ∃ m, m < n ∧ ∃ i H', Inv (X.blk s3 H3 scope ce fp) [] (wipe σ (own.map (·.2))) H' s' ∧ tn i s'.heap ∧ (∀ b ∈ fp, H' b = none) ∧ W i m H' := fun {s' H'} J nx => by
        obtain ⟨m', lt, w'⟩ := less H' nx
        have held : ∀ b ∈ fp, ∀ o, s7.heap.get? b = some o → s'.heap.get? b = some o ∧ H' b = none := fun b hb o e => by
          have z := J.pin (b, o) (List.mem_append_right _ (List.mem_append_right _ (mem_pinsAt hb e)))
          exact ⟨z.1, z.2.1⟩
        refine ⟨m', lt, i + 1, H', (J.unpinned (pins := [])).weak (by rw [← same8, wipe_length]) (fun j v e => ?_), T.keep _ _ _ t7 fun b hb o e => (held b hb o e).1, fun b hb => ?_, w'⟩
        · rw [← same8] at e
          exact (wipe_some e).1
        · obtain ⟨o, e, _⟩ := T.obj _ _ t7 b hb
          exact (held b hb o e).2
      cases b with
      | false => exact done I9 q9
      | true =>
        refine thnF (pe.run _ s9 σ8 H9 _ I9 q9) fun z s10 ⟨yv, H10, I10, r10, acc, hD, hz, nx⟩ => ?_
        exact app_ok (X := X.blk s3 H3 scope ce fp) I10 hD hz r10 fun s11 I11 => done I11 nx
  exact codeAny_compStart_list walk (T.self X.A 0 _ _ _ t4 walk)
end
section
variable {X : Cx}
/-- [..] as a value, there -/
theorem pe_lcH {elt tg iter : Expr} {ifs : List Expr} {scope : Scope} {own : List (Str × Nat)} {pos : Pos} {wi : TI} {g : TG} {tt : TT} {te : TE} (hc : L2H.HotC X) (hN : X.N.Nodup) (hi : L2H.PIH X tg iter wi) (ok : BlkOk X.N X.env.scope scope own)
    (hg : ∀ (s : Shared) (H : Hp) (C : Addr) (cl : List (Str × Addr)) (fp : List Addr), PG (X.blk s H scope (compEnvC scope cl C X.env) fp) tg g) (ht : ∀ (s : Shared) (H : Hp) (C : Addr) (cl : List (Str × Addr)) (fp : List Addr), PTs (X.blk s H scope (compEnvC scope cl C X.env) fp) ifs tt)
    (he : ∀ (s : Shared) (H : Hp) (C : Addr) (cl : List (Str × Addr)) (fp : List Addr), PE (X.blk s H scope (compEnvC scope cl C X.env) fp) elt te) (hs : ∀ x, foldedSetIterable iter X.env x = pure x := by intro _; rfl) :
    PE X (.ListComp elt [⟨tg, iter, ifs, 0⟩] scope pos) (tLc wi g tt te (own.map (·.2))) := by
  refine ⟨fun pins s σ H Q I h => ?_⟩
  rw [eval_ListComp]
  exact lc_coreH hc hN I hi ok hg ht he hs h fun D C s' m H' J q hn ⟨f0, f1, f2, f3, f4, f5⟩ => ⟨m, hn, fun _ sb => ⟨.ref D, H', J.turned (t' := s'.toks) (fun b o hb e => (sb.2 b hb).trans e) f0 f1 f3 f4 f5, rfl, q⟩⟩
/-- name = [..] on one line, there -/
theorem ps_setLcH {i : Nat} {y : Str} {py : Pos} {elt tg iter : Expr} {ifs : List Expr} {scope : Scope} {own : List (Str × Nat)} {pos spos : Pos} {wi : TI} {g : TG} {tt : TT} {te : TE} (hc : L2H.HotC X) (hN : X.N.Nodup) (hy : X.N[i]? = some y) (hyl : X.env.scope.names.lookup y = some .local)
    (hsw : swapsWith (.ListComp elt [⟨tg, iter, ifs, 0⟩] scope pos) (some (.Name y py)) spos.line X.env = pure true) (hi : L2H.PIH X tg iter wi) (ok : BlkOk X.N X.env.scope scope own)
    (hg : ∀ (s : Shared) (H : Hp) (C : Addr) (cl : List (Str × Addr)) (fp : List Addr), PG (X.blk s H scope (compEnvC scope cl C X.env) fp) tg g) (ht : ∀ (s : Shared) (H : Hp) (C : Addr) (cl : List (Str × Addr)) (fp : List Addr), PTs (X.blk s H scope (compEnvC scope cl C X.env) fp) ifs tt)
    (he : ∀ (s : Shared) (H : Hp) (C : Addr) (cl : List (Str × Addr)) (fp : List Addr), PE (X.blk s H scope (compEnvC scope cl C X.env) fp) elt te) (hs : ∀ x, foldedSetIterable iter X.env x = pure x := by intro _; rfl) :
    PS X (.Assign [.Name y py] (.ListComp elt [⟨tg, iter, ifs, 0⟩] scope pos) spos) (tAsg (tLc wi g tt te (own.map (·.2))) (gName i)) := by
  refine ⟨fun pins s σ H D I h => ?_⟩
  rw [exec_Assign_Name_used _ _ _ _ hsw]
  refine wpAny_bind (wpAny_standAt (wpAny_bind ?_))
  show wpAny _ X.A (do let _ ← comprehension (.ListComp elt [⟨tg, iter, ifs, 0⟩] scope pos) scope X.env (firstIterPos [⟨tg, iter, ifs, 0⟩] pos) (newList []) false (eval iter X.env) (some (assign (.Name y py) X.env))) _ _ s
  have h : tLc wi g tt te (own.map (·.2)) σ H (fun x H1 => gName i x σ H1 D.nx) := h
  refine wpAny_bind (thn (lc_coreH (Qf := fun _ s' => SP X pins D .next s') hc hN I hi ok hg ht he hs h fun L C s' m H' J q hn ⟨f0, f1, f2, f3, f4, f5⟩ => ?_) fun _ s' hq => wpAny_pure (wpAny_pure hq))
  show wpAny _ _ (assign (.Name y py) X.env (.ref L)) _ _ _
  refine wpAny_assign_Name (store_ok2 (v := V.ref L) J hN hy (.inl hyl) rfl (fun s2 I2 ⟨a, sb, ha⟩ => ?_) (.inr hyl))
  have apart : C ≠ a := ha.elim (fun z => by rw [z]; exact f1) fun z e => f4 y a z e.symm
  refine ⟨m, hn.sameBut sb apart, fun h3 sb3 => ⟨_, H', I2.turned (t' := s2.toks) (fun b o hb e => (sb3.2 b hb).trans e) f0 f1 f3 f4 f5, q⟩⟩
end
/-! ### the end of a walk over a dict's keys, there -/
section
variable {prog : Program} {w : World} {A : Around} {E : Value → Shared → Prop} {s : Shared}
theorem keys_end_hot {it d x1 : Addr} {i ep : Nat} {es : Array DictEntry} {Q : Option Value → Shared → Prop} (hot : HotX.HotAt A x1 s.heap) (hit : s.heap.IsKeyIter it d i es.size ep) (hm : s.heap.DictRaw d es ep) (hge : es.size ≤ i)
    (hQ : ∀ h', Heap.ExtBut it s.heap h' → Q none { s with heap := h' }) : wpAny (model prog w) A (pyNext (.ref it)) Q E s := by
  obtain ⟨o, ho, hc, hd⟩ := id hit
  obtain ⟨od, hod, hcd, hdd⟩ := id hm
  obtain ⟨hh, o1, vs1, h1, d1, c1⟩ := hot
  have ne : x1 ≠ it := fun e => by
    rw [e, ho] at h1
    rw [← Option.some.inj h1, hd] at d1
    rw [← Data.fields.inj d1] at c1
    simp [rawInt] at c1
  unfold pyNext
  refine wpAny_bind (wpAny_attempt (wpAny_callSpecial?_slot (name := Str.ofString "__next__") hit.typeIs F.slot_dict_keyiterator_next
    (wpAny_call_entry F.slot_dict_keyiterator_next hit.typeIs F.entry_dict_keyiterator_next ?_ (F.args_dict_keyiterator_next_1 _))))
  refine wpAny_bind (wpAny_pure (wpAny_bind (wpAny_bind ?_)))
  first | refine wpAny_bind (wpAny_typeNameOfWhole_keyiter hit.typeIs (wpAny_pure ?_)) | refine wpAny_bind (wpAny_typeNameOf_keyiter hit.typeIs (wpAny_pure ?_))
  refine wpAny_bind (wpAny_fieldsOf ho hd ?_)
  simp only [show Builtin.Dict_items.ownsTuple "dict_keyiterator" = false by decide, Bool.false_eq_true, if_false]
  show wpAny _ _ (if (Value.ref d == Value.none) = true then _ else _) _ _ s
  rw [if_neg (show ¬ ((Value.ref d == Value.none) = true) from Bool.false_ne_true)]
  refine wpAny_bind (wpAny_pure (wpAny_bind (wpAny_dictEntries hod hdd ?_)))
  rw [if_neg (by simp)]
  refine wpAny_bind (wpAny_pure (wpAny_bind (wpAny_dictEpoch hod hdd ?_)))
  rw [if_neg (by simp)]
  refine wpAny_pure ?_
  simp only [show ¬ ((i : Int) < 0) by omega, if_false, Int.toNat_natCast, Array.getElem?_eq_none hge]
  refine wpAny_bind ?_
  first | refine wpAny_bind (wpAny_typeNameOfWhole_keyiter hit.typeIs (wpAny_pure ?_)) | refine wpAny_bind (wpAny_typeNameOf_keyiter hit.typeIs (wpAny_pure ?_))
  show wpAny _ _ (setField (.ref it) 0 .none >>= _) _ _ s
  refine wpAny_bind (wpAny_setField ho hd (by simp) ?_)
  show wpAny _ _ (newExc (.type "StopIteration") [] >>= _) _ _ _
  refine wpAny_bind ?_
  simp only [newExc, newTuple]
  refine wpAny_bind (wpAny_newObj_type ?_ (by size_fits))
  refine wpAny_bind (m := firstArgMember _ _) (wpAny_of_eq (a := Value.none) (by first | rfl | (simp only [firstArgMember]; rfl)) ?_)
  refine wpAny_newObj_type ?_ (by size_fits)
  have k1 := (Heap.get?_update_other s.heap (Obj.mapFields (·.setIfInBounds 0 .none)) (Ne.symm ne)).trans h1
  refine HotX.raiseNew_hot ⟨hh, o1, vs1, Heap.get?_push_of_some _ (Heap.get?_push_of_some _ k1), d1, c1⟩ (Nat.ne_of_lt (Heap.lt_size (Heap.get?_push_of_some _ k1))) (Heap.get?_push_size _ rfl) rfl (by first | (simp; done) | (simp; omega) | (simp only [Array.size_append]; simp; omega)) ?_
  refine wpAny_bind (wpAny_isInstance (T := "StopIteration") (b := true) ⟨_, Heap.get?_update_self _ (Heap.get?_push_size _ rfl) rfl, rfl⟩ isSubtype_stop ?_)
  refine wpAny_pure (hQ _ fun b o nb e => ?_)
  have e2 := (Heap.get?_update_other s.heap (Obj.mapFields (·.setIfInBounds 0 .none)) (Ne.symm nb)).trans e
  rw [Heap.get?_update_other _ _ (Nat.ne_of_gt (Heap.lt_size (Heap.get?_push_of_some _ e2)))]
  exact Heap.get?_push_of_some _ (Heap.get?_push_of_some _ e2)
end
/-- the walk over a dict's keys, there: how what is handled stands is part of its state -/
theorem keys_walk_hot {prog : Program} {w : World} {A : Around} {KT : Type} [DecidableEq KT] {knd : KeyKind prog w KT} {x1 : Addr} {v1 : Array Value} (hh : A.handled = some (.ref x1)) (c1 : v1[2]? = some .none) (I d : Addr) (hne : d ≠ I) (h1 : x1 ≠ I) (kvs : List (KT × Value)) (ep : Nat) :
    Walks prog w A I [I, d, x1] [I] kvs.length (fun i v => ∃ k x, kvs[i]? = some (k, x) ∧ knd.is k v = true) (fun i h => h.IsKeyIter I d i kvs.length ep ∧ h.DictAt knd d kvs ep ∧ ∃ o, h.get? x1 = some o ∧ o.data = .fields v1) where
  sub := fun b hb => by rw [List.mem_singleton.mp hb]; simp
  frame := fun _ _ _ ⟨a, b, o, e, f⟩ hk => ⟨a.at fun o e => hk I (by simp) o e, b.at' fun o e => hk d (by simp) o e, o, hk x1 (by simp) o e, f⟩
  item := fun i s Q E hi ⟨a, b, o, e, f⟩ hQ => by
    refine wpAny_pyNext_dict_item a b (List.getElem?_eq_getElem hi) fun key h' hkey hit' hs' => ?_
    exact hQ key h' s.toks ⟨_, _, List.getElem?_eq_getElem hi, hkey⟩ ⟨hit', b.extBut hs'.extBut hne, o, hs'.extBut x1 o h1 e, f⟩ fun b o hb e => hs'.extBut b o (fun h => hb (by simp [h])) e
  done := fun s Q E ⟨a, b, o, e, f⟩ hQ => by
    obtain ⟨es, hr, hs, _⟩ := b.raw
    rw [← hs] at a
    exact keys_end_hot ⟨hh, o, v1, e, f, c1⟩ a hr (Nat.le_refl _) fun h' he' => hQ h' s.toks fun b o hb e => he' b o (fun h => hb (by simp [h])) e
  self := fun _ _ _ _ ⟨a, _, _⟩ hQ => wpAny_pyIter_keyiter a hQ
/-- l.extend(d) for a new list, there -/
theorem extend_hot {prog : Program} {w : World} {A : Around} {KT : Type} [DecidableEq KT] {knd : KeyKind prog w KT} {s : Shared} {R : Result → Shared → Prop} {d x1 S : Addr} {v1 : Array Value} {o1 : Obj} {kvs : List (KT × Value)} {ep c0 : Nat} (lo : (d == sysModules) = false) (hh : A.handled = some (.ref x1)) (h1 : s.heap.get? x1 = some o1) (d1 : o1.data = .fields v1) (c1 : v1[2]? = some .none)
    (hm : s.heap.DictAt knd d kvs ep) (Sd : S ≠ d) (Sx : S ≠ x1) (res : Value) (hS : s.heap.get? S = some { cls := .type "list", data := .seq #[] c0 }) (hn : kvs.length ≤ sizeLine)
    (hR : ∀ h' tk acc' c', (∀ b o, b ≠ S → s.heap.get? b = some o → h'.get? b = some o) → h'.get? S = some { cls := .type "list", dict := none, data := .seq acc' c', slots := #[] } → ItemsOf (fun i v => ∃ k x, kvs[i]? = some (k, x) ∧ knd.is k v = true) acc' kvs.length → R (.ok (.ret res)) { s with heap := h', toks := tk }) :
    wpAny (model prog w) A.in1 (Builtin.List.listExtendWith (.ref S) (.ref d) res)
      (fun fin s' => match fin with | .done f => R (.ok f) s' | .again c' => c'.quiet = true ∧ codeAny (model prog w) A c' R s') (fun e s' => R (.error e) s') s := by
  have K := PySem.W.kdl_dict (knd := knd) (kvs := kvs) (ep := ep) lo
  have n1 : S ≠ s.heap.objs.size := Nat.ne_of_lt (Heap.lt_size hS)
  have Wk := keys_walk_hot (prog := prog) (w := w) (A := A.in1) (knd := knd) (x1 := x1) (v1 := v1) hh c1 s.heap.objs.size d (Nat.ne_of_lt hm.lt_size) (Nat.ne_of_lt (Heap.lt_size h1)) kvs ep
  have out : S ∉ [s.heap.objs.size, d, x1] := by simp only [List.mem_cons, List.not_mem_nil, or_false, not_or]; exact ⟨n1, Sd, Sx⟩
  have key : ∀ (h : Heap) (c₁ tk : Nat), (h.IsKeyIter s.heap.objs.size d 0 kvs.length ep ∧ h.DictAt knd d kvs ep ∧ ∃ o, h.get? x1 = some o ∧ o.data = .fields v1) → (∀ b o, b ≠ S → s.heap.get? b = some o → h.get? b = some o) →
      h.get? S = some { cls := .type "list", data := .seq #[] c₁ } → codeAny (model prog w) A (.builtin "list.extend.loop" ⟨[.ref S, .ref s.heap.objs.size, res], []⟩) R { s with heap := h, toks := tk } := fun h c₁ tk st hk hS1 => by
    refine codeAny_extend_loopS Wk.toS hn S out res kvs.length 0 _ #[] c₁ rfl (Nat.zero_le _) st hS1 (ItemsOf.nil _) fun s' acc' c' hm' hS' hacc => ?_
    rw [Moved.eq_with hm']
    refine hR s'.heap s'.toks acc' c' (fun b o hb e => hm'.heap b o (fun z => ?_) (hk b o hb e)) hS' hacc
    rcases List.mem_cons.mp z with z | z
    · exact hb z
    · exact absurd (Heap.lt_size e) (by rw [List.mem_singleton.mp z]; exact Nat.lt_irrefl _)
  unfold Builtin.List.listExtendWith
  refine wpAny_bind (wpAny_typeOf (T := "dict") (K.type s hm) ?_)
  simp only [show Builtin.List.listSameRef (.ref S) (.ref d) = false by simp [Builtin.List.listSameRef, Sd], K.notList, K.notTuple, Bool.or_false, Bool.false_eq_true, if_false]
  refine wpAny_bind (wpAny_pyIter_dict lo hm ?_)
  have hS1 := Heap.get?_push_of_some ({ cls := .type "dict_keyiterator", data := .fields #[.ref d, .int 0 0, .int kvs.length 0, .int ep 0] } : Obj) hS
  refine wpAny_bind (wpAny_holding (K.hint _ _ _ _ (hm.push _) ?_))
  have st : (s.heap.push ({ cls := .type "dict_keyiterator", data := .fields #[.ref d, .int 0 0, .int kvs.length 0, .int ep 0] } : Obj)).IsKeyIter s.heap.objs.size d 0 kvs.length ep ∧ (s.heap.push ({ cls := .type "dict_keyiterator", data := .fields #[.ref d, .int 0 0, .int kvs.length 0, .int ep 0] } : Obj)).DictAt knd d kvs ep ∧ ∃ o, (s.heap.push ({ cls := .type "dict_keyiterator", data := .fields #[.ref d, .int 0 0, .int kvs.length 0, .int ep 0] } : Obj)).get? x1 = some o ∧ o.data = .fields v1 := ⟨⟨_, Heap.get?_push_size _ rfl, rfl, rfl⟩, hm.push _, o1, Heap.get?_push_of_some _ h1, d1⟩
  refine wpAny_ite_split (fun _ => ?_) (fun _ => wpAny_pure ⟨plainId_quiet PySem.F.plain_extend_loop _, key _ c0 _ st (fun b o _ e => Heap.get?_push_of_some _ e) hS1⟩)
  refine wpAny_bind (wpAny_rule (wpAny_bind ?_))
  show wpAny _ _ (updateSeq S (·.push .none) >>= fun _ => updateSeq S (·.pop)) _ _ _
  refine wpAny_bind (wpAny_updateSeq hS1 rfl ?_)
  have hS2 := Heap.get?_update_self (Obj.mapSeq (·.push Value.none)) hS1 rfl
  refine wpAny_updateSeq (hz := by seq_fits) hS2 rfl ?_
  have two : ∀ b o, b ≠ S → (s.heap.push ({ cls := .type "dict_keyiterator", data := .fields #[.ref d, .int 0 0, .int kvs.length 0, .int ep 0] } : Obj)).get? b = some o → _ := fun b o hb e => (Heap.get?_update_other _ (Obj.mapSeq (·.pop)) (Ne.symm hb)).trans ((Heap.get?_update_other _ (Obj.mapSeq (·.push Value.none)) (Ne.symm hb)).trans e)
  exact wpAny_pure ⟨plainId_quiet PySem.F.plain_extend_loop _, key _ _ _ (Wk.frame 0 _ _ st fun b hb o e => two b o (fun z => out (z ▸ hb)) e) (fun b o hb e => two b o hb (Heap.get?_push_of_some _ e)) (Heap.get?_update_self (Obj.mapSeq (·.pop)) hS2 rfl)⟩
/-- the list of a dict's keys, there -/
theorem collect_hot {prog : Program} {w : World} {A : Around} {E : Value → Shared → Prop} {KT : Type} [DecidableEq KT] {knd : KeyKind prog w KT} {s : Shared} {R : List Value → Shared → Prop} {d x1 : Addr} {v1 : Array Value} {o1 : Obj} {kvs : List (KT × Value)} {ep : Nat} (lo : (d == sysModules) = false) (hh : A.handled = some (.ref x1)) (h1 : s.heap.get? x1 = some o1) (d1 : o1.data = .fields v1) (c1 : v1[2]? = some .none)
    (hm : s.heap.DictAt knd d kvs ep) (hn : kvs.length ≤ sizeLine)
    (h : ∀ (h' : Heap) (tk : Nat) (acc : Array Value), (∀ b o, s.heap.get? b = some o → h'.get? b = some o) → ItemsOf (fun i v => ∃ k x, kvs[i]? = some (k, x) ∧ knd.is k v = true) acc kvs.length → R acc.toList { s with heap := h', toks := tk }) :
    wpAny (model prog w) A (collect (.ref d)) R E s := by
  unfold collect
  refine wpAny_bind (wpAny_runValue (codeAny_builtin entry_proto_collect' ?_))
  rw [Around.under_plainId PySem.F.plain_proto_collect _]
  show wpAny _ A.in1 (newList [] >>= fun l => again (.builtin "list.__iadd__" ⟨[l, .ref d], []⟩)) _ _ s
  refine wpAny_bind (wpAny_newObj_type (wpAny_pure ⟨plainId_quiet PySem.F.plain_list_iadd _, codeAny_builtin entry_list_iadd' ?_⟩))
  rw [Around.under_plainId PySem.F.plain_list_iadd _]
  show wpAny _ A.in1 (Builtin.List.listExtendWith (.ref s.heap.objs.size) (.ref d) (.ref s.heap.objs.size)) _ _ _
  have old : ∀ b o, s.heap.get? b = some o → (s.heap.push { cls := .type "list", data := .seq ([] : List Value).toArray }).get? b = some o := fun b o e => Heap.get?_push_of_some _ e
  have run := extend_hot (A := A) (s := { s with heap := s.heap.push { cls := .type "list", data := .seq ([] : List Value).toArray } }) (S := s.heap.objs.size) (c0 := 0)
    (R := fun (q : Result) (s' : Shared) => ∃ (h' : Heap) (tk : Nat) (acc' : Array Value) (c' : Nat), q = .ok (.ret (.ref s.heap.objs.size)) ∧ s' = { s with heap := h', toks := tk } ∧ (∀ b o, s.heap.get? b = some o → h'.get? b = some o) ∧
      h'.get? s.heap.objs.size = some { cls := .type "list", dict := none, data := .seq acc' c', slots := #[] } ∧ ItemsOf (fun i v => ∃ k x, kvs[i]? = some (k, x) ∧ knd.is k v = true) acc' kvs.length)
    lo hh (old _ _ h1) d1 c1 (hm.push _) (Nat.ne_of_gt hm.lt_size) (Nat.ne_of_gt (Heap.lt_size h1)) (.ref s.heap.objs.size) (Heap.get?_push_size _ rfl) hn
    (fun h' tk acc' c' hk hS' hacc => ⟨h', tk, acc', c', rfl, rfl, fun b o e => hk b o (Nat.ne_of_lt (Heap.lt_size e)) (old b o e), hS', hacc⟩)
  refine wpAny_mono run (fun fin s' x => ?_) fun e s' ⟨_, _, _, _, e', _⟩ => by cases e'
  cases fin with
  | done f =>
    obtain ⟨h', tk, acc', c', e, rfl, hk, hS', hacc⟩ := x
    cases e
    show wpAny _ A (load s.heap.objs.size >>= _) _ _ _
    exact wpAny_bind (wpAny_load hS' (wpAny_pure (h h' tk acc' hk hacc)))
  | again c₁ =>
    refine ⟨x.1, codeAny_mono x.2 fun q s₂ y => ?_⟩
    obtain ⟨h', tk, acc', c', rfl, rfl, hk, hS', hacc⟩ := y
    show wpAny _ A (load s.heap.objs.size >>= _) _ _ _
    exact wpAny_bind (wpAny_load hS' (wpAny_pure (h h' tk acc' hk hacc)))
/-- sorted(d), d a dict with int keys, there -/
theorem call_sortDH {X : Cx} (hc : L2H.HotC X) : CallR X (.builtin "sorted") rSortD := by
  intro pins sh σ H xs us Q inv rel ask
  obtain ⟨a, rfl, ask⟩ := ask
  obtain ⟨kvs, here, ks, hks, ask⟩ := dcAt_get ask
  obtain ⟨u, rfl, ra⟩ := vals1 rel
  cases ra
  obtain ⟨p, ⟨hh, v1, d1, c1⟩, hp⟩ := hc
  have h1 := (inv.pin p (List.mem_append_left _ hp)).1
  obtain ⟨small, lo, vs, kv, dd⟩ := dk_rd inv.hok (.inl here)
  obtain ⟨ep, hat⟩ := dd.dictAt
  have vk : vs.map (·.1) = ks.map Sum.inl := kv.keys.symm.trans hks
  have l1 : vs.length = ks.length := by simpa using congrArg List.length vk
  have l2 : kvs.length = ks.length := by simpa using congrArg List.length hks
  refine Calls.call_function_entry kind_sorted plain_sorted entry_sorted (args_sorted1 (.ref a)) ?_
  unfold Builtin.«sorted»
  refine wpAny_bind (m := checkCount "sorted" 1 1 _) (wpAny_pure (wpAny_bind ?_))
  refine collect_hot (A := X.A.in1) (knd := mixKind X.prog X.w) (kvs := vs) (ep := ep) lo hh h1 d1 c1 hat (by omega) fun h' tk acc kept got => ?_
  have all := keys_ints vk got.1 got.2
  have fits : acc.toList.length ≤ sizeLine := by rw [Array.length_toList, got.1]; omega
  have I1 : Inv X pins σ H { sh with heap := h', toks := tk } := inv.kept kept
  refine wpAny_bind (wpAny_newList (wpAny_bind (wpAny_holding ?_)) fits)
  have new : (h'.push (seqObj "list" acc.toList.toArray 0)).get? h'.objs.size = some (seqObj "list" acc.toList.toArray 0) := Heap.get?_push_size _ rfl
  refine wpAny_call_entry (s := { sh with heap := h'.push (seqObj "list" acc.toList.toArray 0), toks := tk }) slot_list_sort ⟨_, new, rfl⟩ entry_list_sort (SrtO.list_sort_ord SrtO.swo_int new fits (fun two => SrtO.ints_sortable all two) fun out o1 o2 => ⟨_, rfl, ?_⟩) (args_list_sort _)
  obtain ⟨k1, k2, k3⟩ := SrtO.ints_out all o1 o2
  obtain ⟨e', he'⟩ := sortedHeap_at (vs := acc.toList) (out := out.toArray) new
  refine wpAny_pure ⟨_, rfl, .ref h'.objs.size, upd H h'.objs.size (.lst ((out.map SrtO.iv).map V.int)), I1.laid (t' := tk) (fun b u e => ?_) (Nat.le_refl _) ⟨by rw [List.length_map, k2.length_eq, ← l2]; exact small, out, e', vals_of_ints k1, he'⟩, rfl, ask _ _ k2 k3 (I1.hok.fresh (Nat.le_refl _))⟩
  have lt : b < h'.objs.size := Heap.lt_size e
  rw [sortedHeap_old (Nat.ne_of_lt lt) (by rw [size_push']; exact Nat.lt_succ_of_lt lt)]
  exact Heap.get?_push_of_some _ e

/-! ### calls where an error is handled, told as the calm ones are -/
section
variable {X : Cx} {k : Nat} {f C : Addr} {fd : FuncData} {ps : List Str} {sp : Sp} {x m : Str} {q pos apos : Pos} {e o : Expr} {es : List Expr} {ta : TE} {t : TA}
theorem hu_ofH {A : Around} (hr : L2H.RoomH k A) : A.units + 1 < cLine := by
  have := hr.un
  omega
theorem pe_callHc (F : L2H.FnH X.prog X.w X.K X.mg X.base CX0 k f fd ps sp) (hr : L2H.RoomH k X.A) (hc : L2H.HotC X) (hg : Gl X x) (hm : X.mg x = some (.ref f)) (hk : PySem.W.keepIn X.K (.ref f) = true) (hb : Binds X.K fd ps [])
    (ha : PA X (e :: es) t) (hdb : (x == ("__debug__" : Str)) = false := by decide) (he : starEach (e :: es) X.env = (false, eval e X.env) :: starEach es X.env := by rfl) (hpl : (backTo pos (starEach es X.env)).any (·.1) = false := by rfl) :
    PE X (.Call (.Name x q) (e :: es) [] pos) (tCall sp [] E0 t) :=
  PE.by (L2H.pe_callH F hr hc hg hm hk hb (E := fun _ => E0) (fun σ => passAt0) ha hdb he hpl) fun σ H Q h => by
    have e1 : (fun (vs : List V) H1 => sp (vs ++ []) H1 Q E0) = fun vs H1 => sp vs H1 Q E0 := by
      funext vs H1
      rw [List.append_nil]
    have h2 : t σ H fun vs H1 => sp (vs ++ []) H1 Q E0 := h
    rw [e1] at h2
    exact h2
theorem pe_methHc {pl : Sem Bool} (he : PE X o ta) (c : Cls X.K C) (hm : Meth X.K C m f) (F : L2H.FnH X.prog X.w X.K X.mg X.base CX0 k f fd ps sp) (hr : L2H.RoomH k X.A) (hc : L2H.HotC X) (hb : Binds X.K fd ps []) (ha : PA X (e :: es) t)
    (hst : starEach (e :: es) X.env = (false, eval e X.env) :: starEach es X.env := by rfl) (hpl : (backTo pos (starEach es X.env)).any (·.1) = false := by rfl)
    (ht : eval (.Call (.Attribute o m apos) (e :: es) [] pos) X.env = (do
      let ov ← eval o X.env
      standAt apos.atName
      let (f, first) ← holding [ov] (getMethod ov m pl)
      callWith pos f first (backTo pos (starEach (e :: es) X.env)) (backToKw pos (keywordEach [] X.env))) := by rfl) :
    PE X (.Call (.Attribute o m apos) (e :: es) [] pos) (tMeth C m sp [] E0 ta t) :=
  PE.by (L2H.pe_methH he c hm F hr hc hb (E := fun _ => E0) (fun σ => passAt0) ha hst hpl ht) fun σ H Q h => by
    have e1 : ∀ x : V, (fun (vs : List V) H1 => sp (x :: (vs ++ [])) H1 Q E0) = fun vs H1 => sp (x :: vs) H1 Q E0 := fun x => by
      funext vs H1
      rw [List.append_nil]
    have h2 : ta σ H fun x H1 => ∃ a dx fs, x = .ref a ∧ H1 a = some (.ins C dx fs) ∧ fs.lookup m = none ∧ t σ H1 fun vs H2 => sp (x :: (vs ++ [])) H2 Q E0 := h
    simp only [e1] at h2
    exact h2
theorem pe_methHc0 {pl : Sem Bool} (he : PE X o ta) (c : Cls X.K C) (hm : Meth X.K C m f) (F : L2H.FnH X.prog X.w X.K X.mg X.base CX0 k f fd ps sp) (hr : L2H.RoomH k X.A) (hc : L2H.HotC X) (hb : Binds X.K fd ps [])
    (ht : eval (.Call (.Attribute o m apos) [] [] pos) X.env = (do let ov ← eval o X.env; standAt apos.atName; let (f, first) ← holding [ov] (getMethod ov m pl); callWith pos f first (backTo pos (starEach [] X.env)) (backToKw pos (keywordEach [] X.env))) := by rfl) :
    PE X (.Call (.Attribute o m apos) [] [] pos) (tMeth C m sp [] E0 ta tNil) := by
  refine ⟨fun pins sh σ H Q inv ask => PySem.W.methodCall_KW (pl := pl) (thn (he.run pins sh σ H _ inv ask) fun u1 s1 hh => ?_) ht⟩
  obtain ⟨x, H1, I1, rx, a, dx, fs, rfl, ea, l, q⟩ := hh
  cases rx
  exact getmeth_ok I1 ea c hm l (PySem.W.callWith_K0 (first := [.ref a]) I1.kIn hm.kp (L2H.run_fnH (us := [.ref a]) (vs := [.ref a]) (E := fun _ => E0) F hr hc hb passAt0 I1 (.cons rfl .nil) q))
end
/-- a def as it is called where an error is handled, which lets none out -/
theorem okH0 {P : Program} {w : World} {K : PySem.W.Frag} {mg : Str → Option Value} {base : Heap} {x qual : Str} {st : Stmt} {f : Addr} {fd : FuncData} {N ps : List Str} {k : Nat} {sp : Sp} (F : Fun K x qual st f fd) (S : FnScope N ps (defScope st)) (len : ∀ vs H Q E, sp vs H Q E → vs.length = ps.length)
    (body : ∀ (cdv : Value) (A : Around) (outer : List Env) (s : Shared) (H : Hp) (vs : List V) (Q : VK) (E : XK) (p : Addr × Obj), L2H.Hot1 A p → L2H.RoomH k (A.deeper (envOfC qual (defScope st) s.heap.objs.size f cdv)) → sp vs H Q E →
      ∃ t, PSs (L2H.cxH CX0 P w K mg base N qual (defScope st) f cdv A outer s H E p).nox (defBody st) t ∧ t { nx := fun _ H' => Q .non H', rt := Q } (L2.start N vs) H) : L2H.FnH P w K mg base CX0 (k + 1) f fd ps sp :=
  okH F S len fun cdv A outer s H vs Q E p hot hr h => by
    obtain ⟨t, ht, q⟩ := body cdv A outer s H vs Q E p hot hr h
    exact ⟨t, ht.nox, q⟩
/-- o.n where the context is not to be seen in what is read -/
theorem pe_fldK {X : Cx} {K' : PySem.W.Frag} {e : Expr} {te : TE} {f : Str} {pos : Pos} (hK : X.K = K') (he : PE X e te) (hb : attributeBase e f X.env (eval e X.env) = eval e X.env) : PE X (.Attribute e f pos) (tFld K' te f) := by
  subst hK
  exact pe_fld he hb
/-! ### except (A, B): without a name -/
theorem flyZ_keeps {B : Heap} {l : List Env} {a : Addr} {Z : Obj → Prop} {h h' : Heap} (R : HandSPX.FlyingZ B l a Z h) (k : ∀ b o, h.get? b = some o → h'.get? b = some o) : HandSPX.FlyingZ B l a Z h' := by
  obtain ⟨f1, f2, f3, oe, ws, T, oT, ts, he, hz, hd, h1, hn, hne, hT, hdT, h3⟩ := R
  exact ⟨fun b o q => k b o (f1 b o q), f2, f3.of_keeps fun b o q _ => ⟨o, k b o q, rfl⟩, oe, ws, T, oT, ts, k _ _ he, hz, hd, h1, hn, hne, k _ _ hT, hdT, h3⟩
theorem exm_pair {K : PySem.W.Frag} {cls c1 c2 : Value} {b1 b2 : Bool} (h1 : PySem.W.exmOne K cls c1 = some b1) (h2 : PySem.W.exmOne K cls c2 = some b2) : PySem.W.exmAny K cls [c1, c2] = some (b1 || b2) := by
  unfold PySem.W.exmAny PySem.W.exmAny PySem.W.exmAny
  rw [h1, h2]
  simp
/-- what the clause 'except (x, y)' wishes of an exception of the body -/
def wPair (K : PySem.W.Frag) (c1 c2 : Value) (ts : Addr → Value → Option Addr → TS) (Wout : WX) (D : Ends) : WX := fun cls d σ H =>
  ∃ b1 b2, PySem.W.exmOne K cls c1 = some b1 ∧ PySem.W.exmOne K cls c2 = some b2 ∧ ((b1 || b2) = true → ∀ a, H a = none → ts a cls d D σ H) ∧ ((b1 || b2) = false → Wout cls d σ H)
section
variable {X : Cx} {x1 x2 : Str} {c1 c2 : Value} {body suite : List Stmt} {b₀ : Stmt} {p1 p2 tpos pos pos' : Pos} {kk : Nat} {tb : WX → TS} {ts : Addr → Value → Option Addr → TS} {Wout : WX}
theorem ps_try_pair (hs : X.stack = X.env :: X.outer) (hf : X.env.frame = some X.env.locals) (hc1 : Names X x1 c1) (hc2 : Names X x2 c2) (tk : L2N.Takes X Wout)
    (hb : ∀ (W : WX) (pn : List (Addr × Obj)) (xe : Value → Shared → Prop), L2N.Takes (X.tr pn xe) W → PassesOwn (model X.prog X.w) X.A X.env xe → PSs (X.tr pn xe) body (tb W))
    (hsu : ∀ (a : Addr) (oe : Obj) (cls : Value) (d : Option Addr) (pn : List (Addr × Obj)), L2N.Zn cls d oe → (∃ vs, oe.data = .fields vs) → PSs (X.suite a ((a, oe) :: pn)) (b₀ :: suite) (ts a cls d)) :
    PS X (.Try body [.ExceptHandler (some (.Tuple [.Name x1 p1, .Name x2 p2] kk tpos)) none (b₀ :: suite) pos'] [] [] pos) (fun D σ H => tb (wPair X.K c1 c2 ts Wout D) D σ H) := by
  refine ⟨fun pins s σ H D I h => ?_⟩
  have ok := I.ok
  have hfr : X.A.frames = some (X.env :: X.outer) := by rw [ok.frames, hs]
  refine wpAny_Try_except ?_
  refine wpAny_mono ((hb (wPair X.K c1 c2 ts Wout D) (X.pn ++ pins) (fun e s₁ => wpAny (model X.prog X.w) X.A (noteFrame e X.env) (fun _ s₂ => wpAny (model X.prog X.w) X.A (setFlight e none) (fun _ s₃ =>
    wpAny (model X.prog X.w) X.A (handleBy e X.env [.ExceptHandler (some (.Tuple [.Name x1 p1, .Name x2 p2] kk tpos)) none (b₀ :: suite) pos']) (SP X pins D) X.xe s₃) X.xe s₂) X.xe s₁) (fun u s' xx => ?_) PassesOwn.looking).run [] s σ H D (I.toTry _) h) (fun f s1 hsp => ?_) (fun e s1 he => he)
  · obtain ⟨a, B, sI, pins', σ', H', cls, d, rfl, J', nb, up, sky, na, os, ag, b1, b2, hb1, hb2, hyes, hno⟩ := xx
    have J : Inv X pins σ' H' sI := J'.ofTry ok
    have sky' : L2.Sky B (X.env :: X.outer) a (L2N.Zn cls d) X.env.locals s'.heap := by rw [← hs]; exact sky
    show wpAny (model X.prog X.w) X.A (noteFrame (.ref a) X.env) _ _ _
    refine L2N.Sky.land L2N.Zn.steady hfr hf sky' fun h3 fl3 up3 => ?_
    have J3 : Inv X pins σ' H' { s' with heap := h3 } := J.landed nb fl3.1 (up.trans up3) os ag
    obtain ⟨oe3, vs3, he3, hz3, hd3⟩ := fl3.there
    have notFr : ∀ {h : Heap} {o : Obj} {vs : Array Value}, h.FunFrames B (X.env :: X.outer) → h.get? a = some o → o.data = .fields vs → a ∉ frs (X.env :: X.outer) := fun {h o vs} ff e dd hm => by
      obtain ⟨_, o', e', hnf⟩ := ff.mem hm
      rw [e] at e'; cases e'
      exact hnf _ dd
    have nfr := notFr fl3.2.2.1 he3 hd3
    have nL : a ≠ X.env.locals := fun z => nfr (List.mem_filterMap.mpr ⟨X.env, List.mem_cons_self, by rw [hf, z]⟩)
    have nF : a ∉ X.fs := fun hm => by
      obtain ⟨e, he, q⟩ := List.mem_filterMap.mp hm
      exact nfr (List.mem_filterMap.mpr ⟨e, List.mem_cons_of_mem _ he, q⟩)
    have S3 := J3.suite he3 hd3 na nL nF
    have test : ∀ {x : Str} {c : Value} {np : Pos} {Q : Value → Shared → Prop} {E : Value → Shared → Prop}, Names X x c → Q c { s' with heap := h3 } → wpAny (model X.prog X.w) (X.A.mark (some (.ref a))) (eval (.Name x np) X.env) Q E { s' with heap := h3 } := fun {x c np Q E} hc q => by
      obtain ⟨hg, hdbg, hm | ⟨hm, hv, hnn⟩⟩ := hc
      · exact ld_glob (X := X.suite a ((a, oe3) :: (X.pn ++ pins))) S3 hg hm q hdbg
      · exact ld_blt (X := X.suite a ((a, oe3) :: (X.pn ++ pins))) S3 hg hm hv q hnn hdbg
    refine wpAny_handleBy_cons (codeAny_handlers_test ?_) (by intro q; cases q)
    refine wpAny_Tuple ?_
    refine wpAny_items_cons (test hc1 ?_)
    refine wpAny_items_cons (test hc2 ?_)
    refine wpAny_items_nil ⟨by show 2 ≤ sizeLine; decide, ?_⟩
    obtain ⟨h5, e5⟩ : ∃ h5 : Heap, h5 = h3.push { cls := .type "tuple", data := .seq [c1, c2].toArray } := ⟨_, rfl⟩
    have kp : ∀ q o, h3.get? q = some o → h5.get? q = some o := fun _ _ z => by rw [e5]; exact Heap.get?_push_of_some _ z
    have tp : h5.get? h3.objs.size = some { cls := .type "tuple", data := .seq [c1, c2].toArray } := by rw [e5]; exact Heap.get?_push_size h3 rfl
    have fl5 := flyZ_keeps fl3 kp
    have up5 := up3.trans (Heap.UpToSlots.of_keeps kp)
    have J5 : Inv X pins σ' H' { s' with heap := h5 } := J.landed nb fl5.1 (up.trans up5) os ag
    have LT : PySem.W.Looks (model X.prog X.w) h5 (typeOf (.ref a)) cls := fun A Q E s k q => wpAny_typeOf_ref (k _ _ (kp _ _ he3)) (by rw [hz3.1]; exact q)
    have LM := PySem.W.exm_tup2 (M := model X.prog X.w) J5.kIn LT tp (exm_pair hb1 hb2)
    show wpAny _ _ (excMatches (.ref a) (.ref h3.objs.size)) _ _ { s' with heap := h3.push { cls := .type "tuple", data := .seq [c1, c2].toArray } }
    rw [← e5]
    refine LM.here ?_
    cases hbb : (b1 || b2) with
    | true =>
      refine codeAny_handlers_suite ?_
      refine HandSPX.lands_againZ fl5 fun h4 fl4 up4 => ?_
      have J4 : Inv X pins σ' H' { s' with heap := h4 } := J.landed nb fl4.1 ((up.trans up5).trans up4) os ag
      obtain ⟨oe4, vs4, he4, hz4, hd4⟩ := fl4.there
      have S4 := J4.suite he4 hd4 na nL nF
      refine wpAny_mono ((hsu a oe4 cls d (X.pn ++ pins) hz4 ⟨_, hd4⟩).run [] _ _ H' _ S4 (hyes hbb a na)) (fun f s6 hsp => ?_) (fun _ _ z => False.elim z)
      cases f with
      | next =>
        obtain ⟨σ6, H6, S6, q6⟩ := hsp
        exact ⟨_, _, S6.unsuite ok, q6⟩
      | brk =>
        obtain ⟨σ6, H6, S6, q6⟩ := hsp
        exact ⟨_, _, S6.unsuite ok, q6⟩
      | cont =>
        obtain ⟨σ6, H6, S6, q6⟩ := hsp
        exact ⟨_, _, S6.unsuite ok, q6⟩
      | ret u =>
        obtain ⟨v6, σ6, H6, S6, r6, q6⟩ := hsp
        exact ⟨_, _, _, S6.unsuite ok, r6, q6⟩
    | false =>
      show wpAny _ X.A (handleBy (.ref a) X.env []) _ _ _
      refine wpAny_handleBy_nil ?_
      obtain ⟨k1, k2, k3, oe, vs, T, oT, ts', he, hz, hd, h1, hr⟩ := id fl5
      unfold PySem.passOn
      refine wpAny_bind (wpAny_field he hd h1 ?_)
      rw [if_neg (show ¬ ((Value.ref T == Value.none) = true) from by simp)]
      have fin : wpAny (model X.prog X.w) X.A (setFlight (.ref a) X.env.frame) (fun _ s4 => wpAny (model X.prog X.w) X.A (throw (.ref a) : Sem Flow) (SP X pins D) X.xe s4) X.xe { s' with heap := h5 } := by
        rw [hf]
        refine HandSPX.setFlight_upZ fl5 fun h4 hh4 up4 => wpAny_throw (tk _ _ ?_)
        exact ⟨a, B, sI, pins, σ', H', cls, d, rfl, J, nb, (up.trans up5).trans up4, .inr (.inr (by rw [hs]; exact hh4)), na, os, ag, hno hbb⟩
      first
        | exact wpAny_bind (wpAny_pure (wpAny_bind fin))
        | exact wpAny_bind fin
  · cases f with
    | next =>
      obtain ⟨σ', H', J', q⟩ := hsp
      exact wpAny_execs_nil ⟨σ', H', J'.ofTry ok, q⟩
    | brk =>
      obtain ⟨σ', H', J', q⟩ := hsp
      exact ⟨σ', H', J'.ofTry ok, q⟩
    | cont =>
      obtain ⟨σ', H', J', q⟩ := hsp
      exact ⟨σ', H', J'.ofTry ok, q⟩
    | ret u =>
      obtain ⟨v, σ', H', J', r, q⟩ := hsp
      exact ⟨v, σ', H', J'.ofTry ok, r, q⟩
end
/-! ### len(d), d locked or not -/
def rDLenR : List V → Hp → VK → Prop := fun vs H Q => ∃ a, vs = [.ref a] ∧ dcRd H a fun kvs => Q (.int kvs.length) H
theorem call_lenDR {X : Cx} : CallR X (.builtin "len") rDLenR := by
  intro pins s σ H xs us Q I r h
  obtain ⟨a, rfl, h⟩ := h
  obtain ⟨kvs, hp, q⟩ := dcRd_get h
  obtain ⟨u, rfl, ru⟩ := vals1 r
  cases ru
  exact d_len I hp fun t s' J => ⟨.int kvs.length, H, J, ⟨t, rfl⟩, q⟩
/-! ### del xs[c:] -/
theorem zip_cut {sel : Nat → Bool} {a : Nat} : ∀ (l : List Value) (k : Nat), (∀ i, k ≤ i → i < k + l.length → sel i = decide (a ≤ i)) → ((l.zipIdx k).filterMap fun x => if sel x.2 then none else some x.1) = l.take (a - k)
  | [], k, _ => by simp
  | x :: l, k, h => by
    rw [List.zipIdx_cons, List.filterMap_cons]
    have h0 := h k (Nat.le_refl _) (by simp)
    have ih := zip_cut l (k + 1) fun i h1 h2 => h i (by omega) (by rw [List.length_cons]; omega)
    by_cases c : a ≤ k
    · simp only [h0, decide_eq_true c, if_true]
      rw [ih, show a - (k + 1) = 0 by omega, show a - k = 0 by omega]
      simp
    · simp only [h0, decide_eq_false c, Bool.false_eq_true, if_false]
      rw [ih, show a - k = (a - (k + 1)) + 1 by omega, List.take_succ_cons]
section
variable {pg : Program} {wd : World} {Ar : Around} {Er : Value → Shared → Prop} {sh : Shared}
theorem tail_bounds {a k : Nat} (h : a ≤ k) : sliceBounds (some (a : Int)) none none k = ((a : Int), (k : Int), 1) := by
  simp only [sliceBounds, Option.getD_none]
  have h1 : ¬ ((a : Int) < 0) := by omega
  simp only [h1, if_false, show (1 : Int) > 0 by decide, if_true]
  congr 1
  omega
theorem del_cut {p c : Addr} {old : Array Value} {e1 a : Nat} {u : Value} {R : Unit → Shared → Prop} (hp : sh.heap.get? p = some { cls := .type "list", data := .seq old e1 }) (hc : sh.heap.IsSliceOf c u .none .none) (hu : IsPart u (some (a : Int))) (ha : a ≤ old.size) (fits : old.size ≤ sizeLine)
    (k : ∀ f : Array Value → Array Value, f old = (old.toList.take a).toArray → R () { sh with heap := sh.heap.update p (Obj.mapSeq f) }) : wpAny (model pg wd) Ar (delItem (.ref p) (.ref c)) R Er sh := by
  have lp := PySem.IsL.isList hp
  obtain ⟨oc, gc, cc, dc⟩ := id hc
  have tc : sh.TypeIs (.ref c) "slice" := ⟨oc, gc, cc⟩
  refine wpAny_delItem_slot lp.typeIs (by decide) F.slot_list_delitem (wpAny_call_entry F.slot_list_delitem lp.typeIs F.entry_list_delitem ?_ (F.args_list_delitem_2 _ _))
  show wpAny _ _ (Builtin.List.listSubscript? (.ref c) >>= _) _ _ sh; refine wpAny_bind ?_
  unfold Builtin.List.listSubscript?; refine wpAny_bind (wpAny_specialOf tc slice_no_index ?_)
  simp only [Option.isNone_none, if_true]; refine wpAny_pure ?_
  show wpAny _ _ (typeOf (.ref c) >>= _) _ _ sh; refine wpAny_bind (wpAny_typeOf tc (PySem.W.KFB.if_not (by decide) ?_))
  rw [listSliceParts_eq]; refine wpAny_bind (wpAny_bind (wpAny_field gc dc (x := .none) rfl (wpAny_bind (wpAny_listPart .none ?_)))); rw [if_neg (show ¬ (rawPart none == rawInt 0) = true from Bool.false_ne_true)]
  refine wpAny_bind (wpAny_field gc dc (x := u) rfl (wpAny_bind (wpAny_listPart hu (wpAny_bind (wpAny_field gc dc (x := .none) rfl (wpAny_bind (wpAny_listPart .none (wpAny_pure ?_))))))))
  unfold Builtin.List.listItems; refine wpAny_bind (wpAny_bind (wpAny_seqItems hp rfl (wpAny_pure ?_)))
  refine wpAny_bind (wpAny_of_eq ((sliceIndices_raw (some (a : Int)) none none old.size (by simp)).trans (congrArg (pure : Int × Int × Int → Sem (Int × Int × Int)) (tail_bounds ha))) ?_)
  have fin : ∀ (f : Array Value → Array Value) (g : List Value), f old = (old.toList.take a).toArray → wpAny (model pg wd) Ar.in1 (do Builtin.List.listUpdate (.ref p) f; letGo g; ret .none) (fun fin s' => ∃ v, fin = Fin.done (Flow.ret v) ∧ R () s') Er sh := fun f g hf => by
    have hz : (f old).size ≤ sizeLine + 1 := by
      rw [hf]
      simp
      omega
    show wpAny _ _ (updateSeq p f >>= _) _ _ sh
    refine wpAny_bind (wpAny_updateSeq (hz := fits) (_hz' := hz) hp rfl (wpAny_bind (wpAny_letGo ?_)))
    exact wpAny_pure ⟨.none, rfl, k _ hf⟩
  refine wpAny_bind (wpAny_rule ?_)
  refine fin _ _ ?_
  refine congrArg List.toArray (zip_cut (a := a) old.toList 0 fun i _ h2 => ?_)
  show (if (1 : Int) > 0 then (decide ((a : Int) ≤ (i : Int)) && decide ((i : Int) < (old.size : Int)) && (((i : Int) - (a : Int)) % 1 == 0)) else _) = _
  rw [if_pos (by decide)]
  have e : (((i : Int) - (a : Int)) % 1 == 0) = true := by simp
  have h3 : (i : Int) < (old.size : Int) := by
    rw [Nat.zero_add, Array.length_toList] at h2
    omega
  rw [e, decide_eq_true h3]
  by_cases c : a ≤ i
  · rw [decide_eq_true c, decide_eq_true (by omega)] <;> rfl
  · rw [decide_eq_false c, decide_eq_false (by omega)] <;> rfl
end
def tDelT (to tc : TE) : TS := fun D σ H => to σ H fun x H1 => tc σ H1 fun y H2 => ∃ (l : Addr) (xs : List V) (c : Nat), x = .ref l ∧ y = .int (c : Int) ∧ H2 l = some (.lst xs) ∧ c ≤ xs.length ∧ D.nx σ (upd H2 l (.lst (xs.take c)))
theorem Vals.take {xs : List V} {us : List Value} (h : Vals xs us) : ∀ n : Nat, Vals (xs.take n) (us.take n) := by
  induction h with
  | nil => intro n; simp; exact .nil
  | cons a b ih =>
    intro n
    cases n with
    | zero => exact .nil
    | succ n => exact .cons a (ih n)
theorem ps_delT {X : Cx} {o i : Expr} {to ti : TE} {p2 tpos pos : Pos} (ho : PE X o to) (hi : PE X i ti) : PS X (.Delete [.Subscript o (.Slice (some i) none none p2) tpos] pos) (tDelT to ti) := by
  refine ⟨fun pins s σ H D I h => ?_⟩
  refine wpAny_Delete (wpAny_deleteEach_cons (wpAny_delete_Subscript (thn (ho.run pins s σ H _ I h) fun u s1 ⟨x, H1, I1, rx, q1⟩ => wpAny_Slice ?_)))
  rw [evalPart_some]
  refine thn (hi.run pins s1 σ H1 _ I1 q1) fun iv s2 ⟨y, H2, I2, ry, l, xs, c, ex, ey, hH, hc, q⟩ => ?_
  subst ex
  subst ey
  cases (show u = Value.ref l from rx)
  obtain ⟨t, rfl⟩ := (show ∃ t, iv = Value.int (c : Int) t from ry)
  rw [evalPart_none]
  refine wpAny_pure (wpAny_pure ?_)
  have I4 : Inv X pins σ H2 { s2 with heap := s2.heap.push { cls := .type "slice", data := .fields #[.int (c : Int) t, .none, .none] } } := I2.kept (t' := s2.toks) fun b ob q => Heap.get?_push_of_some _ q
  obtain ⟨hz, its, n, rv, hl, e⟩ := I4.lstM hH
  refine del_cut e (Heap.IsSliceOf.new ..) (a := c) ?_ (by rw [List.size_toArray]; omega) (by rw [List.size_toArray]; omega) fun f hf => wpAny_deleteEach_nil ⟨σ, _, I4.lset (its' := its.take c) (t' := s2.toks) hH e ?_ (rv.take c) ?_, q⟩
  · exact .int _ _
  · rw [hf]
  · rw [List.length_take]
    omega

structure Ad where
  C_SaggarError : Addr
  C_Malformed : Addr
  C_Oversized : Addr
  f_Malformed___init__ : Addr
  d_Malformed___init__ : FuncData
  f_Oversized___init__ : Addr
  d_Oversized___init__ : FuncData
  f_tokens_of : Addr
  d_tokens_of : FuncData
  f_skipped : Addr
  d_skipped : FuncData
  f_token_at : Addr
  d_token_at : FuncData
  f_named : Addr
  d_named : FuncData
  f_numbered : Addr
  d_numbered : FuncData
  f_hashed : Addr
  d_hashed : FuncData
  f_quoted : Addr
  d_quoted : FuncData
  f_signed : Addr
  d_signed : FuncData
  f_letters_end : Addr
  d_letters_end : FuncData
  f_name_end : Addr
  d_name_end : FuncData
  f_keyword_end : Addr
  d_keyword_end : FuncData
  f_keywords_end : Addr
  d_keywords_end : FuncData
  f__law_start : Addr
  d__law_start : FuncData
  f__law_pick : Addr
  d__law_pick : FuncData
  f__law_letters : Addr
  d__law_letters : FuncData
  f__law_source : Addr
  d__law_source : FuncData
  f__law_run : Addr
  d__law_run : FuncData
  f__law_word_end : Addr
  d__law_word_end : FuncData
  f__law_is_letter : Addr
  d__law_is_letter : FuncData
  f__law_name_end : Addr
  d__law_name_end : FuncData
  f__law_colon : Addr
  d__law_colon : FuncData
  f__law_skip : Addr
  d__law_skip : FuncData
  f__law_symbol_end : Addr
  d__law_symbol_end : FuncData
  f__law_token_end : Addr
  d__law_token_end : FuncData
  f__law_is_token : Addr
  d__law_is_token : FuncData
  f__law_tiles : Addr
  d__law_tiles : FuncData
  f__law_misfit : Addr
  d__law_misfit : FuncData
  f_law : Addr
  d_law : FuncData
  t_LONGEST_SOURCE : Tok
  t_LONGEST_NAME : Tok
  t_MOST_DIGITS : Tok
  t_BLANKS : Tok
  t_LETTERS : Tok
  t_DIGITS : Tok
  t_SIGNS : Tok
  t_MARKS : Tok
structure Txt (K : PySem.W.Frag) (mg : Str → Option Value) (A : Ad) : Prop where
  m_SaggarError : mg "SaggarError" = some (.ref A.C_SaggarError)
  m_Malformed : mg "Malformed" = some (.ref A.C_Malformed)
  x_Malformed : ExF K A.C_Malformed A.f_Malformed___init__
  no_Malformed_at : PySem.W.findIn K (.ref A.C_Malformed) "at" = some none
  ex_Malformed_Malformed : PySem.W.exmOne K (.ref A.C_Malformed) (.ref A.C_Malformed) = some true
  ex_Malformed_Oversized : PySem.W.exmOne K (.ref A.C_Malformed) (.ref A.C_Oversized) = some false
  ex_Malformed_SaggarError : PySem.W.exmOne K (.ref A.C_Malformed) (.ref A.C_SaggarError) = some true
  m_Oversized : mg "Oversized" = some (.ref A.C_Oversized)
  x_Oversized : ExF K A.C_Oversized A.f_Oversized___init__
  no_Oversized_limit : PySem.W.findIn K (.ref A.C_Oversized) "limit" = some none
  ex_Oversized_Malformed : PySem.W.exmOne K (.ref A.C_Oversized) (.ref A.C_Malformed) = some false
  ex_Oversized_Oversized : PySem.W.exmOne K (.ref A.C_Oversized) (.ref A.C_Oversized) = some true
  ex_Oversized_SaggarError : PySem.W.exmOne K (.ref A.C_Oversized) (.ref A.C_SaggarError) = some true
  k_Malformed___init__ : PySem.W.keepIn K (.ref A.f_Malformed___init__) = true
  F_Malformed___init__ : Fun K "__init__" "Malformed.__init__" s_Malformed___init__ A.f_Malformed___init__ A.d_Malformed___init__
  b_Malformed___init__ : Binds K A.d_Malformed___init__ ["self", "at"] []
  k_Oversized___init__ : PySem.W.keepIn K (.ref A.f_Oversized___init__) = true
  F_Oversized___init__ : Fun K "__init__" "Oversized.__init__" s_Oversized___init__ A.f_Oversized___init__ A.d_Oversized___init__
  b_Oversized___init__ : Binds K A.d_Oversized___init__ ["self", "limit"] []
  g_tokens_of : mg "tokens_of" = some (.ref A.f_tokens_of)
  k_tokens_of : PySem.W.keepIn K (.ref A.f_tokens_of) = true
  F_tokens_of : Fun K "tokens_of" "tokens_of" s_tokens_of A.f_tokens_of A.d_tokens_of
  b_tokens_of : Binds K A.d_tokens_of ["source"] []
  g_skipped : mg "skipped" = some (.ref A.f_skipped)
  k_skipped : PySem.W.keepIn K (.ref A.f_skipped) = true
  F_skipped : Fun K "skipped" "skipped" s_skipped A.f_skipped A.d_skipped
  b_skipped : Binds K A.d_skipped ["source", "at"] []
  g_token_at : mg "token_at" = some (.ref A.f_token_at)
  k_token_at : PySem.W.keepIn K (.ref A.f_token_at) = true
  F_token_at : Fun K "token_at" "token_at" s_token_at A.f_token_at A.d_token_at
  b_token_at : Binds K A.d_token_at ["source", "at"] []
  g_named : mg "named" = some (.ref A.f_named)
  k_named : PySem.W.keepIn K (.ref A.f_named) = true
  F_named : Fun K "named" "named" s_named A.f_named A.d_named
  b_named : Binds K A.d_named ["source", "at"] []
  g_numbered : mg "numbered" = some (.ref A.f_numbered)
  k_numbered : PySem.W.keepIn K (.ref A.f_numbered) = true
  F_numbered : Fun K "numbered" "numbered" s_numbered A.f_numbered A.d_numbered
  b_numbered : Binds K A.d_numbered ["source", "at"] []
  g_hashed : mg "hashed" = some (.ref A.f_hashed)
  k_hashed : PySem.W.keepIn K (.ref A.f_hashed) = true
  F_hashed : Fun K "hashed" "hashed" s_hashed A.f_hashed A.d_hashed
  b_hashed : Binds K A.d_hashed ["source", "at"] []
  g_quoted : mg "quoted" = some (.ref A.f_quoted)
  k_quoted : PySem.W.keepIn K (.ref A.f_quoted) = true
  F_quoted : Fun K "quoted" "quoted" s_quoted A.f_quoted A.d_quoted
  b_quoted : Binds K A.d_quoted ["source", "at"] []
  g_signed : mg "signed" = some (.ref A.f_signed)
  k_signed : PySem.W.keepIn K (.ref A.f_signed) = true
  F_signed : Fun K "signed" "signed" s_signed A.f_signed A.d_signed
  b_signed : Binds K A.d_signed ["source", "at"] []
  g_letters_end : mg "letters_end" = some (.ref A.f_letters_end)
  k_letters_end : PySem.W.keepIn K (.ref A.f_letters_end) = true
  F_letters_end : Fun K "letters_end" "letters_end" s_letters_end A.f_letters_end A.d_letters_end
  b_letters_end : Binds K A.d_letters_end ["source", "at"] []
  g_name_end : mg "name_end" = some (.ref A.f_name_end)
  k_name_end : PySem.W.keepIn K (.ref A.f_name_end) = true
  F_name_end : Fun K "name_end" "name_end" s_name_end A.f_name_end A.d_name_end
  b_name_end : Binds K A.d_name_end ["source", "at"] []
  g_keyword_end : mg "keyword_end" = some (.ref A.f_keyword_end)
  k_keyword_end : PySem.W.keepIn K (.ref A.f_keyword_end) = true
  F_keyword_end : Fun K "keyword_end" "keyword_end" s_keyword_end A.f_keyword_end A.d_keyword_end
  b_keyword_end : Binds K A.d_keyword_end ["source", "at"] []
  g_keywords_end : mg "keywords_end" = some (.ref A.f_keywords_end)
  k_keywords_end : PySem.W.keepIn K (.ref A.f_keywords_end) = true
  F_keywords_end : Fun K "keywords_end" "keywords_end" s_keywords_end A.f_keywords_end A.d_keywords_end
  b_keywords_end : Binds K A.d_keywords_end ["source", "at"] []
  g__law_start : mg "_law_start" = some (.ref A.f__law_start)
  k__law_start : PySem.W.keepIn K (.ref A.f__law_start) = true
  F__law_start : Fun K "_law_start" "_law_start" s__law_start A.f__law_start A.d__law_start
  b__law_start : Binds K A.d__law_start ["script"] []
  g__law_pick : mg "_law_pick" = some (.ref A.f__law_pick)
  k__law_pick : PySem.W.keepIn K (.ref A.f__law_pick) = true
  F__law_pick : Fun K "_law_pick" "_law_pick" s__law_pick A.f__law_pick A.d__law_pick
  b__law_pick : Binds K A.d__law_pick ["state", "limit"] []
  g__law_letters : mg "_law_letters" = some (.ref A.f__law_letters)
  k__law_letters : PySem.W.keepIn K (.ref A.f__law_letters) = true
  F__law_letters : Fun K "_law_letters" "_law_letters" s__law_letters A.f__law_letters A.d__law_letters
  b__law_letters : Binds K A.d__law_letters [] []
  g__law_source : mg "_law_source" = some (.ref A.f__law_source)
  k__law_source : PySem.W.keepIn K (.ref A.f__law_source) = true
  F__law_source : Fun K "_law_source" "_law_source" s__law_source A.f__law_source A.d__law_source
  b__law_source : Binds K A.d__law_source ["state"] []
  g__law_run : mg "_law_run" = some (.ref A.f__law_run)
  k__law_run : PySem.W.keepIn K (.ref A.f__law_run) = true
  F__law_run : Fun K "_law_run" "_law_run" s__law_run A.f__law_run A.d__law_run
  b__law_run : Binds K A.d__law_run ["source", "at", "chars"] []
  g__law_word_end : mg "_law_word_end" = some (.ref A.f__law_word_end)
  k__law_word_end : PySem.W.keepIn K (.ref A.f__law_word_end) = true
  F__law_word_end : Fun K "_law_word_end" "_law_word_end" s__law_word_end A.f__law_word_end A.d__law_word_end
  b__law_word_end : Binds K A.d__law_word_end ["source", "at"] []
  g__law_is_letter : mg "_law_is_letter" = some (.ref A.f__law_is_letter)
  k__law_is_letter : PySem.W.keepIn K (.ref A.f__law_is_letter) = true
  F__law_is_letter : Fun K "_law_is_letter" "_law_is_letter" s__law_is_letter A.f__law_is_letter A.d__law_is_letter
  b__law_is_letter : Binds K A.d__law_is_letter ["source", "at"] []
  g__law_name_end : mg "_law_name_end" = some (.ref A.f__law_name_end)
  k__law_name_end : PySem.W.keepIn K (.ref A.f__law_name_end) = true
  F__law_name_end : Fun K "_law_name_end" "_law_name_end" s__law_name_end A.f__law_name_end A.d__law_name_end
  b__law_name_end : Binds K A.d__law_name_end ["source", "at"] []
  g__law_colon : mg "_law_colon" = some (.ref A.f__law_colon)
  k__law_colon : PySem.W.keepIn K (.ref A.f__law_colon) = true
  F__law_colon : Fun K "_law_colon" "_law_colon" s__law_colon A.f__law_colon A.d__law_colon
  b__law_colon : Binds K A.d__law_colon ["source", "at"] []
  g__law_skip : mg "_law_skip" = some (.ref A.f__law_skip)
  k__law_skip : PySem.W.keepIn K (.ref A.f__law_skip) = true
  F__law_skip : Fun K "_law_skip" "_law_skip" s__law_skip A.f__law_skip A.d__law_skip
  b__law_skip : Binds K A.d__law_skip ["source", "at"] []
  g__law_symbol_end : mg "_law_symbol_end" = some (.ref A.f__law_symbol_end)
  k__law_symbol_end : PySem.W.keepIn K (.ref A.f__law_symbol_end) = true
  F__law_symbol_end : Fun K "_law_symbol_end" "_law_symbol_end" s__law_symbol_end A.f__law_symbol_end A.d__law_symbol_end
  b__law_symbol_end : Binds K A.d__law_symbol_end ["source", "at", "text"] []
  g__law_token_end : mg "_law_token_end" = some (.ref A.f__law_token_end)
  k__law_token_end : PySem.W.keepIn K (.ref A.f__law_token_end) = true
  F__law_token_end : Fun K "_law_token_end" "_law_token_end" s__law_token_end A.f__law_token_end A.d__law_token_end
  b__law_token_end : Binds K A.d__law_token_end ["source", "at", "kind", "value"] []
  g__law_is_token : mg "_law_is_token" = some (.ref A.f__law_is_token)
  k__law_is_token : PySem.W.keepIn K (.ref A.f__law_is_token) = true
  F__law_is_token : Fun K "_law_is_token" "_law_is_token" s__law_is_token A.f__law_is_token A.d__law_is_token
  b__law_is_token : Binds K A.d__law_is_token ["token"] []
  g__law_tiles : mg "_law_tiles" = some (.ref A.f__law_tiles)
  k__law_tiles : PySem.W.keepIn K (.ref A.f__law_tiles) = true
  F__law_tiles : Fun K "_law_tiles" "_law_tiles" s__law_tiles A.f__law_tiles A.d__law_tiles
  b__law_tiles : Binds K A.d__law_tiles ["source", "tokens", "stop"] []
  g__law_misfit : mg "_law_misfit" = some (.ref A.f__law_misfit)
  k__law_misfit : PySem.W.keepIn K (.ref A.f__law_misfit) = true
  F__law_misfit : Fun K "_law_misfit" "_law_misfit" s__law_misfit A.f__law_misfit A.d__law_misfit
  b__law_misfit : Binds K A.d__law_misfit ["source", "at"] []
  g_law : mg "law" = some (.ref A.f_law)
  k_law : PySem.W.keepIn K (.ref A.f_law) = true
  F_law : Fun K "law" "law" s_law A.f_law A.d_law
  b_law : Binds K A.d_law ["script"] []
  c_LONGEST_SOURCE : mg "LONGEST_SOURCE" = some (.int (4000) A.t_LONGEST_SOURCE)
  c_LONGEST_NAME : mg "LONGEST_NAME" = some (.int (32) A.t_LONGEST_NAME)
  c_MOST_DIGITS : mg "MOST_DIGITS" = some (.int (9) A.t_MOST_DIGITS)
  c_BLANKS : mg "BLANKS" = some (.str " \n" A.t_BLANKS)
  c_LETTERS : mg "LETTERS" = some (.str "abcdefghijklmnopqrstuvwxyzABCDEFGHIJKLMNOPQRSTUVWXYZ" A.t_LETTERS)
  c_DIGITS : mg "DIGITS" = some (.str "0123456789" A.t_DIGITS)
  c_SIGNS : mg "SIGNS" = some (.str "+-*/<>=~&,@" A.t_SIGNS)
  c_MARKS : mg "MARKS" = some (.str ":^.|()[]" A.t_MARKS)
  z_ValueError : mg "ValueError" = none
  z_abs : mg "abs" = none
  z_bool : mg "bool" = none
  z_int : mg "int" = none
  z_isinstance : mg "isinstance" = none
  z_len : mg "len" = none
  z_list : mg "list" = none
  z_min : mg "min" = none
  z_range : mg "range" = none
  z_str : mg "str" = none
  z_tuple : mg "tuple" = none

theorem exf_Malformed {K : PySem.W.Frag} {mg : Str → Option Value} {A : Ad} (T : Txt K mg A) : (∃ x, ExF K A.C_Malformed x) = True := tt_true ⟨_, T.x_Malformed⟩
theorem exf_Oversized {K : PySem.W.Frag} {mg : Str → Option Value} {A : Ad} (T : Txt K mg A) : (∃ x, ExF K A.C_Oversized x) = True := tt_true ⟨_, T.x_Oversized⟩
section
variable {P : Program} {w : World} {K : PySem.W.Frag} {mg : Str → Option Value} {base : Heap} {A : Ad}
theorem ok_Malformed___init__ (T : Txt K mg A) : FnOk P w K mg base CX0 1 A.f_Malformed___init__ A.d_Malformed___init__ ["self", "at"] (sp_ex1 A.C_Malformed "at") := by
  refine Fun.ok T.F_Malformed___init__ sc_Malformed___init__ (fun vs H Q E h => ?_) (fun cdv Ar outer s H vs Q E hr h => ?_)
  · obtain ⟨_, _, rfl, _⟩ := h
    rfl
  · obtain ⟨a, v, rfl, ha, k⟩ := h
    refine ⟨_, pss_one (ps_ost (pv 0) (pv 1)), ?_⟩
    exact ⟨v, rfl, .ref a, rfl, a, A.C_Malformed, rfl, T.x_Malformed.o, T.no_Malformed_at, .inl ⟨ha, fun dx hdx ne => k dx hdx ne⟩⟩
theorem ok_Oversized___init__ (T : Txt K mg A) : FnOk P w K mg base CX0 1 A.f_Oversized___init__ A.d_Oversized___init__ ["self", "limit"] (sp_ex1 A.C_Oversized "limit") := by
  refine Fun.ok T.F_Oversized___init__ sc_Oversized___init__ (fun vs H Q E h => ?_) (fun cdv Ar outer s H vs Q E hr h => ?_)
  · obtain ⟨_, _, rfl, _⟩ := h
    rfl
  · obtain ⟨a, v, rfl, ha, k⟩ := h
    refine ⟨_, pss_one (ps_ost (pv 0) (pv 1)), ?_⟩
    exact ⟨v, rfl, .ref a, rfl, a, A.C_Oversized, rfl, T.x_Oversized.o, T.no_Oversized_limit, .inl ⟨ha, fun dx hdx ne => k dx hdx ne⟩⟩
end

set_option hygiene false in
local macro_rules
  | `(tactic| simp! only [$xs,*]) => `(tactic| simp (config := { maxSteps := 4000000 }) only [tSeq, tNext, tDrop, tRet, tRetN, tIfS, tAsg, tTest, tAnd, tOr, tNot, tAndV, tOrV, tNotV, tIf, tOp, tUn, tVar, tC, tCB, tCons, tNil, tCall, tPart, tNoPart, tM0, tM1, tTup, tLst, tB, tIsN, tNotN, rI0, rI, rU, rEq, rNe, rAdd, gName, gTup, gCons, gNil, gSub, rSetL, rIxL, rIxT, rIxS, L2.start,
      List.map_cons, List.map_nil, List.cons_append, List.nil_append, List.append_nil, List.length_cons, List.length_nil, List.replicate, List.getElem?_cons_zero, List.getElem?_cons_succ, List.set_cons_zero, List.set_cons_succ, Nat.reduceAdd, Nat.reduceSub, Nat.sub_self, Nat.zero_add,
      Option.some.injEq, V.int.injEq, V.str.injEq, V.bl.injEq, V.ref.injEq, V.ty.injEq, List.cons.injEq, and_true, true_and, exists_eq_left, exists_eq_left', exists_eq_right, exists_and_left, exists_and_right, exists_const, decide_eq_true_eq, decide_eq_false_iff_not, if_true, if_false, reduceIte, Bool.false_eq_true, Bool.not_eq_true', sc_ii, sc_ss, sc_bb, str1, cx_K, lstAt, rIxM, rSetM, rLenM, atI_0, atI_1, atI_2, atI_3, setI_0, setI_1, setI_2, setI_3, upd_same, upd_upd, ite_true, ite_false, exists_eq', eq_self, and_assoc, rIsS, isTy_bb, isTy_bi, isTy_ib, isTy_ii, isTy_ss, isTy_nb, isTy_ni, Bool.not_true, Bool.not_false, not_true_eq_false, not_false_eq_true, tChain, tRz1, tRz2, rIsX, tFx, tMethE, tCallS, tCallZ, tMeth, tMake, tFld, sFld, HO.ins.injEq, HO.lst.injEq, HO.dK.injEq, HO.tup.injEq, dcAt, dcRd, rDInM, rDGetM, rDSetM, rDLenM, keyOf_int, keyOf_str, rIsBM, plainV_b, plainV_i, plainV_n, plainV_s, rInM, rListM, rSortM, rSumM, rIsD, tBMM, tBM0M, tSl, rSlM, rAppend, rPop, rClear, wAs, reduceCtorEq, false_implies, true_implies, implies_true, forall_const, cxH_K, clsV_ref, clsV_ty, HO.xd.injEq, Value.ref.injEq, lkc, lkn, pfn, pfc, List.map_nil, rExtend, rCat, rRep, tMethE0, rSortD, rPush, rPopH, tDGetM, gAll, iRev, tCB, sDDel, wPair, tBreak, tDelT, rDLenR, tMethN, exf_Malformed T, exf_Oversized T, T.no_Malformed_at, T.ex_Malformed_Malformed, T.ex_Malformed_Oversized, T.ex_Malformed_SaggarError, T.no_Oversized_limit, T.ex_Oversized_Malformed, T.ex_Oversized_Oversized, T.ex_Oversized_SaggarError, $xs,*])

/-! ### o.m(e, .., k = v) -/
def tMethN (C : Addr) (m : Str) (n l : Nat) (sp : Sp) (gV : List V → List V → List V) (E : XK) (ta : TE) (t tk : TA) : TE := fun σ H Q => ta σ H fun x H1 => ∃ a dx fs, x = .ref a ∧ H1 a = some (.ins C dx fs) ∧ fs.lookup m = none ∧ t σ H1 fun vs H2 => tk σ H2 fun zs H3 => (x :: vs).length = n ∧ zs.length = l ∧ sp (gV (x :: vs) zs) H3 Q E
theorem pe_methN {X : Cx} {CX : CXT} {k n : Nat} {C f : Addr} {fd : FuncData} {ps ks : List Str} {m : Str} {sp : Sp} {E : XK} {o e : Expr} {es : List Expr} {kws : List Keyword} {ta : TE} {t tk : TA} {apos pos : Pos} {pl : Sem Bool} {g : List Value → List Value → List Value} {gV : List V → List V → List V} (he : PE X o ta) (c : Cls X.K C) (hm : Meth X.K C m f)
    (F : FnOk X.prog X.w X.K X.mg X.base CX k f fd ps sp) (hr : Room k X.A) (hb : KBn X.K fd ps n ks g gV) (hx : Passes CX X E) (ha : PA X (e :: es) t) (hkw : L2.PK X kws tk)
    (hall : (backToKw pos (keywordEach kws X.env)).all (·.1.isSome) = true := by rfl) (hks : (backToKw pos (keywordEach kws X.env)).filterMap (·.1) = ks := by rfl)
    (hst : starEach (e :: es) X.env = (false, eval e X.env) :: starEach es X.env := by rfl)
    (hpl : ((backTo pos (starEach (e :: es) X.env)).any (·.1) || (backToKw pos (keywordEach kws X.env)).any (·.1.isNone)) = false := by rfl)
    (ht : eval (.Call (.Attribute o m apos) (e :: es) kws pos) X.env = (do
      let ov ← eval o X.env
      standAt apos.atName
      let (f, first) ← holding [ov] (getMethod ov m pl)
      callWith pos f first (backTo pos (starEach (e :: es) X.env)) (backToKw pos (keywordEach kws X.env))) := by rfl) :
    PE X (.Call (.Attribute o m apos) (e :: es) kws pos) (tMethN C m n ks.length sp gV E ta t tk) := by
  refine ⟨fun pins s σ H Q I h => ?_⟩
  refine PySem.W.methodCall_KW (pl := pl) (thn (he.run pins s σ H _ I h) fun u1 s1 hh => ?_) ht
  obtain ⟨x, H1, I1, rx, a, dx, fs, rfl, ea, l, q⟩ := hh
  cases rx
  refine getmeth_ok I1 ea c hm l ?_
  refine PySem.W.callWith_KW (first := [.ref a]) (h₀ := X.base) I.ok.mod.kin hm.kp hall (thn (ha.run pos pins s1 σ H1 _ I1 q) fun us s2 ⟨vs, H2, I2, r, q2⟩ => ?_) hpl hst
  refine thn (hkw.run pos pins s2 σ H2 _ I2 q2) fun ws s3 ⟨zs, H3, I3, rz, l1, l2, q3⟩ => ⟨I3.kIn, ?_⟩
  rw [hks]
  exact run_fnN (us := .ref a :: us) (vs := .ref a :: vs) F hr hb hx I3 (.cons rfl r) rz l1 l2 q3
/-- all keyword-only parameters are given -/
theorem Fun.kbinds {K : PySem.W.Frag} {x qual : Str} {st : Stmt} {f : Addr} {fd : FuncData} {ps : List Str} (F : Fun K x qual st f fd) (n : Nat) (ks : List Str)
    (h : ∀ (kV doc pm : Value) (an : Option Addr) (cdv ct : Value) (us ws : List Value), us.length = n → ws.length = ks.length → bindArgs (PySem.W.fnOf x qual (defArgs st) (defBody st) (defScope st) .none kV doc pm an cdv ct) ⟨us, ks.zip ws⟩ = pure (ps.zip (us ++ ws))) :
    KBn K fd ps n ks (fun us ws => us ++ ws) (fun vs zs => vs ++ zs) := by
  obtain ⟨oc, od, kV, doc, pm, an, cdv, ct, osl, rfl, lk, hcd⟩ := F.ex
  exact ⟨fun s us ws X l1 l2 => .of_eq (h kV doc pm an cdv ct us ws l1 l2), fun r1 r2 => r1.append r2⟩
theorem FunD.kbinds0 {K : PySem.W.Frag} {x qual : Str} {params : Arguments} {body : List Stmt} {scope : Scope} {kws : List (Str × V)} {f : Addr} {fd : FuncData} {ps : List Str} (F : FunD K x qual params body scope [] kws f fd) (n : Nat) (ks : List Str)
    (h : ∀ (kV doc pm : Value) (an : Option Addr) (cdv ct : Value) (us ws : List Value), us.length = n → ws.length = ks.length → bindArgs (PySem.W.fnOf x qual params body scope .none kV doc pm an cdv ct) ⟨us, ks.zip ws⟩ = pure (ps.zip (us ++ ws))) :
    KBn K fd ps n ks (fun us ws => us ++ ws) (fun vs zs => vs ++ zs) := by
  obtain ⟨oc, od, dV, kV, doc, pm, an, cdv, ct, osl, rfl, lk, hcd, hD, hK⟩ := F.ex
  rcases hD with ⟨_, rfl⟩ | ⟨e, _⟩
  · exact ⟨fun s us ws X l1 l2 => .of_eq (h kV doc pm an cdv ct us ws l1 l2), fun r1 r2 => r1.append r2⟩
  · exact absurd rfl e
/-- {x: True for x in xs} -/
def mkF (xs : List Int) : List (Key × V) := xs.foldl (fun kvs n => putK kvs (Sum.inl n) (.bl true)) []
theorem mkF_snoc (xs : List Int) (n : Int) : mkF (xs ++ [n]) = putK (mkF xs) (Sum.inl n) (.bl true) := by
  unfold mkF
  rw [List.foldl_append]
  rfl
theorem mkF_some (xs : List Int) (n : Int) : (valV (mkF xs) (Sum.inl n)).isSome = decide (n ∈ xs) := by
  have h : ∀ (xs : List Int) (kvs : List (Key × V)), (valV (xs.foldl (fun kvs n => putK kvs (Sum.inl n) (.bl true)) kvs) (Sum.inl n)).isSome = ((valV kvs (Sum.inl n)).isSome || decide (n ∈ xs)) := by
    intro xs
    induction xs with
    | nil => intro kvs; simp
    | cons m xs ih =>
      intro kvs
      rw [List.foldl_cons, ih, valV_put]
      by_cases c : n = m
      · subst c
        simp
      · rw [if_neg (fun z => c (Sum.inl.inj z))]
        simp [c]
  have := h xs []
  rw [valV_nil] at this
  unfold mkF
  simpa using this
theorem mkF_len (xs : List Int) : (mkF xs).length ≤ xs.length := by
  have h : ∀ (xs : List Int) (kvs : List (Key × V)), (xs.foldl (fun kvs n => putK kvs (Sum.inl n) (.bl true)) kvs).length ≤ kvs.length + xs.length := by
    intro xs
    induction xs with
    | nil => intro kvs; exact Nat.le_refl _
    | cons m xs ih =>
      intro kvs
      have h1 := ih (putK kvs (Sum.inl m) (.bl true))
      have h2 := length_putK kvs (Sum.inl m) (.bl true)
      rw [List.foldl_cons, List.length_cons]
      omega
  have := h xs []
  rw [List.length_nil, Nat.zero_add] at this
  exact this
theorem dc_ints {K : PySem.W.Frag} {tl : TE} {c : Nat} {σ : L2.St} {H : Hp} {Q : VK} {a : Addr} (ns : List Int) (htl : ∀ R : V → Hp → Prop, R (.ref a) H → tl σ H R) (ha : H a = some (.lst (ns.map V.int))) (hc : c < σ.length) (hn : ns.length ≤ 100000)
    (k : ∀ D, H D = none → Q (.ref D) (upd H D (.dK (mkF ns)))) : tDc (iList K tl) (gName c) tYes (tVar c) (tC (.bl true)) [c] σ H Q := by
  refine htl _ ⟨a, rfl, ⟨_, .inl (.inl ha)⟩, fun D hD => ?_⟩
  have sm : ∀ kvs, Same H (upd H D (.dK kvs)) := fun kvs => same_new hD
  have szl : (100000 : Nat) < sizeLine := by decide
  refine ⟨fun i m H' => m = ns.length - i ∧ i ≤ ns.length ∧ H' = upd H D (.dK (mkF (ns.take i))), ⟨_, rfl, Nat.zero_le _, rfl⟩, ?_⟩
  rintro i m H' ⟨rfl, hi, rfl⟩
  have hd' := sm (mkF (ns.take i)) _ _ ha
  have sq : SqL K (upd H D (.dK (mkF (ns.take i)))) a (ns.map V.int) := .inl (.inl hd')
  by_cases hlt : i < ns.length
  · have hx : (ns.map V.int)[i]? = some (.int ns[i]) := by rw [List.getElem?_map, List.getElem?_eq_getElem hlt]; rfl
    refine .inr ⟨⟨_, _, sq, hx⟩, fun H2 => H2 = upd H D (.dK (mkF (ns.take (i + 1)))), fun H2 h2 => ⟨ns.length - (i + 1), by omega, rfl, hlt, h2⟩, fun x H2 hy => ?_⟩
    obtain ⟨rfl, hy⟩ := hy
    have ex := hy _ sq
    rw [hx] at ex
    have ex := Option.some.inj ex
    subst ex
    refine ⟨?_, ?_⟩
    · show List.set (List.set (List.set σ c none) c _) c none = List.set σ c none
      rw [List.set_set, List.set_set]
    · simp only [tYes, if_true]
      refine ⟨.int ns[i], ?_, mkF (ns.take i), Sum.inl ns[i], rfl, upd_same, ?_, ?_⟩
      · show (List.set (List.set σ c none) c _)[c]? = _
        rw [List.getElem?_set_self (by rw [List.length_set]; exact hc)]
      · have := mkF_len (ns.take i)
        rw [List.length_take] at this
        omega
      · rw [upd_upd, List.take_add_one, List.getElem?_eq_getElem hlt]
        show _ = upd H D (.dK (mkF (ns.take i ++ [ns[i]])))
        rw [mkF_snoc]
  · have e : i = ns.length := by omega
    subst e
    refine .inl ⟨⟨_, sq, by rw [List.length_map]; exact Nat.le_refl _⟩, ?_⟩
    rw [List.take_length]
    exact k D hD

/-! ### the mathematics: names -/
def sL : Str := "abcdefghijklmnopqrstuvwxyzABCDEFGHIJKLMNOPQRSTUVWXYZ"
def sD : Str := "0123456789"
def sM : Str := "ABCDEFGHIJKLMNOPQRSTUVWXYZabcdefghijklmnopqrstuvwxyz"
def sS : Str := "+-*/<>=~&,@"
def isL (c : Nat) : Bool := decide (c ∈ cl sL)
def isD (c : Nat) : Bool := decide (c ∈ cl sD)
def isLD (c : Nat) : Bool := isL c || isD c
theorem isL_M (c : Nat) : isL c = decide (c ∈ cl sM) := by
  have h1 : ∀ x ∈ cl sL, x ∈ cl sM := by decide +kernel
  have h2 : ∀ x ∈ cl sM, x ∈ cl sL := by decide +kernel
  unfold isL
  rw [Bool.eq_iff_iff, decide_eq_true_eq, decide_eq_true_eq]
  exact ⟨h1 c, h2 c⟩
theorem isLD_iff (c : Nat) : isLD c = true ↔ (c ∈ cl sL ∨ c ∈ cl sD) := by
  unfold isLD isL isD
  rw [Bool.or_eq_true, decide_eq_true_eq, decide_eq_true_eq]
def run (l : List Nat) : Nat := (l.takeWhile isLD).length
theorem run_le : ∀ l : List Nat, run l ≤ l.length
  | [] => Nat.le_refl _
  | c :: r => by
    unfold run
    rw [List.takeWhile_cons]
    split
    · have := run_le r
      unfold run at this
      simp only [List.length_cons]
      omega
    · simp
theorem run_cons (c : Nat) (r : List Nat) : run (c :: r) = if isLD c = true then run r + 1 else 0 := by
  unfold run
  rw [List.takeWhile_cons]
  split <;> simp
theorem run_at : ∀ (l : List Nat) (j : Nat) (c : Nat), j ≤ run l → l[j]? = some c → (isLD c = true ↔ j < run l)
  | [], j, c, _, h => by simp at h
  | a :: r, 0, c, _, h => by
    have e : a = c := Option.some.inj h
    subst e
    rw [run_cons]
    split <;> simp_all
  | a :: r, j + 1, c, hj, h => by
    rw [run_cons] at hj ⊢
    split at hj
    · have ih := run_at r j c (by omega) h
      rename_i ha
      rw [if_pos ha, ih]
      omega
    · omega
theorem run_all : ∀ l : List Nat, run l = l.length ↔ ∀ c ∈ l, isLD c = true
  | [] => by simp [run]
  | a :: r => by
    have ih := run_all r
    have h1 := run_le r
    rw [run_cons]
    split
    · rename_i ha
      simp only [List.length_cons, List.mem_cons, forall_eq_or_imp, ha, true_and, ← ih]
      omega
    · rename_i ha
      simp only [List.length_cons, List.mem_cons, forall_eq_or_imp]
      constructor
      · intro h
        omega
      · intro h
        exact absurd h.1 ha
/-- name_end from a place on: how many characters -/
def nameLen : List Nat → Nat
  | [] => 0
  | c :: r => if isL c = true then (if 32 < run (c :: r) then 0 else run (c :: r)) else 0
def nameB (l : List Nat) : Bool := !decide (l = []) && decide (nameLen l = l.length)
/-- a name, as the document says it -/
def nameOk : List Nat → Bool
  | [] => false
  | c :: r => isL c && (r.all isLD) && decide ((c :: r).length ≤ 32)
theorem nameB_ok : ∀ l : List Nat, nameB l = nameOk l
  | [] => rfl
  | c :: r => by
    have h := run_all (c :: r)
    have h1 : 0 < (c :: r).length := Nat.succ_pos _
    rw [Bool.eq_iff_iff]
    unfold nameB nameOk nameLen
    simp only [reduceCtorEq, decide_false, Bool.not_false, Bool.true_and, decide_eq_true_eq, Bool.and_eq_true, List.all_eq_true]
    constructor
    · intro e
      split at e
      · rename_i hc
        split at e
        · omega
        · rename_i h32
          have ha := h.mp e
          refine ⟨⟨hc, fun x hx => ha x (List.mem_cons_of_mem _ hx)⟩, by omega⟩
      · omega
    · rintro ⟨⟨hc, hr⟩, hl⟩
      have e : run (c :: r) = (c :: r).length := h.mpr fun x hx => by
        rcases List.mem_cons.mp hx with rfl | hx
        · simp [isLD, hc]
        · exact hr x hx
      rw [if_pos hc, if_neg (by omega), e]
def charOk (j c : Nat) : Prop := isL c = true ∨ (j ≠ 0 ∧ isD c = true)
theorem nameOk_iff : ∀ l : List Nat, nameOk l = true ↔ (l ≠ [] ∧ l.length ≤ 32 ∧ ∀ j c, l[j]? = some c → charOk j c)
  | [] => by simp [nameOk]
  | a :: r => by
    unfold nameOk charOk
    simp only [Bool.and_eq_true, List.all_eq_true, decide_eq_true_eq]
    constructor
    · rintro ⟨⟨ha, hr⟩, hl⟩
      refine ⟨by simp, hl, fun j c hj => ?_⟩
      cases j with
      | zero =>
        have e : a = c := Option.some.inj hj
        rw [← e]
        exact Or.inl ha
      | succ j =>
        have hm : c ∈ r := List.mem_of_getElem? (i := j) hj
        have := hr c hm
        unfold isLD at this
        rcases Bool.or_eq_true_iff.mp this with h | h
        · exact Or.inl h
        · exact Or.inr ⟨by omega, h⟩
    · rintro ⟨_, hl, h⟩
      refine ⟨⟨?_, fun c hc => ?_⟩, hl⟩
      · rcases h 0 a rfl with h0 | h0
        · exact h0
        · exact absurd rfl h0.1
      · obtain ⟨j, hj⟩ := List.getElem?_of_mem hc
        unfold isLD
        rcases h (j + 1) c hj with h0 | h0
        · rw [h0]
          rfl
        · rw [h0.2, Bool.or_true]

def sp_letters_end : Sp := fun vs H Q _ => ∃ (x : Str) (n : Nat), vs = [.str x, .int n] ∧ n ≤ (cl x).length ∧ x.length ≤ 100000 ∧ Q (.int ((n + run ((cl x).drop n) : Nat) : Int)) H
theorem sp_letters_end_len {vs H Q E} (h : sp_letters_end vs H Q E) : vs.length = (["source", "at"] : List Str).length := by
  obtain ⟨_, _, rfl, _⟩ := h
  rfl
section
variable {P : Program} {w : World} {K : PySem.W.Frag} {mg : Str → Option Value} {base : Heap} {A : Ad}
theorem ok_letters_end (T : Txt K mg A) : FnOk P w K mg base CX0 1 A.f_letters_end A.d_letters_end ["source", "at"] (sp_letters_end) := by
  refine Fun.ok T.F_letters_end sc_letters_end (fun vs H Q E h => ?_) (fun cdv Ar outer s H vs Q E hr h => ?_)
  · exact sp_letters_end_len h
  · have hu := hu_of hr
    refine ⟨_, (pss_cons (ps_while PassesOwn.never (PW.pt (pw_and (pt_cmpR op_lt (pv 1) (pe_callB call_len_str (by rfl) T.z_len PySem.boot_len (pa_cons (pv 0) pa_nil)) (nomark _)) (pw_and1 (PW.pt (pw_or (pt_cmpR op_in_sign (pe_item_str (pv 0) (pv 1) (fun _ _ => rfl)) (pe_glob (v := .str "abcdefghijklmnopqrstuvwxyzABCDEFGHIJKLMNOPQRSTUVWXYZ") (by rfl) T.c_LETTERS ⟨_, rfl⟩) (by rfl)) (pw_or1 (pt_cmpR op_in_sign (pe_item_str (pv 0) (pv 1) (fun _ _ => rfl)) (pe_glob (v := .str "0123456789") (by rfl) T.c_DIGITS ⟨_, rfl⟩) (by rfl)))))))) (pss_one (ps_asg (pe_op op_add (pv 1) pe_int) (pg_name (i := 1) sc_letters_end.nd rfl (Or.inl rfl)))))
    (pss_one (ps_ret (pv 1)))), ?_⟩
    obtain ⟨x, n, rfl, hn, hx, k⟩ := h
    refine ⟨fun m σ H' => H' = H ∧ ∃ j, σ = [some (.str x), some (.int ((n + j : Nat) : Int))] ∧ j + m = run ((cl x).drop n), ⟨run ((cl x).drop n), rfl, 0, rfl, by omega⟩, ?_⟩
    rintro m σ H' ⟨rfl, j, rfl, hj⟩
    simp (config := { maxSteps := 4000000 }) only [tSeq, tNext, tDrop, tRet, tRetN, tIfS, tAsg, tTest, tAnd, tOr, tNot, tAndV, tOrV, tNotV, tIf, tOp, tUn, tVar, tC, tCB, tCons, tNil, tCall, tPart, tNoPart, tM0, tM1, tTup, tLst, tB, tIsN, tNotN, rI0, rI, rU, rEq, rNe, rAdd, gName, gTup, gCons, gNil, gSub, rSetL, rIxL, rIxT, rIxS, L2.start,
      List.map_cons, List.map_nil, List.cons_append, List.nil_append, List.append_nil, List.length_cons, List.length_nil, List.replicate, List.getElem?_cons_zero, List.getElem?_cons_succ, List.set_cons_zero, List.set_cons_succ, Nat.reduceAdd, Nat.reduceSub, Nat.sub_self, Nat.zero_add,
      Option.some.injEq, V.int.injEq, V.str.injEq, V.bl.injEq, V.ref.injEq, V.ty.injEq, List.cons.injEq, and_true, true_and, exists_eq_left, exists_eq_left', exists_eq_right, exists_and_left, exists_and_right, exists_const, decide_eq_true_eq, decide_eq_false_iff_not, if_true, if_false, reduceIte, Bool.false_eq_true, Bool.not_eq_true', sc_ii, sc_ss, sc_bb, str1, cx_K, lstAt, rIxM, rSetM, rLenM, atI_0, atI_1, atI_2, atI_3, setI_0, setI_1, setI_2, setI_3, upd_same, upd_upd, ite_true, ite_false, exists_eq', eq_self, and_assoc, rIsS, isTy_bb, isTy_bi, isTy_ib, isTy_ii, isTy_ss, isTy_nb, isTy_ni, Bool.not_true, Bool.not_false, not_true_eq_false, not_false_eq_true, tChain, tRz1, tRz2, rIsX, tFx, tMethE, tCallS, tCallZ, tMeth, tMake, tFld, sFld, HO.ins.injEq, HO.lst.injEq, HO.dK.injEq, HO.tup.injEq, dcAt, dcRd, rDInM, rDGetM, rDSetM, rDLenM, keyOf_int, keyOf_str, rIsBM, plainV_b, plainV_i, plainV_n, plainV_s, rInM, rListM, rSortM, rSumM, rIsD, tBMM, tBM0M, tSl, rSlM, rAppend, rPop, rClear, wAs, reduceCtorEq, false_implies, true_implies, implies_true, forall_const, cxH_K, clsV_ref, clsV_ty, HO.xd.injEq, Value.ref.injEq, lkc, lkn, pfn, pfc, List.map_nil, rExtend, rCat, rRep, tMethE0, rSortD, rPush, rPopH, tDGetM, gAll, iRev, tCB, sDDel, wPair, tBreak, tDelT, rDLenR, tMethN]
    have hl := len_cl x
    have hle := run_le ((cl x).drop n)
    rw [List.length_drop] at hle
    refine ⟨Nat.le_trans hx (by decide), ite2 (fun h1 => ?_) (fun h1 => ?_)⟩
    · have hlt : n + j < (cl x).length := by omega
      have hc : x.cps[((n + j : Nat) : Int).toNat]? = some ((cl x)[n + j]) := by
        rw [Int.toNat_natCast, at_cl, List.getElem?_eq_getElem hlt]
      have hd : ((cl x).drop n)[j]? = some ((cl x)[n + j]) := by
        rw [List.getElem?_drop, List.getElem?_eq_getElem hlt]
      have key := run_at _ j _ (by omega) hd
      have fin : isLD ((cl x)[n + j]) = true → (∃ m', m' < m ∧ H' = H' ∧ ∃ j_1, ([some (.str x), some (.int (((n + j : Nat) : Int) + 1))] : L2.St) = [some (.str x), some (.int ((n + j_1 : Nat) : Int))] ∧ j_1 + m' = run ((cl x).drop n)) := fun hi => by
        have hj2 := key.mp hi
        exact ⟨m - 1, by omega, rfl, j + 1, by rw [show ((n + j : Nat) : Int) + 1 = ((n + (j + 1) : Nat) : Int) by omega], by omega⟩
      refine ⟨by omega, by omega, by omega, _, hc, ite2 (fun h2 => ?_) (fun h2 => ?_)⟩
      · exact ⟨_, fun _ _ h => h, fin ((isLD_iff _).mpr (Or.inl h2))⟩
      · refine ⟨by omega, by omega, by omega, _, hc, ite2 (fun h3 => ?_) (fun h3 => ?_)⟩
        · exact ⟨_, fun _ _ h => h, fin ((isLD_iff _).mpr (Or.inr h3))⟩
        · have hn2 : ¬ isLD ((cl x)[n + j]) = true := fun z => ((isLD_iff _).mp z).elim h2 h3
          have hn3 : ¬ j < run ((cl x).drop n) := fun h => hn2 (key.mpr h)
          have : j = run ((cl x).drop n) := by omega
          rw [this]
          exact k
    · have : j = run ((cl x).drop n) := by omega
      rw [this]
      exact k
end

def sp_name_end : Sp := fun vs H Q _ => ∃ (x : Str) (n : Nat), vs = [.str x, .int n] ∧ n ≤ (cl x).length ∧ x.length ≤ 100000 ∧ Q (.int ((n + nameLen ((cl x).drop n) : Nat) : Int)) H
theorem sp_name_end_len {vs H Q E} (h : sp_name_end vs H Q E) : vs.length = (["source", "at"] : List Str).length := by
  obtain ⟨_, _, rfl, _⟩ := h
  rfl
section
variable {P : Program} {w : World} {K : PySem.W.Frag} {mg : Str → Option Value} {base : Heap} {A : Ad}
theorem ok_name_end (T : Txt K mg A) : FnOk P w K mg base CX0 2 A.f_name_end A.d_name_end ["source", "at"] (sp_name_end) := by
  refine Fun.ok T.F_name_end sc_name_end (fun vs H Q E h => ?_) (fun cdv Ar outer s H vs Q E hr h => ?_)
  · exact sp_name_end_len h
  · have hu := hu_of hr
    refine ⟨_, (pss_cons (ps_if (PW.pt (pw_or (pt_cmpR op_ge (pv 1) (pe_callB call_len_str (by rfl) T.z_len PySem.boot_len (pa_cons (pv 0) pa_nil)) (nomark _)) (pw_or1 (pt_cmpR op_notIn_sign (pe_item_str (pv 0) (pv 1) (fun _ _ => rfl)) (pe_glob (v := .str "abcdefghijklmnopqrstuvwxyzABCDEFGHIJKLMNOPQRSTUVWXYZ") (by rfl) T.c_LETTERS ⟨_, rfl⟩) (by rfl))))) (pss_one (ps_ret (pv 1))) pss_nil)
    (pss_cons (ps_asg (pe_call (ok_letters_end T) (hr.mono (by decide)) (by rfl) T.g_letters_end T.k_letters_end T.b_letters_end .nil pass0 (pa_cons (pv 0) (pa_cons (pv 1) pa_nil))) (pg_name (i := 2) sc_name_end.nd rfl (Or.inl rfl)))
    (pss_cons (ps_if (pt_cmpR op_gt (pe_op op_sub (pv 2) (pv 1)) (pe_glob (v := .int (32)) (by rfl) T.c_LONGEST_NAME ⟨_, rfl⟩) (nomark _)) (pss_one (ps_ret (pv 1))) pss_nil)
    (pss_one (ps_ret (pv 2)))))), ?_⟩
    obtain ⟨x, n, rfl, hn, hx, k⟩ := h
    simp (config := { maxSteps := 4000000 }) only [tSeq, tNext, tDrop, tRet, tRetN, tIfS, tAsg, tTest, tAnd, tOr, tNot, tAndV, tOrV, tNotV, tIf, tOp, tUn, tVar, tC, tCB, tCons, tNil, tCall, tPart, tNoPart, tM0, tM1, tTup, tLst, tB, tIsN, tNotN, rI0, rI, rU, rEq, rNe, rAdd, gName, gTup, gCons, gNil, gSub, rSetL, rIxL, rIxT, rIxS, L2.start,
      List.map_cons, List.map_nil, List.cons_append, List.nil_append, List.append_nil, List.length_cons, List.length_nil, List.replicate, List.getElem?_cons_zero, List.getElem?_cons_succ, List.set_cons_zero, List.set_cons_succ, Nat.reduceAdd, Nat.reduceSub, Nat.sub_self, Nat.zero_add,
      Option.some.injEq, V.int.injEq, V.str.injEq, V.bl.injEq, V.ref.injEq, V.ty.injEq, List.cons.injEq, and_true, true_and, exists_eq_left, exists_eq_left', exists_eq_right, exists_and_left, exists_and_right, exists_const, decide_eq_true_eq, decide_eq_false_iff_not, if_true, if_false, reduceIte, Bool.false_eq_true, Bool.not_eq_true', sc_ii, sc_ss, sc_bb, str1, cx_K, lstAt, rIxM, rSetM, rLenM, atI_0, atI_1, atI_2, atI_3, setI_0, setI_1, setI_2, setI_3, upd_same, upd_upd, ite_true, ite_false, exists_eq', eq_self, and_assoc, rIsS, isTy_bb, isTy_bi, isTy_ib, isTy_ii, isTy_ss, isTy_nb, isTy_ni, Bool.not_true, Bool.not_false, not_true_eq_false, not_false_eq_true, tChain, tRz1, tRz2, rIsX, tFx, tMethE, tCallS, tCallZ, tMeth, tMake, tFld, sFld, HO.ins.injEq, HO.lst.injEq, HO.dK.injEq, HO.tup.injEq, dcAt, dcRd, rDInM, rDGetM, rDSetM, rDLenM, keyOf_int, keyOf_str, rIsBM, plainV_b, plainV_i, plainV_n, plainV_s, rInM, rListM, rSortM, rSumM, rIsD, tBMM, tBM0M, tSl, rSlM, rAppend, rPop, rClear, wAs, reduceCtorEq, false_implies, true_implies, implies_true, forall_const, cxH_K, clsV_ref, clsV_ty, HO.xd.injEq, Value.ref.injEq, lkc, lkn, pfn, pfc, List.map_nil, rExtend, rCat, rRep, tMethE0, rSortD, rPush, rPopH, tDGetM, gAll, iRev, tCB, sDDel, wPair, tBreak, tDelT, rDLenR, tMethN]
    have hl := len_cl x
    have nil0 : (cl x).length ≤ n → Q (.int (n : Int)) H := fun h => by
      have e : (cl x).drop n = [] := List.drop_eq_nil_of_le h
      rw [e] at k
      exact k
    refine ⟨Nat.le_trans hx (by decide), ite2 (fun h1 => nil0 (by omega)) (fun h1 => ?_)⟩
    have hlt : n < (cl x).length := by omega
    have hc : x.cps[((n : Nat) : Int).toNat]? = some ((cl x)[n]) := by
      rw [Int.toNat_natCast, at_cl, List.getElem?_eq_getElem hlt]
    have hd : (cl x).drop n = (cl x)[n] :: (cl x).drop (n + 1) := List.drop_eq_getElem_cons hlt
    refine ⟨by omega, by omega, by omega, _, hc, ite2 (fun h2 => ?_) (fun h2 => ?_)⟩
    · have e : nameLen ((cl x).drop n) = 0 := by
        rw [hd]
        show (if isL ((cl x)[n]) = true then _ else 0) = 0
        exact if_neg (fun z => h2 (of_decide_eq_true z))
      rw [e] at k
      exact k
    · have hL : isL ((cl x)[n]) = true := decide_eq_true (Classical.byContradiction h2)
      have e : nameLen ((cl x).drop n) = if 32 < run ((cl x).drop n) then 0 else run ((cl x).drop n) := by
        rw [hd]
        show (if isL ((cl x)[n]) = true then _ else 0) = _
        rw [if_pos hL]
      rw [e] at k
      refine ⟨x, n, rfl, hn, hx, _, rfl, ite2 (fun h3 => ?_) (fun h3 => ?_)⟩
      · rw [if_pos (by omega)] at k
        exact k
      · rw [if_neg (by omega)] at k
        exact k
end

/-! ### where a written text has given out a token, two written texts may be told apart (replace) -/
section
variable {X : Cx}
theorem pa_consC {c : Str} {j : Nat} {p : Pos} {es : List Expr} {ta : TA} (hr : PAT X es ta)
    (hs : starEach (.Constant (.str c) j p :: es) X.env = (false, eval (.Constant (.str c) j p) X.env) :: starEach es X.env := by rfl) : PA X (.Constant (.str c) j p :: es) (tCons (tC (.str c)) ta) := by
  refine ⟨fun pos pins s σ H Q I h => ?_⟩
  rw [hs]
  show wpAny _ _ (spliced ((false, eval (.Constant (.str c) j p) X.env) :: backTo pos (starEach es X.env))) _ _ s
  refine Calls.spliced_cons (Calls.Constant_str ?_)
  exact thn (hr pos pins { s with toks := s.toks + 1 } σ H _ (by show 1 ≤ s.toks + 1; omega) (I.tok _) h) fun us s2 ⟨xs, H2, I2, r2, q2⟩ => ⟨.str c :: xs, H2, I2, .cons ⟨_, rfl⟩ r2, q2⟩
theorem pe_opC {op : Operator} {r : R2} {c : Str} {j : Nat} {p pos : Pos} {f : Expr} {tf : TE} (ho : OpR X (binaryOp op) r) (hb : PET X f tf) : PE X (.BinOp (.Constant (.str c) j p) op f pos) (tOp r (tC (.str c)) tf) := by
  refine ⟨fun pins s σ H Q I h => ?_⟩
  refine wpAny_BinOp (Calls.Constant_str ?_)
  exact thn (hb pins { s with toks := s.toks + 1 } σ H _ (by show 1 ≤ s.toks + 1; omega) (I.tok _) h) fun u s2 ⟨y, H2, I2, r2, q2⟩ => ho pins s2 σ H2 (.str c) y _ u Q I2 ⟨_, rfl⟩ r2 q2
/-- isinstance(t, tuple) of a tuple -/
def rIsT : List V → Hp → VK → Prop := fun xs H Q => ∃ p, xs = [.ref p, .ty "tuple"] ∧ ∃ ys, H p = some (.tup ys) ∧ Q (.bl true) H
theorem call_isT {X : Cx} : CallR X (.builtin "isinstance") rIsT := by
  intro pins s σ H xs us Q I r h
  obtain ⟨p, rfl, ys, hp, q⟩ := h
  exact call_isi pins s σ H _ us Q I r ⟨.ref p, .ty "tuple", .type "tuple", .type "tuple", true, rfl, .ty "tuple", .base (.tup hp), kit_ty rfl, q⟩
end

section
variable {X : Cx}
/-- a test against a written text: behind it a token is out -/
theorem ps_ifC {op : CmpOp} {r : R2} {a : Expr} {ta : TE} {c : Str} {j : Nat} {cp cpos pos : Pos} {A B : List Stmt} {t u : TS} (ho : OpR X (compareOp op) r) (ha : PE X a ta) (hm : behindInMarks op (.Constant (.str c) j cp) = false) (hA : PSsT X A t) (hB : PSsT X B u) :
    PS X (.If (.Compare a [op] [.Constant (.str c) j cp] cpos) A B pos) (tIfS (tTest (tOp r ta (tC (.str c)))) t u) := by
  refine ⟨fun pins s σ H D I h => ?_⟩
  refine wpAny_If (wpAny_isTrue_Compare1 (thn (ha.run pins s σ H _ I h) fun v s1 ⟨x, H1, I1, r1, q1⟩ => Calls.Constant_str
    (wpAny_mono (PySem.wpAny_toks (ho pins { s1 with toks := s1.toks + 1 } σ H1 x (.str c) v (.str c s1.toks) _ (I1.tok _) r1 ⟨_, rfl⟩ q1)) (fun d s3 q => ?_) fun _ _ z => z.2)) hm)
  obtain ⟨hk, z, H3, I3, r3, k, e, q3⟩ := q
  subst e
  cases r3
  have h1 : 1 ≤ s3.toks := Nat.le_trans (show 1 ≤ s1.toks + 1 by omega) hk
  refine wpAny_truthy_bool ?_
  cases k with
  | true => exact hA pins s3 σ H3 D h1 I3 q3
  | false => exact hB pins s3 σ H3 D h1 I3 q3
theorem pst_asg {tg e : Expr} {pos : Pos} {te : TE} {g : TG} (he : PET X e te) (hg : PG X tg g) (hs : swapsWithSole [tg] e pos.line X.env = pure false := by rfl) (hw : swappedStores [tg] e X.env = pure none := by rfl)
    (h1 : (assignEach [tg] X.env).map (·.2) = [assign tg X.env] := by rfl) : PST X (.Assign [tg] e pos) (tAsg te g) := by
  intro pins s σ H D h0 I h
  refine wpAny_Assign_stores (thn (he pins s σ H _ h0 I h) fun v s1 ⟨x, H1, I1, r1, q1⟩ => ?_) hs hw
  rw [h1]
  exact thn (hg.run pins s1 σ H1 x v _ I1 r1 q1) fun _ s2 q => q
end

/-! ### tokens, on lists of signs -/
def mk (l : List Nat) : Str := ⟨l.toArray⟩
theorem cl_mk (l : List Nat) : cl (mk l) = l := rfl
theorem mk_cl (x : Str) : mk (cl x) = x := rfl
theorem cl_inj {x y : Str} (h : cl x = cl y) : x = y := by rw [← mk_cl x, ← mk_cl y, h]
/-- the first c -/
def fi (c : Nat) : List Nat → Option Nat
  | [] => none
  | a :: r => if a = c then some 0 else (fi c r).map (· + 1)
theorem fi_some {c : Nat} : ∀ {l : List Nat} {k : Nat}, fi c l = some k → l[k]? = some c ∧ ∀ j, j < k → l[j]? ≠ some c
  | [], k, h => by cases h
  | a :: r, k, h => by
    unfold fi at h
    split at h
    · rename_i ha
      cases h
      exact ⟨by rw [ha]; rfl, fun j hj => absurd hj (Nat.not_lt_zero _)⟩
    · rename_i ha
      cases hr : fi c r with
      | none =>
        rw [hr] at h
        cases h
      | some k' =>
        rw [hr] at h
        cases h
        have ih := fi_some hr
        refine ⟨ih.1, fun j hj => ?_⟩
        cases j with
        | zero => exact fun e => ha (Option.some.inj e)
        | succ j => exact ih.2 j (Nat.lt_of_succ_lt_succ hj)
theorem fi_lt {c : Nat} {l : List Nat} {k : Nat} (h : fi c l = some k) : k < l.length := (List.getElem?_eq_some_iff.mp (fi_some h).1).1
theorem fi_none {c : Nat} : ∀ {l : List Nat}, fi c l = none → ∀ j : Nat, l[j]? ≠ some c
  | [], _, j => by simp
  | a :: r, h, j => by
    unfold fi at h
    split at h
    · cases h
    · rename_i ha
      cases hr : fi c r with
      | none =>
        cases j with
        | zero => exact fun e => ha (Option.some.inj e)
        | succ j => exact fi_none hr j
      | some k' =>
        rw [hr] at h
        cases h
theorem fi_eq {c : Nat} {l : List Nat} {k : Nat} (h : l[k]? = some c) (hn : ∀ j, j < k → l[j]? ≠ some c) : fi c l = some k := by
  cases e : fi c l with
  | none => exact absurd h (fi_none e k)
  | some k' =>
    have := fi_some e
    rcases Nat.lt_trichotomy k k' with h1 | h1 | h1
    · exact absurd h (this.2 k h1)
    · rw [h1]
    · exact absurd this.1 (hn k' h1)
theorem fi_nil_of {c : Nat} {l : List Nat} (h : ∀ j : Nat, l[j]? ≠ some c) : fi c l = none := by
  cases e : fi c l with
  | none => rfl
  | some k => exact absurd (fi_some e).1 (h k)
def fiI (n : Nat) : Option Nat → Int
  | none => -1
  | some k => ((n + k : Nat) : Int)
theorem find_fi (x : Str) (c n : Nat) : Txt.find3 x ⟨#[c]⟩ (n : Int) = fiI n (fi c ((cl x).drop n)) := by
  have hf : fromIndex x.length (n : Int) = n := by
    unfold fromIndex
    rw [if_neg (by omega)]
    omega
  have hl := len_cl x
  have getD : ∀ v, v < x.length → x.cps.getD v 0 = (cl x)[v]?.getD 0 := fun v hv => by
    rw [← at_cl]
    simp [Array.getD_eq_getD_getElem?]
  rcases StrLaws.find3_spec x c n with ⟨h, hn⟩ | ⟨k, h, h1, h2, h3, h4⟩
  · rw [h]
    have : fi c ((cl x).drop n) = none := fi_nil_of fun j e => by
      rw [List.getElem?_drop] at e
      have hj := (List.getElem?_eq_some_iff.mp e).1
      refine hn (n + j) (by omega) (by omega) ?_
      rw [getD _ (by omega), e]
      rfl
    rw [this]
    rfl
  · rw [h]
    rw [hf] at h1
    have hk : (cl x)[k]? = some c := by
      have hlt : k < (cl x).length := by omega
      rw [getD k h2, List.getElem?_eq_getElem hlt] at h3
      rw [List.getElem?_eq_getElem hlt]
      exact congrArg some h3
    have : fi c ((cl x).drop n) = some (k - n) := by
      refine fi_eq ?_ fun j hj e => ?_
      · rw [List.getElem?_drop, show n + (k - n) = k by omega]
        exact hk
      · rw [List.getElem?_drop] at e
        refine h4 (n + j) (by omega) (by omega) ?_
        rw [getD _ (by omega), e]
        rfl
    rw [this]
    show (k : Int) = ((n + (k - n) : Nat) : Int)
    omega
/-- how far blanks and comments go, and whether each comment ends -/
def skip (l : List Nat) : Nat × Bool :=
  match l with
  | [] => (0, true)
  | c :: r =>
    if c = 34 then
      match fi 34 r with
      | none => (0, false)
      | some k => ((skip (r.drop (k + 1))).1 + (k + 2), (skip (r.drop (k + 1))).2)
    else if c = 32 ∨ c = 10 then ((skip r).1 + 1, (skip r).2) else (0, true)
termination_by l.length
decreasing_by all_goals (simp only [List.length_drop, List.length_cons]; omega)
theorem nameLen_cons (c : Nat) (r : List Nat) : nameLen (c :: r) = if isL c = true then (if 32 < run (c :: r) then 0 else run (c :: r)) else 0 := rfl
theorem nameLen_le : ∀ l : List Nat, nameLen l ≤ l.length
  | [] => Nat.le_refl _
  | c :: r => by
    have := run_le (c :: r)
    rw [nameLen_cons]
    by_cases h1 : isL c = true
    · rw [if_pos h1]
      by_cases h2 : 32 < run (c :: r)
      · rw [if_pos h2]
        exact Nat.zero_le _
      · rw [if_neg h2]
        exact this
    · rw [if_neg h1]
      exact Nat.zero_le _
def colonB (l : List Nat) : Bool := decide (l[0]? = some 58) && !decide (l[1]? = some 61)
def kwLen (l : List Nat) : Nat := if nameLen l ≠ 0 ∧ colonB (l.drop (nameLen l)) = true then nameLen l + 1 else 0
theorem kwLen_le (l : List Nat) : kwLen l ≤ l.length := by
  unfold kwLen
  split
  · rename_i h
    have h1 := nameLen_le l
    have h2 : (l.drop (nameLen l))[0]? = some 58 := by
      have := h.2
      unfold colonB at this
      rw [Bool.and_eq_true, decide_eq_true_eq] at this
      exact this.1
    rw [List.getElem?_drop] at h2
    have := (List.getElem?_eq_some_iff.mp h2).1
    omega
  · exact Nat.zero_le _
def kwsLen (l : List Nat) : Nat := if h : kwLen l = 0 then 0 else kwLen l + kwsLen (l.drop (kwLen l))
termination_by l.length
decreasing_by (have := kwLen_le l; simp only [List.length_drop]; omega)
theorem kwsLen_le (l : List Nat) : kwsLen l ≤ l.length := by
  rw [kwsLen]
  split
  · exact Nat.zero_le _
  · have h1 := kwLen_le l
    have h2 := kwsLen_le (l.drop (kwLen l))
    rw [List.length_drop] at h2
    omega
termination_by l.length
decreasing_by (have := kwLen_le l; simp only [List.length_drop]; omega)
/-- the closing quote, behind pairs of quotes -/
def qEnd : List Nat → Option Nat
  | [] => none
  | [c] => if c = 39 then some 0 else none
  | c :: d :: t => if c = 39 then (if d = 39 then (qEnd t).map (· + 2) else some 0) else (qEnd (d :: t)).map (· + 1)
def cM : List Nat := [58, 94, 46, 124, 40, 41, 91, 93]
def digB (l : List Nat) : Bool := l.all isD
def numOk (l : List Nat) : Bool := digB l && decide (l.length ≤ 9) && (decide (l.length = 1) || !decide (l[0]? = some 48))
/-- the number that digits write -/
def numOf (l : List Nat) : Int := ((NumText.digitsVal l : Nat) : Int)
def rep2 (l : List Nat) : List Nat := StrLaws.replL [39, 39] [39] l
def hashLen (l : List Nat) : Nat := if kwsLen l ≠ 0 then kwsLen l else nameLen l
def signLen (l : List Nat) : Nat := match l with | _ :: d :: _ => if d ∈ cl sS then 2 else 1 | _ => 1
/-- the token at the beginning: its kind, its value, how many signs it takes -/
def tokL (l : List Nat) : Option (Str × V × Nat) :=
  match l with
  | [] => none
  | c :: r =>
    if isL c = true then
      if nameLen l = 0 then none
      else if kwLen l ≠ 0 then some ("keyword", .str (mk (l.take (nameLen l + 1))), nameLen l + 1)
      else some ("name", .str (mk (l.take (nameLen l))), nameLen l)
    else if isD c = true then
      if numOk (l.take (run l)) = true then some ("number", .int (numOf (l.take (run l))), run l) else none
    else if c = 35 then
      if hashLen r ≠ 0 then some ("symbol", .str (mk (r.take (hashLen r))), hashLen r + 1) else none
    else if c = 39 then
      match qEnd r with
      | none => none
      | some k => some ("symbol", .str (mk (rep2 (r.take k))), k + 2)
    else if c ∈ cl sS then some ("sign", .str (mk (l.take (signLen l))), signLen l)
    else if c = 58 ∧ r[0]? = some 61 then some ("mark", .str ":=", 2)
    else if c ∈ cM then some ("mark", .str (mk [c]), 1)
    else none
theorem cl_cut {z : Str} {i j : Int} {a b : Nat} (hi : i = a) (hj : j = b) : cl (cutS z (some i) (some j)) = ((cl z).drop a).take (b - a) := by
  subst hi
  subst hj
  show ((cl z).drop (HT.sIx z.length 0 (some (a : Int)))).take (HT.sIx z.length z.length (some (b : Int)) - HT.sIx z.length 0 (some (a : Int))) = _
  rw [HT.sIx_nat, HT.sIx_nat, len_cl]
  by_cases h : a ≤ (cl z).length
  · rw [Nat.min_eq_left h]
    by_cases h2 : b ≤ (cl z).length
    · rw [Nat.min_eq_left h2]
    · rw [Nat.min_eq_right (Nat.le_of_not_le h2), List.take_of_length_le (by rw [List.length_drop]; exact Nat.le_refl _), List.take_of_length_le (by rw [List.length_drop]; omega)]
  · rw [Nat.min_eq_right (Nat.le_of_not_le h), List.drop_length, List.drop_eq_nil_of_le (Nat.le_of_not_le h), List.take_nil, List.take_nil]
theorem cut_one {z : Str} {i j : Int} {a c : Nat} (hi : i = a) (hj : j = ((a + 1 : Nat) : Int)) : cutS z (some i) (some j) = mk [c] ↔ (cl z)[a]? = some c := by
  have e := cl_cut (z := z) hi hj
  rw [show a + 1 - a = 1 by omega] at e
  constructor
  · intro h
    rw [h, cl_mk] at e
    have : (((cl z).drop a).take 1)[0]? = some c := by rw [← e]; rfl
    rw [List.getElem?_take_of_lt (by omega), List.getElem?_drop, Nat.add_zero] at this
    exact this
  · intro h
    refine cl_inj ?_
    rw [e, cl_mk]
    have hlt := (List.getElem?_eq_some_iff.mp h).1
    rw [List.drop_eq_getElem_cons hlt, List.take_succ_cons, List.take_zero]
    rw [List.getElem?_eq_getElem hlt] at h
    rw [Option.some.inj h]
theorem mk58 : (":" : Str) = mk [58] := rfl
theorem mk61 : ("=" : Str) = mk [61] := rfl
theorem mk34 : ("\"" : Str) = mk [34] := rfl
theorem mk39 : ("'" : Str) = mk [39] := rfl
theorem mk58c : Str.ofString ":" = mk [58] := rfl
theorem mk61c : Str.ofString "=" = mk [61] := rfl
theorem mk34c : Str.ofString "\"" = mk [34] := rfl
theorem mk39c : Str.ofString "'" = mk [39] := rfl
theorem kws_zero {l : List Nat} (h : kwLen l = 0) : kwsLen l = 0 := by
  rw [kwsLen, dif_pos h]
theorem kws_step {l : List Nat} (h : kwLen l ≠ 0) : kwsLen l = kwLen l + kwsLen (l.drop (kwLen l)) := by
  rw [kwsLen, dif_neg h]
theorem skip_nil : skip [] = (0, true) := by rw [skip]
theorem skip_open {c : Nat} {r : List Nat} (h : c = 34) (hr : fi 34 r = none) : skip (c :: r) = (0, false) := by
  rw [skip, if_pos h, hr]
theorem skip_comment {c : Nat} {r : List Nat} {k : Nat} (h : c = 34) (hr : fi 34 r = some k) : skip (c :: r) = ((skip (r.drop (k + 1))).1 + (k + 2), (skip (r.drop (k + 1))).2) := by
  rw [skip, if_pos h, hr]
theorem skip_blank {c : Nat} {r : List Nat} (h : c ≠ 34) (h2 : c = 32 ∨ c = 10) : skip (c :: r) = ((skip r).1 + 1, (skip r).2) := by
  rw [skip, if_neg h, if_pos h2]
theorem skip_sign {c : Nat} {r : List Nat} (h : c ≠ 34) (h2 : ¬ (c = 32 ∨ c = 10)) : skip (c :: r) = (0, true) := by
  rw [skip, if_neg h, if_neg h2]
theorem one_iff {c d : Nat} : ((⟨#[c]⟩ : Str) = ⟨#[d]⟩) ↔ c = d := by
  constructor
  · intro h
    have := congrArg cl h
    simpa [cl] using this
  · rintro rfl
    rfl
theorem cut_mk {z : Str} {i j : Int} {a b : Nat} (hi : i = a) (hj : j = ((a + b : Nat) : Int)) : cutS z (some i) (some j) = mk (((cl z).drop a).take b) := by
  refine cl_inj ?_
  rw [cl_cut hi hj, cl_mk, show a + b - a = b by omega]
theorem run_take : ∀ l : List Nat, l.take (run l) = l.takeWhile isLD
  | [] => rfl
  | c :: r => by
    have ih := run_take r
    rw [run_cons, List.takeWhile_cons]
    by_cases h : isLD c = true
    · rw [if_pos h, if_pos h, List.take_succ_cons, ih]
    · rw [if_neg h, if_neg h, List.take_zero]
theorem mem_tw {p : Nat → Bool} {c : Nat} : ∀ {l : List Nat}, c ∈ l.takeWhile p → p c = true
  | [], h => by cases h
  | a :: r, h => by
    rw [List.takeWhile_cons] at h
    by_cases ha : p a = true
    · rw [if_pos ha] at h
      rcases List.mem_cons.mp h with rfl | h
      · exact ha
      · exact mem_tw h
    · rw [if_neg ha] at h
      cases h
theorem run_LD {l : List Nat} : ∀ c ∈ l.take (run l), isLD c = true := fun c hc => by
  rw [run_take] at hc
  exact mem_tw hc
theorem run_len (l : List Nat) : (l.take (run l)).length = run l := by
  rw [List.length_take]
  have := run_le l
  omega
theorem uni_LD : ∀ c ∈ cl (sL ++ sD), Unicode.isDigit c = isD c := by decide +kernel
theorem isdigit_LD {d : List Nat} (h : ∀ c ∈ d, isLD c = true) (hne : d ≠ []) : PySem.Txt.isdigit (mk d) = digB d := by
  have e : ∀ c ∈ d, Unicode.isDigit c = isD c := fun c hc => uni_LD c (by
    rw [cl_append, List.mem_append]
    exact (isLD_iff c).mp (h c hc))
  have hl : decide ((mk d).length > 0) = true := decide_eq_true (List.length_pos_iff.mpr hne)
  show (decide ((mk d).length > 0) && (mk d).cps.all Unicode.isDigit) = digB d
  rw [hl, Bool.true_and]
  show d.toArray.all Unicode.isDigit = d.all isD
  rw [List.all_toArray, Bool.eq_iff_iff, List.all_eq_true, List.all_eq_true]
  exact ⟨fun z c hc => by rw [← e c hc]; exact z c hc, fun z c hc => by rw [e c hc]; exact z c hc⟩
theorem isD_iff (c : Nat) : isD c = true ↔ (48 ≤ c ∧ c ≤ 57) := by
  have e : cl sD = [48, 49, 50, 51, 52, 53, 54, 55, 56, 57] := by decide +kernel
  unfold isD
  rw [decide_eq_true_eq, e]
  simp only [List.mem_cons, List.not_mem_nil, or_false]
  omega
theorem digB_all {d : List Nat} (h : digB d = true) : NumText.AllDigits d := fun c hc => (isD_iff c).mp (List.all_eq_true.mp h c hc)
theorem int_digits {d : List Nat} (h : digB d = true) (hne : d ≠ []) (hl : d.length ≤ 100) : PySem.intText? (mk d) = some (numOf d) :=
  PySem.intText_digits (x := mk d) (digB_all h) hne (by show d.length ≤ 4300; omega)
theorem q_step : ∀ l : List Nat, qEnd l = match fi 39 l with | none => none | some k => if l[k + 1]? = some 39 then (qEnd (l.drop (k + 2))).map (· + (k + 2)) else some k
  | [] => rfl
  | [c] => by
    by_cases h : c = 39
    · subst h
      rfl
    · show (if c = 39 then some 0 else none) = _
      have e : fi 39 [c] = none := by
        show (if c = 39 then some 0 else _) = _
        rw [if_neg h]
        rfl
      rw [e, if_neg h]
  | c :: d :: t => by
    have ih := q_step (d :: t)
    by_cases h : c = 39
    · subst h
      show (if 39 = 39 then (if d = 39 then (qEnd t).map (· + 2) else some 0) else _) = if (39 :: d :: t)[0 + 1]? = some 39 then (qEnd ((39 :: d :: t).drop (0 + 2))).map (· + (0 + 2)) else some 0
      rw [if_pos rfl]
      by_cases h2 : d = 39
      · rw [if_pos h2, if_pos (by rw [h2]; rfl)]
        rfl
      · rw [if_neg h2, if_neg (show ¬ (39 :: d :: t)[0 + 1]? = some 39 from fun z => h2 (Option.some.inj z))]
    · have e : fi 39 (c :: d :: t) = (fi 39 (d :: t)).map (· + 1) := if_neg h
      have e2 : qEnd (c :: d :: t) = (qEnd (d :: t)).map (· + 1) := if_neg h
      rw [e, e2, ih]
      cases hf : fi 39 (d :: t) with
      | none => rfl
      | some k =>
        show Option.map (· + 1) (if (d :: t)[k + 1]? = some 39 then (qEnd ((d :: t).drop (k + 2))).map (· + (k + 2)) else some k) = if (c :: d :: t)[k + 1 + 1]? = some 39 then (qEnd ((c :: d :: t).drop (k + 1 + 2))).map (· + (k + 1 + 2)) else some (k + 1)
        by_cases h3 : (d :: t)[k + 1]? = some 39
        · rw [if_pos h3, if_pos (show (c :: d :: t)[k + 1 + 1]? = some 39 from h3)]
          show Option.map (· + 1) ((qEnd ((d :: t).drop (k + 2))).map (· + (k + 2))) = (qEnd ((d :: t).drop (k + 2))).map (· + (k + 1 + 2))
          rw [Option.map_map]
          congr 1
        · rw [if_neg h3, if_neg (show ¬ (c :: d :: t)[k + 1 + 1]? = some 39 from h3)]
          rfl
theorem rep_mk (z : Str) : Txt.replace z (Str.ofString "''") (Str.ofString "'") = mk (rep2 (cl z)) := by
  refine cl_inj ?_
  rw [cl_mk]
  exact StrLaws.replace_list (x := z) (y := Str.ofString "''") (z := Str.ofString "'") (by decide)
theorem cut_two {z : Str} {i j : Int} {a c d : Nat} (hi : i = a) (hj : j = ((a + 2 : Nat) : Int)) : cutS z (some i) (some j) = mk [c, d] ↔ (cl z)[a]? = some c ∧ (cl z)[a + 1]? = some d := by
  have e := cl_cut (z := z) hi hj
  rw [show a + 2 - a = 2 by omega] at e
  constructor
  · intro h
    rw [h, cl_mk] at e
    have h1 : (((cl z).drop a).take 2)[0]? = some c := by rw [← e]; rfl
    have h2 : (((cl z).drop a).take 2)[1]? = some d := by rw [← e]; rfl
    rw [List.getElem?_take_of_lt (by omega), List.getElem?_drop] at h1 h2
    exact ⟨h1, h2⟩
  · rintro ⟨h1, h2⟩
    refine cl_inj ?_
    have hl1 := (List.getElem?_eq_some_iff.mp h1).1
    have hl2 := (List.getElem?_eq_some_iff.mp h2).1
    rw [e, cl_mk, List.drop_eq_getElem_cons hl1, List.take_succ_cons, List.drop_eq_getElem_cons hl2, List.take_succ_cons, List.take_zero]
    rw [List.getElem?_eq_getElem hl1] at h1
    rw [List.getElem?_eq_getElem hl2] at h2
    rw [Option.some.inj h1, Option.some.inj h2]
theorem skip_le (l : List Nat) : (skip l).1 ≤ l.length := by
  match l with
  | [] => rw [skip_nil]; exact Nat.le_refl _
  | c :: r =>
    by_cases h : c = 34
    · cases hf : fi 34 r with
      | none => rw [skip_open h hf]; exact Nat.zero_le _
      | some k =>
        rw [skip_comment h hf]
        have h1 := fi_lt hf
        have h2 := skip_le (r.drop (k + 1))
        rw [List.length_drop] at h2
        simp only [List.length_cons]
        omega
    · by_cases h2 : c = 32 ∨ c = 10
      · rw [skip_blank h h2]
        have h2 := skip_le r
        simp only [List.length_cons]
        omega
      · rw [skip_sign h h2]; exact Nat.zero_le _
termination_by l.length
decreasing_by all_goals (simp only [List.length_drop, List.length_cons]; omega)
theorem qEnd_lt {l : List Nat} {k : Nat} (h : qEnd l = some k) : k < l.length := by
  rw [q_step] at h
  cases hf : fi 39 l with
  | none =>
    rw [hf] at h
    cases h
  | some q =>
    rw [hf] at h
    have h1 := fi_lt hf
    have h' : (if l[q + 1]? = some 39 then (qEnd (l.drop (q + 2))).map (· + (q + 2)) else some q) = some k := h
    by_cases h2 : l[q + 1]? = some 39
    · rw [if_pos h2] at h'
      cases hq : qEnd (l.drop (q + 2)) with
      | none =>
        rw [hq] at h'
        cases h'
      | some k' =>
        rw [hq] at h'
        cases h'
        have := qEnd_lt hq
        rw [List.length_drop] at this
        show k' + (q + 2) < l.length
        omega
    · rw [if_neg h2] at h'
      cases h'
      exact h1
termination_by l.length
decreasing_by (have := fi_lt hf; simp only [List.length_drop]; omega)
theorem signLen_le {l : List Nat} (h : l ≠ []) : 1 ≤ signLen l ∧ signLen l ≤ l.length := by
  match l, h with
  | [a], _ => exact ⟨Nat.le_refl _, Nat.le_refl _⟩
  | a :: d :: t, _ =>
    show 1 ≤ (if d ∈ cl sS then 2 else 1) ∧ (if d ∈ cl sS then 2 else 1) ≤ t.length + 1 + 1
    split <;> omega
theorem hashLen_le (l : List Nat) : hashLen l ≤ l.length := by
  unfold hashLen
  split
  · exact kwsLen_le l
  · exact nameLen_le l
/-- by cases what a token is -/
theorem tokL_cases {c : Nat} {r : List Nat} {kd : Str} {v : V} {k : Nat} (h : tokL (c :: r) = some (kd, v, k)) :
    (isL c = true ∧ nameLen (c :: r) ≠ 0 ∧ kwLen (c :: r) ≠ 0 ∧ kd = "keyword" ∧ v = .str (mk ((c :: r).take (nameLen (c :: r) + 1))) ∧ k = nameLen (c :: r) + 1) ∨
    (isL c = true ∧ nameLen (c :: r) ≠ 0 ∧ kwLen (c :: r) = 0 ∧ kd = "name" ∧ v = .str (mk ((c :: r).take (nameLen (c :: r)))) ∧ k = nameLen (c :: r)) ∨
    (isL c = false ∧ isD c = true ∧ numOk ((c :: r).take (run (c :: r))) = true ∧ kd = "number" ∧ v = .int (numOf ((c :: r).take (run (c :: r)))) ∧ k = run (c :: r)) ∨
    (c = 35 ∧ hashLen r ≠ 0 ∧ kd = "symbol" ∧ v = .str (mk (r.take (hashLen r))) ∧ k = hashLen r + 1) ∨
    (c = 39 ∧ ∃ q, qEnd r = some q ∧ kd = "symbol" ∧ v = .str (mk (rep2 (r.take q))) ∧ k = q + 2) ∨
    (c ∈ cl sS ∧ kd = "sign" ∧ v = .str (mk ((c :: r).take (signLen (c :: r)))) ∧ k = signLen (c :: r)) ∨
    (c = 58 ∧ r[0]? = some 61 ∧ kd = "mark" ∧ v = .str ":=" ∧ k = 2) ∨
    (¬ (c = 58 ∧ r[0]? = some 61) ∧ c ∈ cM ∧ kd = "mark" ∧ v = .str (mk [c]) ∧ k = 1) := by
  unfold tokL at h
  simp only at h
  split at h
  · rename_i h1
    split at h
    · cases h
    · rename_i h2
      split at h
      · rename_i h3
        cases h
        exact .inl ⟨h1, h2, h3, rfl, rfl, rfl⟩
      · rename_i h3
        cases h
        exact .inr (.inl ⟨h1, h2, Classical.not_not.mp h3, rfl, rfl, rfl⟩)
  · rename_i h1
    have h1' := Bool.eq_false_iff.mpr h1
    split at h
    · rename_i h2
      split at h
      · rename_i h3
        cases h
        exact .inr (.inr (.inl ⟨h1', h2, h3, rfl, rfl, rfl⟩))
      · cases h
    · rename_i h2
      split at h
      · rename_i h3
        split at h
        · rename_i h4
          cases h
          exact .inr (.inr (.inr (.inl ⟨h3, h4, rfl, rfl, rfl⟩)))
        · cases h
      · split at h
        · rename_i h4
          split at h
          · cases h
          · rename_i q hq
            cases h
            exact .inr (.inr (.inr (.inr (.inl ⟨h4, q, hq, rfl, rfl, rfl⟩))))
        · split at h
          · rename_i h5
            cases h
            exact .inr (.inr (.inr (.inr (.inr (.inl ⟨h5, rfl, rfl, rfl⟩)))))
          · split at h
            · rename_i h6
              cases h
              exact .inr (.inr (.inr (.inr (.inr (.inr (.inl ⟨h6.1, h6.2, rfl, rfl, rfl⟩))))))
            · rename_i h6
              split at h
              · rename_i h7
                cases h
                exact .inr (.inr (.inr (.inr (.inr (.inr (.inr ⟨h6, h7, rfl, rfl, rfl⟩))))))
              · cases h
theorem tokL_le {l : List Nat} {kd : Str} {v : V} {k : Nat} (h : tokL l = some (kd, v, k)) : 1 ≤ k ∧ k ≤ l.length := by
  match l with
  | [] => cases h
  | c :: r =>
    have hn := nameLen_le (c :: r)
    have hk := kwLen_le (c :: r)
    rcases tokL_cases h with ⟨_, h1, h2, _, _, rfl⟩ | ⟨_, h1, _, _, _, rfl⟩ | ⟨_, h1, _, _, _, rfl⟩ | ⟨_, h1, _, _, rfl⟩ | ⟨_, q, h1, _, _, rfl⟩ | ⟨_, _, _, rfl⟩ | ⟨_, h1, _, _, rfl⟩ | ⟨_, _, _, _, rfl⟩
    · have e : kwLen (c :: r) = nameLen (c :: r) + 1 := by
        unfold kwLen at h2 ⊢
        split
        · rfl
        · rename_i h3
          rw [if_neg h3] at h2
          exact absurd rfl h2
      omega
    · omega
    · have := run_le (c :: r)
      have h2 : run (c :: r) ≠ 0 := by
        rw [run_cons, if_pos (show isLD c = true by unfold isLD; rw [h1, Bool.or_true])]
        omega
      omega
    · have := hashLen_le r
      simp only [List.length_cons]
      omega
    · have := qEnd_lt h1
      simp only [List.length_cons]
      omega
    · exact signLen_le (by simp)
    · have := (List.getElem?_eq_some_iff.mp h1).1
      simp only [List.length_cons]
      omega
    · simp only [List.length_cons]
      omega
/-- the tokens from one place to another -/
inductive Til (s : List Nat) : Nat → List (Nat × Str × V) → Nat → Prop
  | nil (a : Nat) : Til s a [] a
  | cons {a j : Nat} {kd : Str} {v : V} {k : Nat} {ts : List (Nat × Str × V)} {b : Nat} : skip (s.drop a) = (j, true) → a + j < s.length → tokL (s.drop (a + j)) = some (kd, v, k) → Til s (a + j + k) ts b → Til s a ((a + j, kd, v) :: ts) b
theorem Til.snoc {s : List Nat} {a : Nat} {ts : List (Nat × Str × V)} {b : Nat} (h : Til s a ts b) {j : Nat} {kd : Str} {v : V} {k : Nat} (h1 : skip (s.drop b) = (j, true)) (h2 : b + j < s.length) (h3 : tokL (s.drop (b + j)) = some (kd, v, k)) : Til s a (ts ++ [(b + j, kd, v)]) (b + j + k) := by
  induction h with
  | nil a => exact .cons h1 h2 h3 (.nil _)
  | cons g1 g2 g3 _ ih => exact .cons g1 g2 g3 (ih h1 h2 h3)
/-- what was there stays -/
def Kp (H H' : Hp) : Prop := ∀ q o, H q = some o → H' q = some o
theorem Kp.refl (H : Hp) : Kp H H := fun _ _ h => h
theorem Kp.trans {H H1 H2 : Hp} (a : Kp H H1) (b : Kp H1 H2) : Kp H H2 := fun q o h => b q o (a q o h)
theorem Kp.new {H : Hp} {p : Addr} {o : HO} (h : H p = none) : Kp H (upd H p o) := fun q u hq => by
  rw [upd_ne (by rintro rfl; rw [h] at hq; cases hq)]
  exact hq
/-- a list of tokens at p -/
def TkAt (H : Hp) (p : Addr) (ts : List (Nat × Str × V)) : Prop := ∃ vs : List V, H p = some (.lst vs) ∧ vs.length = ts.length ∧ ∀ (i : Nat) (t : Nat × Str × V), ts[i]? = some t → ∃ a, vs[i]? = some (.ref a) ∧ H a = some (.tup [.int (t.1 : Int), .str t.2.1, t.2.2])
theorem Kp.at {H H' : Hp} {p : Addr} {o : HO} (hp : H p = none) (K : Kp H H') : Kp H (upd H' p o) := fun q u hq => by
  rw [upd_ne (by rintro rfl; rw [hp] at hq; cases hq)]
  exact K q u hq
theorem TkAt.push {H : Hp} {p a q : Addr} {vs : List V} {ts : List (Nat × Str × V)} {n : Nat} {kd : Str} {v : V} {o : HO} (hv : H p = some (.lst vs)) (hvl : vs.length = ts.length)
    (hvt : ∀ (i : Nat) (t : Nat × Str × V), ts[i]? = some t → ∃ a, vs[i]? = some (.ref a) ∧ H a = some (.tup [.int (t.1 : Int), .str t.2.1, t.2.2])) (ha : H a = none) (hq : upd H a o q = none) :
    TkAt (upd (upd (upd H a o) q (.tup [.int (n : Int), .str kd, v])) p (.lst (vs ++ [.ref q]))) p (ts ++ [(n, kd, v)]) := by
  have pa : p ≠ a := ne_of_none hv ha
  have pq : p ≠ q := ne_of_none (show upd H a o p = some (.lst vs) by rw [upd_ne pa]; exact hv) hq
  refine ⟨vs ++ [.ref q], upd_same, by rw [List.length_append, List.length_append, hvl]; rfl, fun i t hi => ?_⟩
  by_cases h : i < ts.length
  · rw [List.getElem?_append_left h] at hi
    obtain ⟨b, h1, h2⟩ := hvt i t hi
    have bp : b ≠ p := by
      rintro rfl
      rw [hv] at h2
      cases h2
    have ba : b ≠ a := ne_of_none h2 ha
    have bq : b ≠ q := ne_of_none (show upd H a o b = some _ by rw [upd_ne ba]; exact h2) hq
    exact ⟨b, by rw [List.getElem?_append_left (by omega)]; exact h1, by rw [upd_ne bp, upd_ne bq, upd_ne ba]; exact h2⟩
  · rw [List.getElem?_append_right (by omega)] at hi
    have h0 : i - ts.length = 0 := by
      have := (List.getElem?_eq_some_iff.mp hi).1
      simp at this
      omega
    rw [h0] at hi
    cases hi
    refine ⟨q, by rw [List.getElem?_append_right (by omega), hvl, h0]; rfl, by rw [upd_ne (Ne.symm pq)]; exact upd_same⟩

def sp_keyword_end : Sp := fun vs H Q _ => ∃ (x : Str) (n : Nat), vs = [.str x, .int n] ∧ n ≤ (cl x).length ∧ x.length ≤ 100000 ∧ Q (.int ((n + kwLen ((cl x).drop n) : Nat) : Int)) H
theorem sp_keyword_end_len {vs H Q E} (h : sp_keyword_end vs H Q E) : vs.length = (["source", "at"] : List Str).length := by
  obtain ⟨_, _, rfl, _⟩ := h
  rfl
section
variable {P : Program} {w : World} {K : PySem.W.Frag} {mg : Str → Option Value} {base : Heap} {A : Ad}
theorem ok_keyword_end (T : Txt K mg A) : FnOk P w K mg base CX0 3 A.f_keyword_end A.d_keyword_end ["source", "at"] (sp_keyword_end) := by
  refine Fun.ok T.F_keyword_end sc_keyword_end (fun vs H Q E h => ?_) (fun cdv Ar outer s H vs Q E hr h => ?_)
  · exact sp_keyword_end_len h
  · have hu := hu_of hr
    refine ⟨_, (pss_cons (ps_asg (pe_call (ok_name_end T) (hr.mono (by decide)) (by rfl) T.g_name_end T.k_name_end T.b_name_end .nil pass0 (pa_cons (pv 0) (pa_cons (pv 1) pa_nil))) (pg_name (i := 2) sc_keyword_end.nd rfl (Or.inl rfl)))
    (pss_cons (ps_if (PW.pt (pw_and (pt_cmpR op_gt (pv 2) (pv 1) (nomark _)) (pw_and (pt_cmpR op_eq (pe_slice sl_str (pv 0) (po_some (pv 2)) (po_some (pe_op op_add (pv 2) pe_int))) pe_str (nomark _)) (pw_and1 (pt_cmpR op_ne (pe_slice sl_str (pv 0) (po_some (pe_op op_add (pv 2) pe_int)) (po_some (pe_op op_add (pv 2) pe_int))) pe_str (nomark _)))))) (pss_one (ps_ret (pe_op op_add (pv 2) pe_int))) pss_nil)
    (pss_one (ps_ret (pv 1))))), ?_⟩
    obtain ⟨x, n, rfl, hn, hx, k⟩ := h
    have hsz : x.length ≤ sizeLine := Nat.le_trans hx (by decide)
    have hm := nameLen_le ((cl x).drop n)
    rw [List.length_drop] at hm
    have no : kwLen ((cl x).drop n) = 0 → Q (.int (n : Int)) H := fun e => by
      rw [e] at k
      exact k
    simp (config := { maxSteps := 4000000 }) only [tSeq, tNext, tDrop, tRet, tRetN, tIfS, tAsg, tTest, tAnd, tOr, tNot, tAndV, tOrV, tNotV, tIf, tOp, tUn, tVar, tC, tCB, tCons, tNil, tCall, tPart, tNoPart, tM0, tM1, tTup, tLst, tB, tIsN, tNotN, rI0, rI, rU, rEq, rNe, rAdd, gName, gTup, gCons, gNil, gSub, rSetL, rIxL, rIxT, rIxS, L2.start,
      List.map_cons, List.map_nil, List.cons_append, List.nil_append, List.append_nil, List.length_cons, List.length_nil, List.replicate, List.getElem?_cons_zero, List.getElem?_cons_succ, List.set_cons_zero, List.set_cons_succ, Nat.reduceAdd, Nat.reduceSub, Nat.sub_self, Nat.zero_add,
      Option.some.injEq, V.int.injEq, V.str.injEq, V.bl.injEq, V.ref.injEq, V.ty.injEq, List.cons.injEq, and_true, true_and, exists_eq_left, exists_eq_left', exists_eq_right, exists_and_left, exists_and_right, exists_const, decide_eq_true_eq, decide_eq_false_iff_not, if_true, if_false, reduceIte, Bool.false_eq_true, Bool.not_eq_true', sc_ii, sc_ss, sc_bb, str1, cx_K, lstAt, rIxM, rSetM, rLenM, atI_0, atI_1, atI_2, atI_3, setI_0, setI_1, setI_2, setI_3, upd_same, upd_upd, ite_true, ite_false, exists_eq', eq_self, and_assoc, rIsS, isTy_bb, isTy_bi, isTy_ib, isTy_ii, isTy_ss, isTy_nb, isTy_ni, Bool.not_true, Bool.not_false, not_true_eq_false, not_false_eq_true, tChain, tRz1, tRz2, rIsX, tFx, tMethE, tCallS, tCallZ, tMeth, tMake, tFld, sFld, HO.ins.injEq, HO.lst.injEq, HO.dK.injEq, HO.tup.injEq, dcAt, dcRd, rDInM, rDGetM, rDSetM, rDLenM, keyOf_int, keyOf_str, rIsBM, plainV_b, plainV_i, plainV_n, plainV_s, rInM, rListM, rSortM, rSumM, rIsD, tBMM, tBM0M, tSl, rSlM, rAppend, rPop, rClear, wAs, reduceCtorEq, false_implies, true_implies, implies_true, forall_const, cxH_K, clsV_ref, clsV_ty, HO.xd.injEq, Value.ref.injEq, lkc, lkn, pfn, pfc, List.map_nil, rExtend, rCat, rRep, tMethE0, rSortD, rPush, rPopH, tDGetM, gAll, iRev, tCB, sDDel, wPair, tBreak, tDelT, rDLenR, tMethN]
    refine ⟨x, n, rfl, hn, hx, _, rfl, ite2 (fun h1 => ?_) (fun h1 => ?_)⟩
    · refine ⟨_, rfl, _, rfl, x, rfl, hsz, rfl, ite2 (fun h2 => ?_) (fun h2 => ?_)⟩
      · rw [V.str.injEq, mk58c, cut_one (a := n + nameLen ((cl x).drop n)) rfl (by omega)] at h2
        refine ⟨_, rfl, _, rfl, x, rfl, hsz, rfl, ite2 (fun h3 => ?_) (fun h3 => ?_)⟩
        · rw [V.str.injEq, mk61c, cut_one (a := n + nameLen ((cl x).drop n) + 1) (by omega) (by omega)] at h3
          have e : kwLen ((cl x).drop n) = nameLen ((cl x).drop n) + 1 := if_pos ⟨by omega, by
            unfold colonB
            rw [List.drop_drop, List.getElem?_drop, List.getElem?_drop, Nat.add_zero, decide_eq_true h2, decide_eq_false h3]
            rfl⟩
          rw [e] at k
          exact ⟨_, rfl, k⟩
        · rw [V.str.injEq, mk61c, cut_one (a := n + nameLen ((cl x).drop n) + 1) (by omega) (by omega), Classical.not_not] at h3
          refine no (if_neg fun z => ?_)
          have := z.2
          unfold colonB at this
          rw [List.drop_drop, List.getElem?_drop, List.getElem?_drop, decide_eq_true h3] at this
          simp at this
      · rw [V.str.injEq, mk58c, cut_one (a := n + nameLen ((cl x).drop n)) rfl (by omega)] at h2
        refine no (if_neg fun z => ?_)
        have := z.2
        unfold colonB at this
        rw [List.drop_drop, List.getElem?_drop, Nat.add_zero, decide_eq_false h2] at this
        simp at this
    · exact no (if_neg fun z => by omega)
end

def sp_keywords_end : Sp := fun vs H Q _ => ∃ (x : Str) (n : Nat), vs = [.str x, .int n] ∧ n ≤ (cl x).length ∧ x.length ≤ 100000 ∧ Q (.int ((n + kwsLen ((cl x).drop n) : Nat) : Int)) H
theorem sp_keywords_end_len {vs H Q E} (h : sp_keywords_end vs H Q E) : vs.length = (["source", "at"] : List Str).length := by
  obtain ⟨_, _, rfl, _⟩ := h
  rfl
section
variable {P : Program} {w : World} {K : PySem.W.Frag} {mg : Str → Option Value} {base : Heap} {A : Ad}
theorem ok_keywords_end (T : Txt K mg A) : FnOk P w K mg base CX0 4 A.f_keywords_end A.d_keywords_end ["source", "at"] (sp_keywords_end) := by
  refine Fun.ok T.F_keywords_end sc_keywords_end (fun vs H Q E h => ?_) (fun cdv Ar outer s H vs Q E hr h => ?_)
  · exact sp_keywords_end_len h
  · have hu := hu_of hr
    refine ⟨_, (pss_cons (ps_asg (pe_call (ok_keyword_end T) (hr.mono (by decide)) (by rfl) T.g_keyword_end T.k_keyword_end T.b_keyword_end .nil pass0 (pa_cons (pv 0) (pa_cons (pv 1) pa_nil))) (pg_name (i := 2) sc_keywords_end.nd rfl (Or.inl rfl)))
    (pss_cons (ps_while PassesOwn.never (pt_cmpR op_gt (pv 2) (pv 1) (nomark _)) (pss_cons (ps_asg (pv 2) (pg_name (i := 1) sc_keywords_end.nd rfl (Or.inl rfl)))
    (pss_one (ps_asg (pe_call (ok_keyword_end T) (hr.mono (by decide)) (by rfl) T.g_keyword_end T.k_keyword_end T.b_keyword_end .nil pass0 (pa_cons (pv 0) (pa_cons (pv 1) pa_nil))) (pg_name (i := 2) sc_keywords_end.nd rfl (Or.inl rfl))))))
    (pss_one (ps_ret (pv 1))))), ?_⟩
    obtain ⟨x, n, rfl, hn, hx, k⟩ := h
    simp (config := { maxSteps := 4000000 }) only [tSeq, tNext, tDrop, tRet, tRetN, tIfS, tAsg, tTest, tAnd, tOr, tNot, tAndV, tOrV, tNotV, tIf, tOp, tUn, tVar, tC, tCB, tCons, tNil, tCall, tPart, tNoPart, tM0, tM1, tTup, tLst, tB, tIsN, tNotN, rI0, rI, rU, rEq, rNe, rAdd, gName, gTup, gCons, gNil, gSub, rSetL, rIxL, rIxT, rIxS, L2.start,
      List.map_cons, List.map_nil, List.cons_append, List.nil_append, List.append_nil, List.length_cons, List.length_nil, List.replicate, List.getElem?_cons_zero, List.getElem?_cons_succ, List.set_cons_zero, List.set_cons_succ, Nat.reduceAdd, Nat.reduceSub, Nat.sub_self, Nat.zero_add,
      Option.some.injEq, V.int.injEq, V.str.injEq, V.bl.injEq, V.ref.injEq, V.ty.injEq, List.cons.injEq, and_true, true_and, exists_eq_left, exists_eq_left', exists_eq_right, exists_and_left, exists_and_right, exists_const, decide_eq_true_eq, decide_eq_false_iff_not, if_true, if_false, reduceIte, Bool.false_eq_true, Bool.not_eq_true', sc_ii, sc_ss, sc_bb, str1, cx_K, lstAt, rIxM, rSetM, rLenM, atI_0, atI_1, atI_2, atI_3, setI_0, setI_1, setI_2, setI_3, upd_same, upd_upd, ite_true, ite_false, exists_eq', eq_self, and_assoc, rIsS, isTy_bb, isTy_bi, isTy_ib, isTy_ii, isTy_ss, isTy_nb, isTy_ni, Bool.not_true, Bool.not_false, not_true_eq_false, not_false_eq_true, tChain, tRz1, tRz2, rIsX, tFx, tMethE, tCallS, tCallZ, tMeth, tMake, tFld, sFld, HO.ins.injEq, HO.lst.injEq, HO.dK.injEq, HO.tup.injEq, dcAt, dcRd, rDInM, rDGetM, rDSetM, rDLenM, keyOf_int, keyOf_str, rIsBM, plainV_b, plainV_i, plainV_n, plainV_s, rInM, rListM, rSortM, rSumM, rIsD, tBMM, tBM0M, tSl, rSlM, rAppend, rPop, rClear, wAs, reduceCtorEq, false_implies, true_implies, implies_true, forall_const, cxH_K, clsV_ref, clsV_ty, HO.xd.injEq, Value.ref.injEq, lkc, lkn, pfn, pfc, List.map_nil, rExtend, rCat, rRep, tMethE0, rSortD, rPush, rPopH, tDGetM, gAll, iRev, tCB, sDDel, wPair, tBreak, tDelT, rDLenR, tMethN]
    refine ⟨x, n, rfl, hn, hx, fun m σ H' => H' = H ∧ ∃ j : Nat, n + j ≤ (cl x).length ∧ σ = [some (.str x), some (.int ((n + j : Nat) : Int)), some (.int ((n + j + kwLen ((cl x).drop (n + j)) : Nat) : Int))] ∧ m = (cl x).length - (n + j) ∧ kwsLen ((cl x).drop n) = j + kwsLen ((cl x).drop (n + j)), ⟨_, rfl, 0, hn, rfl, rfl, by rw [Nat.zero_add]; rfl⟩, ?_⟩
    rintro m σ H' ⟨rfl, j, hj, rfl, rfl, e⟩
    simp (config := { maxSteps := 4000000 }) only [tSeq, tNext, tDrop, tRet, tRetN, tIfS, tAsg, tTest, tAnd, tOr, tNot, tAndV, tOrV, tNotV, tIf, tOp, tUn, tVar, tC, tCB, tCons, tNil, tCall, tPart, tNoPart, tM0, tM1, tTup, tLst, tB, tIsN, tNotN, rI0, rI, rU, rEq, rNe, rAdd, gName, gTup, gCons, gNil, gSub, rSetL, rIxL, rIxT, rIxS, L2.start,
      List.map_cons, List.map_nil, List.cons_append, List.nil_append, List.append_nil, List.length_cons, List.length_nil, List.replicate, List.getElem?_cons_zero, List.getElem?_cons_succ, List.set_cons_zero, List.set_cons_succ, Nat.reduceAdd, Nat.reduceSub, Nat.sub_self, Nat.zero_add,
      Option.some.injEq, V.int.injEq, V.str.injEq, V.bl.injEq, V.ref.injEq, V.ty.injEq, List.cons.injEq, and_true, true_and, exists_eq_left, exists_eq_left', exists_eq_right, exists_and_left, exists_and_right, exists_const, decide_eq_true_eq, decide_eq_false_iff_not, if_true, if_false, reduceIte, Bool.false_eq_true, Bool.not_eq_true', sc_ii, sc_ss, sc_bb, str1, cx_K, lstAt, rIxM, rSetM, rLenM, atI_0, atI_1, atI_2, atI_3, setI_0, setI_1, setI_2, setI_3, upd_same, upd_upd, ite_true, ite_false, exists_eq', eq_self, and_assoc, rIsS, isTy_bb, isTy_bi, isTy_ib, isTy_ii, isTy_ss, isTy_nb, isTy_ni, Bool.not_true, Bool.not_false, not_true_eq_false, not_false_eq_true, tChain, tRz1, tRz2, rIsX, tFx, tMethE, tCallS, tCallZ, tMeth, tMake, tFld, sFld, HO.ins.injEq, HO.lst.injEq, HO.dK.injEq, HO.tup.injEq, dcAt, dcRd, rDInM, rDGetM, rDSetM, rDLenM, keyOf_int, keyOf_str, rIsBM, plainV_b, plainV_i, plainV_n, plainV_s, rInM, rListM, rSortM, rSumM, rIsD, tBMM, tBM0M, tSl, rSlM, rAppend, rPop, rClear, wAs, reduceCtorEq, false_implies, true_implies, implies_true, forall_const, cxH_K, clsV_ref, clsV_ty, HO.xd.injEq, Value.ref.injEq, lkc, lkn, pfn, pfc, List.map_nil, rExtend, rCat, rRep, tMethE0, rSortD, rPush, rPopH, tDGetM, gAll, iRev, tCB, sDDel, wPair, tBreak, tDelT, rDLenR, tMethN]
    have hkw := kwLen_le ((cl x).drop (n + j))
    rw [List.length_drop] at hkw
    refine ite2 (fun h1 => ?_) (fun h1 => ?_)
    · refine ⟨_, fun _ _ h => h, x, n + j + kwLen ((cl x).drop (n + j)), rfl, by omega, hx, (cl x).length - (n + (j + kwLen ((cl x).drop (n + j)))), by omega, rfl, j + kwLen ((cl x).drop (n + j)), by omega, ?_, rfl, ?_⟩
      · rw [Nat.add_assoc n j]
      · rw [e, kws_step (l := (cl x).drop (n + j)) (by omega), List.drop_drop, Nat.add_assoc, Nat.add_assoc]
    · have e2 : kwsLen ((cl x).drop (n + j)) = 0 := kws_zero (by omega)
      rw [e, e2, Nat.add_zero] at k
      exact k
end

def sp_skipped (A : Ad) : Sp := fun vs H Q E => ∃ (x : Str) (n : Nat), vs = [.str x, .int n] ∧ n ≤ (cl x).length ∧ x.length ≤ 100000 ∧
  ((skip ((cl x).drop n)).2 = true → Q (.int ((n + (skip ((cl x).drop n)).1 : Nat) : Int)) H) ∧
  ((skip ((cl x).drop n)).2 = false → ∀ dd, H dd = none → E (.ref A.C_Malformed) (some dd) (upd H dd (.xd [("at", .int ((n + (skip ((cl x).drop n)).1 : Nat) : Int))])))
theorem sp_skipped_len {A vs H Q E} (h : sp_skipped A vs H Q E) : vs.length = (["source", "at"] : List Str).length := by
  obtain ⟨_, _, rfl, _⟩ := h
  rfl
section
variable {P : Program} {w : World} {K : PySem.W.Frag} {mg : Str → Option Value} {base : Heap} {A : Ad}
theorem ok_skipped (T : Txt K mg A) : FnOk P w K mg base (L2N.CX P w) 3 A.f_skipped A.d_skipped ["source", "at"] (sp_skipped A) := by
  refine okN T.F_skipped sc_skipped (fun vs H Q E h => ?_) (fun cdv Ar outer s H vs Q E hr h => ?_)
  · exact sp_skipped_len h
  · have hu := hu_of hr
    refine ⟨_, (pss_cons (ps_while (L2.passes_of rfl) (pt_cmpR op_lt (pv 1) (pe_callB call_len_str (by rfl) T.z_len PySem.boot_len (pa_cons (pv 0) pa_nil)) (nomark _)) (pss_one (ps_if (pt_cmpR op_eq (pe_item_str (pv 0) (pv 1) (fun _ _ => rfl)) pe_str (nomark _)) (pss_cons (ps_asg (pe_bm PySem.F.plainAttrs_str PySem.F.slot_str_find PySem.F.type_str_find mt_find3 (pv 0) (pa_cons pe_str (pa_cons (pe_op op_add (pv 1) pe_int) pa_nil))) (pg_name (i := 2) sc_skipped.nd rfl (Or.inl rfl)))
    (pss_cons (ps_if (pt_cmpR op_lt (pv 2) pe_int (nomark _)) (pss_one (ps_rz1 rfl T.x_Malformed (ok_Malformed___init__ T) (hr.mono (by decide)) T.b_Malformed___init__ (L2N.takes_of rfl rfl rfl rfl) (by rfl) T.m_Malformed (pa_cons (pv 1) pa_nil))) pss_nil)
    (pss_one (ps_asg (pe_op op_add (pv 2) pe_int) (pg_name (i := 1) sc_skipped.nd rfl (Or.inl rfl)))))) (pss_one (ps_if (pt_cmpR op_in_sign (pe_item_str (pv 0) (pv 1) (fun _ _ => rfl)) (pe_glob (v := .str " 
") (by rfl) T.c_BLANKS ⟨_, rfl⟩) (by rfl)) (pss_one (ps_asg (pe_op op_add (pv 1) pe_int) (pg_name (i := 1) sc_skipped.nd rfl (Or.inl rfl)))) (pss_one (ps_ret (pv 1))))))))
    (pss_one (ps_ret (pv 1)))), ?_⟩
    obtain ⟨x, n, rfl, hn, hx, k1, k2⟩ := h
    refine ⟨fun m σ H' => H' = H ∧ ∃ (j : Nat) (e : Option V), σ = [some (.str x), some (.int ((n + j : Nat) : Int)), e] ∧ j + m = ((cl x).drop n).length ∧ (skip ((cl x).drop n)).1 = j + (skip ((cl x).drop (n + j))).1 ∧ (skip ((cl x).drop n)).2 = (skip ((cl x).drop (n + j))).2, ⟨((cl x).drop n).length, rfl, 0, none, rfl, by omega, by rw [Nat.zero_add]; rfl, rfl⟩, ?_⟩
    rintro m σ H' ⟨rfl, j, e, rfl, hj, s1, s2⟩
    simp (config := { maxSteps := 4000000 }) only [tSeq, tNext, tDrop, tRet, tRetN, tIfS, tAsg, tTest, tAnd, tOr, tNot, tAndV, tOrV, tNotV, tIf, tOp, tUn, tVar, tC, tCB, tCons, tNil, tCall, tPart, tNoPart, tM0, tM1, tTup, tLst, tB, tIsN, tNotN, rI0, rI, rU, rEq, rNe, rAdd, gName, gTup, gCons, gNil, gSub, rSetL, rIxL, rIxT, rIxS, L2.start,
      List.map_cons, List.map_nil, List.cons_append, List.nil_append, List.append_nil, List.length_cons, List.length_nil, List.replicate, List.getElem?_cons_zero, List.getElem?_cons_succ, List.set_cons_zero, List.set_cons_succ, Nat.reduceAdd, Nat.reduceSub, Nat.sub_self, Nat.zero_add,
      Option.some.injEq, V.int.injEq, V.str.injEq, V.bl.injEq, V.ref.injEq, V.ty.injEq, List.cons.injEq, and_true, true_and, exists_eq_left, exists_eq_left', exists_eq_right, exists_and_left, exists_and_right, exists_const, decide_eq_true_eq, decide_eq_false_iff_not, if_true, if_false, reduceIte, Bool.false_eq_true, Bool.not_eq_true', sc_ii, sc_ss, sc_bb, str1, cx_K, lstAt, rIxM, rSetM, rLenM, atI_0, atI_1, atI_2, atI_3, setI_0, setI_1, setI_2, setI_3, upd_same, upd_upd, ite_true, ite_false, exists_eq', eq_self, and_assoc, rIsS, isTy_bb, isTy_bi, isTy_ib, isTy_ii, isTy_ss, isTy_nb, isTy_ni, Bool.not_true, Bool.not_false, not_true_eq_false, not_false_eq_true, tChain, tRz1, tRz2, rIsX, tFx, tMethE, tCallS, tCallZ, tMeth, tMake, tFld, sFld, HO.ins.injEq, HO.lst.injEq, HO.dK.injEq, HO.tup.injEq, dcAt, dcRd, rDInM, rDGetM, rDSetM, rDLenM, keyOf_int, keyOf_str, rIsBM, plainV_b, plainV_i, plainV_n, plainV_s, rInM, rListM, rSortM, rSumM, rIsD, tBMM, tBM0M, tSl, rSlM, rAppend, rPop, rClear, wAs, reduceCtorEq, false_implies, true_implies, implies_true, forall_const, cxH_K, clsV_ref, clsV_ty, HO.xd.injEq, Value.ref.injEq, lkc, lkn, pfn, pfc, List.map_nil, rExtend, rCat, rRep, tMethE0, rSortD, rPush, rPopH, tDGetM, gAll, iRev, tCB, sDDel, wPair, tBreak, tDelT, rDLenR, tMethN, tBM, tyV]
    have hl := len_cl x
    have hsz : x.length ≤ sizeLine := Nat.le_trans hx (by decide)
    have hdl : ((cl x).drop n).length = (cl x).length - n := List.length_drop ..
    refine ⟨hsz, ite2 (fun h1 => ?_) (fun h1 => ?_)⟩
    · have hlt : n + j < (cl x).length := by omega
      have hc : x.cps[((n + j : Nat) : Int).toNat]? = some ((cl x)[n + j]) := by
        rw [Int.toNat_natCast, at_cl, List.getElem?_eq_getElem hlt]
      have hd : (cl x).drop (n + j) = (cl x)[n + j] :: (cl x).drop (n + j + 1) := List.drop_eq_getElem_cons hlt
      rw [hd] at s1 s2
      generalize (cl x)[n + j] = c at hc s1 s2
      have ff := find_fi x 34 (n + j + 1)
      rw [show ((n + j : Nat) : Int) + 1 = ((n + j + 1 : Nat) : Int) by omega, show Str.ofString "\"" = ⟨#[34]⟩ from rfl, ff]
      refine ⟨_, fun _ _ h => h, by omega, by omega, by omega, c, hc, ite2 (fun h2 => ?_) (fun h2 => ?_)⟩
      · have h34 : c = 34 := one_iff.mp h2
        cases hf : fi 34 ((cl x).drop (n + j + 1)) with
        | none =>
          rw [skip_open h34 hf] at s1 s2
          refine ite2 (fun h3 => ?_) (fun h3 => absurd (show (-1 : Int) < 0 by decide) h3)
          rw [s1] at k2
          exact k2 s2
        | some q =>
          rw [skip_comment h34 hf] at s1 s2
          have hq := fi_lt hf
          rw [List.length_drop] at hq
          have ed : ((cl x).drop (n + j + 1)).drop (q + 1) = (cl x).drop (n + (j + (q + 2))) := by
            rw [List.drop_drop]
            congr 1
            omega
          rw [ed] at s1 s2
          refine ite2 (fun h3 => absurd h3 (by show ¬ ((n + j + 1 + q : Nat) : Int) < 0; omega)) (fun h3 => ?_)
          refine ⟨m - (q + 2), by omega, rfl, j + (q + 2), ⟨some (.int ((n + j + 1 + q : Nat) : Int)), ?_⟩, by omega, by rw [s1]; omega, s2⟩
          show [some (V.str x), some (V.int (((n + j + 1 + q : Nat) : Int) + 1)), some (V.int ((n + j + 1 + q : Nat) : Int))] = _
          rw [show (((n + j + 1 + q : Nat) : Int) + 1) = ((n + (j + (q + 2)) : Nat) : Int) by omega]
      · have h34 : c ≠ 34 := fun z => h2 (one_iff.mpr z)
        refine ⟨by omega, by omega, by omega, c, hc, ite2 (fun h3 => ?_) (fun h3 => ?_)⟩
        · have hb : c = 32 ∨ c = 10 := by
            have h3' : c ∈ ([32, 10] : List Nat) := h3
            simpa using h3'
          rw [skip_blank h34 hb] at s1 s2
          exact ⟨m - 1, by omega, rfl, j + 1, ⟨e, rfl⟩, by omega, by rw [s1, Nat.add_assoc n j]; omega, s2⟩
        · have hb : ¬ (c = 32 ∨ c = 10) := fun z => h3 (by
            show c ∈ ([32, 10] : List Nat)
            simpa using z)
          rw [skip_sign h34 hb] at s1 s2
          have k3 := k1 s2
          rw [s1] at k3
          exact k3
    · have e0 : (cl x).drop (n + j) = [] := List.drop_eq_nil_of_le (by omega)
      rw [e0, skip_nil] at s1 s2
      have k3 := k1 s2
      rw [s1] at k3
      exact k3
end

def sp_signed : Sp := fun vs H Q _ => ∃ (x : Str) (n : Nat), vs = [.str x, .int n] ∧ n < (cl x).length ∧ x.length ≤ 100000 ∧ ∀ t, H t = none → Q (.ref t) (upd H t (.tup [.str "sign", .str (mk (((cl x).drop n).take (signLen ((cl x).drop n)))), .int ((n + signLen ((cl x).drop n) : Nat) : Int)]))
theorem sp_signed_len {vs H Q E} (h : sp_signed vs H Q E) : vs.length = (["source", "at"] : List Str).length := by
  obtain ⟨_, _, rfl, _⟩ := h
  rfl
section
variable {P : Program} {w : World} {K : PySem.W.Frag} {mg : Str → Option Value} {base : Heap} {A : Ad}
theorem ok_signed (T : Txt K mg A) : FnOk P w K mg base CX0 1 A.f_signed A.d_signed ["source", "at"] (sp_signed) := by
  refine Fun.ok T.F_signed sc_signed (fun vs H Q E h => ?_) (fun cdv Ar outer s H vs Q E hr h => ?_)
  · exact sp_signed_len h
  · have hu := hu_of hr
    refine ⟨_, (pss_cons (ps_asg (pe_op op_add (pv 1) pe_int) (pg_name (i := 2) sc_signed.nd rfl (Or.inl rfl)))
    (Evl.pss_cut (ps_if (PW.pt (pw_and (pt_cmpR op_lt (pv 2) (pe_callB call_len_str (by rfl) T.z_len PySem.boot_len (pa_cons (pv 0) pa_nil)) (nomark _)) (pw_and1 (pt_cmpR op_in_sign (pe_item_str (pv 0) (pv 2) (fun _ _ => rfl)) (pe_glob (v := .str "+-*/<>=~&,@") (by rfl) T.c_SIGNS ⟨_, rfl⟩) (by rfl))))) (pss_one (ps_asg (pe_op op_add (pv 2) pe_int) (pg_name (i := 2) sc_signed.nd rfl (Or.inl rfl)))) pss_nil)
    (pss_one (ps_ret (pe_tup (pa_cons pe_str (pa_cons (pe_slice sl_str (pv 0) (po_some (pv 1)) (po_some (pv 2))) (pa_cons (pv 2) pa_nil)))))))), ?_⟩
    obtain ⟨x, n, rfl, hn, hx, k⟩ := h
    simp (config := { maxSteps := 4000000 }) only [tSeq, tNext, tDrop, tRet, tRetN, tIfS, tAsg, tTest, tAnd, tOr, tNot, tAndV, tOrV, tNotV, tIf, tOp, tUn, tVar, tC, tCB, tCons, tNil, tCall, tPart, tNoPart, tM0, tM1, tTup, tLst, tB, tIsN, tNotN, rI0, rI, rU, rEq, rNe, rAdd, gName, gTup, gCons, gNil, gSub, rSetL, rIxL, rIxT, rIxS, L2.start,
      List.map_cons, List.map_nil, List.cons_append, List.nil_append, List.append_nil, List.length_cons, List.length_nil, List.replicate, List.getElem?_cons_zero, List.getElem?_cons_succ, List.set_cons_zero, List.set_cons_succ, Nat.reduceAdd, Nat.reduceSub, Nat.sub_self, Nat.zero_add,
      Option.some.injEq, V.int.injEq, V.str.injEq, V.bl.injEq, V.ref.injEq, V.ty.injEq, List.cons.injEq, and_true, true_and, exists_eq_left, exists_eq_left', exists_eq_right, exists_and_left, exists_and_right, exists_const, decide_eq_true_eq, decide_eq_false_iff_not, if_true, if_false, reduceIte, Bool.false_eq_true, Bool.not_eq_true', sc_ii, sc_ss, sc_bb, str1, cx_K, lstAt, rIxM, rSetM, rLenM, atI_0, atI_1, atI_2, atI_3, setI_0, setI_1, setI_2, setI_3, upd_same, upd_upd, ite_true, ite_false, exists_eq', eq_self, and_assoc, rIsS, isTy_bb, isTy_bi, isTy_ib, isTy_ii, isTy_ss, isTy_nb, isTy_ni, Bool.not_true, Bool.not_false, not_true_eq_false, not_false_eq_true, tChain, tRz1, tRz2, rIsX, tFx, tMethE, tCallS, tCallZ, tMeth, tMake, tFld, sFld, HO.ins.injEq, HO.lst.injEq, HO.dK.injEq, HO.tup.injEq, dcAt, dcRd, rDInM, rDGetM, rDSetM, rDLenM, keyOf_int, keyOf_str, rIsBM, plainV_b, plainV_i, plainV_n, plainV_s, rInM, rListM, rSortM, rSumM, rIsD, tBMM, tBM0M, tSl, rSlM, rAppend, rPop, rClear, wAs, reduceCtorEq, false_implies, true_implies, implies_true, forall_const, cxH_K, clsV_ref, clsV_ty, HO.xd.injEq, Value.ref.injEq, lkc, lkn, pfn, pfc, List.map_nil, rExtend, rCat, rRep, tMethE0, rSortD, rPush, rPopH, tDGetM, gAll, iRev, tCB, sDDel, wPair, tBreak, tDelT, rDLenR, tMethN]
    have hl := len_cl x
    have hsz : x.length ≤ sizeLine := Nat.le_trans hx (by decide)
    have hd : (cl x).drop n = (cl x)[n] :: (cl x).drop (n + 1) := List.drop_eq_getElem_cons hn
    refine ⟨fun σ' H' => H' = H ∧ σ' = [some (.str x), some (.int n), some (.int ((n + signLen ((cl x).drop n) : Nat) : Int))], ?_, ?_⟩
    · simp (config := { maxSteps := 4000000 }) only [tSeq, tNext, tDrop, tRet, tRetN, tIfS, tAsg, tTest, tAnd, tOr, tNot, tAndV, tOrV, tNotV, tIf, tOp, tUn, tVar, tC, tCB, tCons, tNil, tCall, tPart, tNoPart, tM0, tM1, tTup, tLst, tB, tIsN, tNotN, rI0, rI, rU, rEq, rNe, rAdd, gName, gTup, gCons, gNil, gSub, rSetL, rIxL, rIxT, rIxS, L2.start,
      List.map_cons, List.map_nil, List.cons_append, List.nil_append, List.append_nil, List.length_cons, List.length_nil, List.replicate, List.getElem?_cons_zero, List.getElem?_cons_succ, List.set_cons_zero, List.set_cons_succ, Nat.reduceAdd, Nat.reduceSub, Nat.sub_self, Nat.zero_add,
      Option.some.injEq, V.int.injEq, V.str.injEq, V.bl.injEq, V.ref.injEq, V.ty.injEq, List.cons.injEq, and_true, true_and, exists_eq_left, exists_eq_left', exists_eq_right, exists_and_left, exists_and_right, exists_const, decide_eq_true_eq, decide_eq_false_iff_not, if_true, if_false, reduceIte, Bool.false_eq_true, Bool.not_eq_true', sc_ii, sc_ss, sc_bb, str1, cx_K, lstAt, rIxM, rSetM, rLenM, atI_0, atI_1, atI_2, atI_3, setI_0, setI_1, setI_2, setI_3, upd_same, upd_upd, ite_true, ite_false, exists_eq', eq_self, and_assoc, rIsS, isTy_bb, isTy_bi, isTy_ib, isTy_ii, isTy_ss, isTy_nb, isTy_ni, Bool.not_true, Bool.not_false, not_true_eq_false, not_false_eq_true, tChain, tRz1, tRz2, rIsX, tFx, tMethE, tCallS, tCallZ, tMeth, tMake, tFld, sFld, HO.ins.injEq, HO.lst.injEq, HO.dK.injEq, HO.tup.injEq, dcAt, dcRd, rDInM, rDGetM, rDSetM, rDLenM, keyOf_int, keyOf_str, rIsBM, plainV_b, plainV_i, plainV_n, plainV_s, rInM, rListM, rSortM, rSumM, rIsD, tBMM, tBM0M, tSl, rSlM, rAppend, rPop, rClear, wAs, reduceCtorEq, false_implies, true_implies, implies_true, forall_const, cxH_K, clsV_ref, clsV_ty, HO.xd.injEq, Value.ref.injEq, lkc, lkn, pfn, pfc, List.map_nil, rExtend, rCat, rRep, tMethE0, rSortD, rPush, rPopH, tDGetM, gAll, iRev, tCB, sDDel, wPair, tBreak, tDelT, rDLenR, tMethN]
      have two : signLen ((cl x).drop n) = 2 → (n : Int) + 1 + 1 = ((n + signLen ((cl x).drop n) : Nat) : Int) := fun e => by
        rw [e]
        omega
      have one : signLen ((cl x).drop n) = 1 → (n : Int) + 1 = ((n + signLen ((cl x).drop n) : Nat) : Int) := fun e => by
        rw [e]
        omega
      refine ⟨hsz, ite2 (fun h1 => ?_) (fun h1 => one ?_)⟩
      · have hlt : n + 1 < (cl x).length := by omega
        have hd2 : (cl x).drop (n + 1) = (cl x)[n + 1] :: (cl x).drop (n + 1 + 1) := List.drop_eq_getElem_cons hlt
        have hc : x.cps[((n : Int) + 1).toNat]? = some ((cl x)[n + 1]) := by
          rw [show ((n : Int) + 1).toNat = n + 1 by omega, at_cl, List.getElem?_eq_getElem hlt]
        refine ⟨by omega, by omega, by omega, _, hc, ite2 (fun h2 => two ?_) (fun h2 => one ?_)⟩
        · rw [hd, hd2]
          exact if_pos h2
        · rw [hd, hd2]
          exact if_neg h2
      · rw [hd, List.drop_eq_nil_of_le (by omega)]
        rfl
    · rintro σ' H' ⟨rfl, rfl⟩
      simp (config := { maxSteps := 4000000 }) only [tSeq, tNext, tDrop, tRet, tRetN, tIfS, tAsg, tTest, tAnd, tOr, tNot, tAndV, tOrV, tNotV, tIf, tOp, tUn, tVar, tC, tCB, tCons, tNil, tCall, tPart, tNoPart, tM0, tM1, tTup, tLst, tB, tIsN, tNotN, rI0, rI, rU, rEq, rNe, rAdd, gName, gTup, gCons, gNil, gSub, rSetL, rIxL, rIxT, rIxS, L2.start,
      List.map_cons, List.map_nil, List.cons_append, List.nil_append, List.append_nil, List.length_cons, List.length_nil, List.replicate, List.getElem?_cons_zero, List.getElem?_cons_succ, List.set_cons_zero, List.set_cons_succ, Nat.reduceAdd, Nat.reduceSub, Nat.sub_self, Nat.zero_add,
      Option.some.injEq, V.int.injEq, V.str.injEq, V.bl.injEq, V.ref.injEq, V.ty.injEq, List.cons.injEq, and_true, true_and, exists_eq_left, exists_eq_left', exists_eq_right, exists_and_left, exists_and_right, exists_const, decide_eq_true_eq, decide_eq_false_iff_not, if_true, if_false, reduceIte, Bool.false_eq_true, Bool.not_eq_true', sc_ii, sc_ss, sc_bb, str1, cx_K, lstAt, rIxM, rSetM, rLenM, atI_0, atI_1, atI_2, atI_3, setI_0, setI_1, setI_2, setI_3, upd_same, upd_upd, ite_true, ite_false, exists_eq', eq_self, and_assoc, rIsS, isTy_bb, isTy_bi, isTy_ib, isTy_ii, isTy_ss, isTy_nb, isTy_ni, Bool.not_true, Bool.not_false, not_true_eq_false, not_false_eq_true, tChain, tRz1, tRz2, rIsX, tFx, tMethE, tCallS, tCallZ, tMeth, tMake, tFld, sFld, HO.ins.injEq, HO.lst.injEq, HO.dK.injEq, HO.tup.injEq, dcAt, dcRd, rDInM, rDGetM, rDSetM, rDLenM, keyOf_int, keyOf_str, rIsBM, plainV_b, plainV_i, plainV_n, plainV_s, rInM, rListM, rSortM, rSumM, rIsD, tBMM, tBM0M, tSl, rSlM, rAppend, rPop, rClear, wAs, reduceCtorEq, false_implies, true_implies, implies_true, forall_const, cxH_K, clsV_ref, clsV_ty, HO.xd.injEq, Value.ref.injEq, lkc, lkn, pfn, pfc, List.map_nil, rExtend, rCat, rRep, tMethE0, rSortD, rPush, rPopH, tDGetM, gAll, iRev, tCB, sDDel, wPair, tBreak, tDelT, rDLenR, tMethN, tSl, tPart]
      refine ⟨x, rfl, hsz, by decide, fun t ht => ?_⟩
      rw [cut_mk rfl rfl]
      exact k t ht
end

def sp_named (A : Ad) : Sp := fun vs H Q E => ∃ (x : Str) (n : Nat) (l : List Nat), vs = [.str x, .int n] ∧ n ≤ (cl x).length ∧ x.length ≤ 100000 ∧ (cl x).drop n = l ∧
  (nameLen l ≠ 0 → kwLen l ≠ 0 → ∀ t, H t = none → Q (.ref t) (upd H t (.tup [.str "keyword", .str (mk (l.take (nameLen l + 1))), .int ((n + (nameLen l + 1) : Nat) : Int)]))) ∧
  (nameLen l ≠ 0 → kwLen l = 0 → ∀ t, H t = none → Q (.ref t) (upd H t (.tup [.str "name", .str (mk (l.take (nameLen l))), .int ((n + nameLen l : Nat) : Int)]))) ∧
  (nameLen l = 0 → ∀ dd, H dd = none → E (.ref A.C_Malformed) (some dd) (upd H dd (.xd [("at", .int (n : Int))])))
theorem sp_named_len {A vs H Q E} (h : sp_named A vs H Q E) : vs.length = (["source", "at"] : List Str).length := by
  obtain ⟨_, _, _, rfl, _⟩ := h
  rfl
section
variable {P : Program} {w : World} {K : PySem.W.Frag} {mg : Str → Option Value} {base : Heap} {A : Ad}
theorem ok_named (T : Txt K mg A) : FnOk P w K mg base (L2N.CX P w) 4 A.f_named A.d_named ["source", "at"] (sp_named A) := by
  refine okN T.F_named sc_named (fun vs H Q E h => ?_) (fun cdv Ar outer s H vs Q E hr h => ?_)
  · exact sp_named_len h
  · have hu := hu_of hr
    refine ⟨_, (pss_cons (ps_asg (pe_call (ok_name_end T) (hr.mono (by decide)) (by rfl) T.g_name_end T.k_name_end T.b_name_end .nil pass0 (pa_cons (pv 0) (pa_cons (pv 1) pa_nil))) (pg_name (i := 2) sc_named.nd rfl (Or.inl rfl)))
    (pss_cons (ps_if (pt_cmpR op_eq (pv 2) (pv 1) (nomark _)) (pss_one (ps_rz1 rfl T.x_Malformed (ok_Malformed___init__ T) (hr.mono (by decide)) T.b_Malformed___init__ (L2N.takes_of rfl rfl rfl rfl) (by rfl) T.m_Malformed (pa_cons (pv 1) pa_nil))) pss_nil)
    (pss_cons (ps_if (pt_cmpR op_gt (pe_call (ok_keyword_end T) (hr.mono (by decide)) (by rfl) T.g_keyword_end T.k_keyword_end T.b_keyword_end .nil pass0 (pa_cons (pv 0) (pa_cons (pv 1) pa_nil))) (pv 1) (nomark _)) (pss_one (ps_ret (pe_tup (pa_cons pe_str (pa_cons (pe_slice sl_str (pv 0) (po_some (pv 1)) (po_some (pe_op op_add (pv 2) pe_int))) (pa_cons (pe_op op_add (pv 2) pe_int) pa_nil)))))) pss_nil)
    (pss_one (ps_ret (pe_tup (pa_cons pe_str (pa_cons (pe_slice sl_str (pv 0) (po_some (pv 1)) (po_some (pv 2))) (pa_cons (pv 2) pa_nil))))))))), ?_⟩
    obtain ⟨x, n, l, rfl, hn, hx, rfl, k1, k2, k3⟩ := h
    simp (config := { maxSteps := 4000000 }) only [tSeq, tNext, tDrop, tRet, tRetN, tIfS, tAsg, tTest, tAnd, tOr, tNot, tAndV, tOrV, tNotV, tIf, tOp, tUn, tVar, tC, tCB, tCons, tNil, tCall, tPart, tNoPart, tM0, tM1, tTup, tLst, tB, tIsN, tNotN, rI0, rI, rU, rEq, rNe, rAdd, gName, gTup, gCons, gNil, gSub, rSetL, rIxL, rIxT, rIxS, L2.start,
      List.map_cons, List.map_nil, List.cons_append, List.nil_append, List.append_nil, List.length_cons, List.length_nil, List.replicate, List.getElem?_cons_zero, List.getElem?_cons_succ, List.set_cons_zero, List.set_cons_succ, Nat.reduceAdd, Nat.reduceSub, Nat.sub_self, Nat.zero_add,
      Option.some.injEq, V.int.injEq, V.str.injEq, V.bl.injEq, V.ref.injEq, V.ty.injEq, List.cons.injEq, and_true, true_and, exists_eq_left, exists_eq_left', exists_eq_right, exists_and_left, exists_and_right, exists_const, decide_eq_true_eq, decide_eq_false_iff_not, if_true, if_false, reduceIte, Bool.false_eq_true, Bool.not_eq_true', sc_ii, sc_ss, sc_bb, str1, cx_K, lstAt, rIxM, rSetM, rLenM, atI_0, atI_1, atI_2, atI_3, setI_0, setI_1, setI_2, setI_3, upd_same, upd_upd, ite_true, ite_false, exists_eq', eq_self, and_assoc, rIsS, isTy_bb, isTy_bi, isTy_ib, isTy_ii, isTy_ss, isTy_nb, isTy_ni, Bool.not_true, Bool.not_false, not_true_eq_false, not_false_eq_true, tChain, tRz1, tRz2, rIsX, tFx, tMethE, tCallS, tCallZ, tMeth, tMake, tFld, sFld, HO.ins.injEq, HO.lst.injEq, HO.dK.injEq, HO.tup.injEq, dcAt, dcRd, rDInM, rDGetM, rDSetM, rDLenM, keyOf_int, keyOf_str, rIsBM, plainV_b, plainV_i, plainV_n, plainV_s, rInM, rListM, rSortM, rSumM, rIsD, tBMM, tBM0M, tSl, rSlM, rAppend, rPop, rClear, wAs, reduceCtorEq, false_implies, true_implies, implies_true, forall_const, cxH_K, clsV_ref, clsV_ty, HO.xd.injEq, Value.ref.injEq, lkc, lkn, pfn, pfc, List.map_nil, rExtend, rCat, rRep, tMethE0, rSortD, rPush, rPopH, tDGetM, gAll, iRev, tCB, sDDel, wPair, tBreak, tDelT, rDLenR, tMethN, tSl, tPart]
    have hsz : x.length ≤ sizeLine := Nat.le_trans hx (by decide)
    refine ⟨x, n, rfl, hn, hx, rfl, ite2 (fun h1 => k3 (by have := V.int.inj h1; omega)) (fun h1 => ?_)⟩
    have h0 : nameLen ((cl x).drop n) ≠ 0 := fun z => h1 (by rw [z]; rfl)
    refine ⟨x, n, rfl, hn, hx, _, rfl, ite2 (fun h2 => ?_) (fun h2 => ?_)⟩
    · refine ⟨_, rfl, x, rfl, hsz, _, rfl, by decide, fun t ht => ?_⟩
      rw [show ((n + nameLen ((cl x).drop n) : Nat) : Int) + 1 = ((n + (nameLen ((cl x).drop n) + 1) : Nat) : Int) by omega, cut_mk rfl rfl]
      exact k1 h0 (by omega) t ht
    · refine ⟨_, rfl, x, rfl, hsz, by decide, fun t ht => ?_⟩
      rw [cut_mk rfl rfl]
      exact k2 h0 (by omega) t ht
end

def sp_hashed (A : Ad) : Sp := fun vs H Q E => ∃ (x : Str) (n : Nat) (l : List Nat), vs = [.str x, .int n] ∧ n + 1 ≤ (cl x).length ∧ x.length ≤ 100000 ∧ (cl x).drop (n + 1) = l ∧
  (hashLen l ≠ 0 → ∀ t, H t = none → Q (.ref t) (upd H t (.tup [.str "symbol", .str (mk (l.take (hashLen l))), .int ((n + (hashLen l + 1) : Nat) : Int)]))) ∧
  (hashLen l = 0 → ∀ dd, H dd = none → E (.ref A.C_Malformed) (some dd) (upd H dd (.xd [("at", .int (n : Int))])))
theorem sp_hashed_len {A vs H Q E} (h : sp_hashed A vs H Q E) : vs.length = (["source", "at"] : List Str).length := by
  obtain ⟨_, _, _, rfl, _⟩ := h
  rfl
section
variable {P : Program} {w : World} {K : PySem.W.Frag} {mg : Str → Option Value} {base : Heap} {A : Ad}
theorem ok_hashed (T : Txt K mg A) : FnOk P w K mg base (L2N.CX P w) 5 A.f_hashed A.d_hashed ["source", "at"] (sp_hashed A) := by
  refine okN T.F_hashed sc_hashed (fun vs H Q E h => ?_) (fun cdv Ar outer s H vs Q E hr h => ?_)
  · exact sp_hashed_len h
  · have hu := hu_of hr
    refine ⟨_, (pss_cons (ps_asg (pe_op op_add (pv 1) pe_int) (pg_name (i := 2) sc_hashed.nd rfl (Or.inl rfl)))
    (pss_cons (ps_asg (pe_call (ok_keywords_end T) (hr.mono (by decide)) (by rfl) T.g_keywords_end T.k_keywords_end T.b_keywords_end .nil pass0 (pa_cons (pv 0) (pa_cons (pv 2) pa_nil))) (pg_name (i := 3) sc_hashed.nd rfl (Or.inl rfl)))
    (Evl.pss_cut (ps_if (pt_cmpR op_eq (pv 3) (pv 2) (nomark _)) (pss_one (ps_asg (pe_call (ok_name_end T) (hr.mono (by decide)) (by rfl) T.g_name_end T.k_name_end T.b_name_end .nil pass0 (pa_cons (pv 0) (pa_cons (pv 2) pa_nil))) (pg_name (i := 3) sc_hashed.nd rfl (Or.inl rfl)))) pss_nil)
    (pss_cons (ps_if (pt_cmpR op_eq (pv 3) (pv 2) (nomark _)) (pss_one (ps_rz1 rfl T.x_Malformed (ok_Malformed___init__ T) (hr.mono (by decide)) T.b_Malformed___init__ (L2N.takes_of rfl rfl rfl rfl) (by rfl) T.m_Malformed (pa_cons (pv 1) pa_nil))) pss_nil)
    (pss_one (ps_ret (pe_tup (pa_cons pe_str (pa_cons (pe_slice sl_str (pv 0) (po_some (pv 2)) (po_some (pv 3))) (pa_cons (pv 3) pa_nil)))))))))), ?_⟩
    obtain ⟨x, n, l, rfl, hn, hx, rfl, k1, k2⟩ := h
    have hsz : x.length ≤ sizeLine := Nat.le_trans hx (by decide)
    simp (config := { maxSteps := 4000000 }) only [tSeq, tNext, tDrop, tRet, tRetN, tIfS, tAsg, tTest, tAnd, tOr, tNot, tAndV, tOrV, tNotV, tIf, tOp, tUn, tVar, tC, tCB, tCons, tNil, tCall, tPart, tNoPart, tM0, tM1, tTup, tLst, tB, tIsN, tNotN, rI0, rI, rU, rEq, rNe, rAdd, gName, gTup, gCons, gNil, gSub, rSetL, rIxL, rIxT, rIxS, L2.start,
      List.map_cons, List.map_nil, List.cons_append, List.nil_append, List.append_nil, List.length_cons, List.length_nil, List.replicate, List.getElem?_cons_zero, List.getElem?_cons_succ, List.set_cons_zero, List.set_cons_succ, Nat.reduceAdd, Nat.reduceSub, Nat.sub_self, Nat.zero_add,
      Option.some.injEq, V.int.injEq, V.str.injEq, V.bl.injEq, V.ref.injEq, V.ty.injEq, List.cons.injEq, and_true, true_and, exists_eq_left, exists_eq_left', exists_eq_right, exists_and_left, exists_and_right, exists_const, decide_eq_true_eq, decide_eq_false_iff_not, if_true, if_false, reduceIte, Bool.false_eq_true, Bool.not_eq_true', sc_ii, sc_ss, sc_bb, str1, cx_K, lstAt, rIxM, rSetM, rLenM, atI_0, atI_1, atI_2, atI_3, setI_0, setI_1, setI_2, setI_3, upd_same, upd_upd, ite_true, ite_false, exists_eq', eq_self, and_assoc, rIsS, isTy_bb, isTy_bi, isTy_ib, isTy_ii, isTy_ss, isTy_nb, isTy_ni, Bool.not_true, Bool.not_false, not_true_eq_false, not_false_eq_true, tChain, tRz1, tRz2, rIsX, tFx, tMethE, tCallS, tCallZ, tMeth, tMake, tFld, sFld, HO.ins.injEq, HO.lst.injEq, HO.dK.injEq, HO.tup.injEq, dcAt, dcRd, rDInM, rDGetM, rDSetM, rDLenM, keyOf_int, keyOf_str, rIsBM, plainV_b, plainV_i, plainV_n, plainV_s, rInM, rListM, rSortM, rSumM, rIsD, tBMM, tBM0M, tSl, rSlM, rAppend, rPop, rClear, wAs, reduceCtorEq, false_implies, true_implies, implies_true, forall_const, cxH_K, clsV_ref, clsV_ty, HO.xd.injEq, Value.ref.injEq, lkc, lkn, pfn, pfc, List.map_nil, rExtend, rCat, rRep, tMethE0, rSortD, rPush, rPopH, tDGetM, gAll, iRev, tCB, sDDel, wPair, tBreak, tDelT, rDLenR, tMethN, tSl, tPart]
    rw [show (n : Int) + 1 = ((n + 1 : Nat) : Int) by omega]
    refine ⟨x, n + 1, rfl, hn, hx, fun σ' H' => H' = H ∧ σ' = [some (.str x), some (.int n), some (.int ((n + 1 : Nat) : Int)), some (.int ((n + 1 + hashLen ((cl x).drop (n + 1)) : Nat) : Int))], ?_, ?_⟩
    · simp (config := { maxSteps := 4000000 }) only [tSeq, tNext, tDrop, tRet, tRetN, tIfS, tAsg, tTest, tAnd, tOr, tNot, tAndV, tOrV, tNotV, tIf, tOp, tUn, tVar, tC, tCB, tCons, tNil, tCall, tPart, tNoPart, tM0, tM1, tTup, tLst, tB, tIsN, tNotN, rI0, rI, rU, rEq, rNe, rAdd, gName, gTup, gCons, gNil, gSub, rSetL, rIxL, rIxT, rIxS, L2.start,
      List.map_cons, List.map_nil, List.cons_append, List.nil_append, List.append_nil, List.length_cons, List.length_nil, List.replicate, List.getElem?_cons_zero, List.getElem?_cons_succ, List.set_cons_zero, List.set_cons_succ, Nat.reduceAdd, Nat.reduceSub, Nat.sub_self, Nat.zero_add,
      Option.some.injEq, V.int.injEq, V.str.injEq, V.bl.injEq, V.ref.injEq, V.ty.injEq, List.cons.injEq, and_true, true_and, exists_eq_left, exists_eq_left', exists_eq_right, exists_and_left, exists_and_right, exists_const, decide_eq_true_eq, decide_eq_false_iff_not, if_true, if_false, reduceIte, Bool.false_eq_true, Bool.not_eq_true', sc_ii, sc_ss, sc_bb, str1, cx_K, lstAt, rIxM, rSetM, rLenM, atI_0, atI_1, atI_2, atI_3, setI_0, setI_1, setI_2, setI_3, upd_same, upd_upd, ite_true, ite_false, exists_eq', eq_self, and_assoc, rIsS, isTy_bb, isTy_bi, isTy_ib, isTy_ii, isTy_ss, isTy_nb, isTy_ni, Bool.not_true, Bool.not_false, not_true_eq_false, not_false_eq_true, tChain, tRz1, tRz2, rIsX, tFx, tMethE, tCallS, tCallZ, tMeth, tMake, tFld, sFld, HO.ins.injEq, HO.lst.injEq, HO.dK.injEq, HO.tup.injEq, dcAt, dcRd, rDInM, rDGetM, rDSetM, rDLenM, keyOf_int, keyOf_str, rIsBM, plainV_b, plainV_i, plainV_n, plainV_s, rInM, rListM, rSortM, rSumM, rIsD, tBMM, tBM0M, tSl, rSlM, rAppend, rPop, rClear, wAs, reduceCtorEq, false_implies, true_implies, implies_true, forall_const, cxH_K, clsV_ref, clsV_ty, HO.xd.injEq, Value.ref.injEq, lkc, lkn, pfn, pfc, List.map_nil, rExtend, rCat, rRep, tMethE0, rSortD, rPush, rPopH, tDGetM, gAll, iRev, tCB, sDDel, wPair, tBreak, tDelT, rDLenR, tMethN]
      refine ite2 (fun h1 => ⟨x, n + 1, rfl, hn, hx, rfl, ?_⟩) (fun h1 => ?_)
      · have e : hashLen ((cl x).drop (n + 1)) = nameLen ((cl x).drop (n + 1)) := if_neg (by omega)
        rw [e]
      · have e : hashLen ((cl x).drop (n + 1)) = kwsLen ((cl x).drop (n + 1)) := if_pos (by omega)
        rw [e]
    · rintro σ' H' ⟨rfl, rfl⟩
      simp (config := { maxSteps := 4000000 }) only [tSeq, tNext, tDrop, tRet, tRetN, tIfS, tAsg, tTest, tAnd, tOr, tNot, tAndV, tOrV, tNotV, tIf, tOp, tUn, tVar, tC, tCB, tCons, tNil, tCall, tPart, tNoPart, tM0, tM1, tTup, tLst, tB, tIsN, tNotN, rI0, rI, rU, rEq, rNe, rAdd, gName, gTup, gCons, gNil, gSub, rSetL, rIxL, rIxT, rIxS, L2.start,
      List.map_cons, List.map_nil, List.cons_append, List.nil_append, List.append_nil, List.length_cons, List.length_nil, List.replicate, List.getElem?_cons_zero, List.getElem?_cons_succ, List.set_cons_zero, List.set_cons_succ, Nat.reduceAdd, Nat.reduceSub, Nat.sub_self, Nat.zero_add,
      Option.some.injEq, V.int.injEq, V.str.injEq, V.bl.injEq, V.ref.injEq, V.ty.injEq, List.cons.injEq, and_true, true_and, exists_eq_left, exists_eq_left', exists_eq_right, exists_and_left, exists_and_right, exists_const, decide_eq_true_eq, decide_eq_false_iff_not, if_true, if_false, reduceIte, Bool.false_eq_true, Bool.not_eq_true', sc_ii, sc_ss, sc_bb, str1, cx_K, lstAt, rIxM, rSetM, rLenM, atI_0, atI_1, atI_2, atI_3, setI_0, setI_1, setI_2, setI_3, upd_same, upd_upd, ite_true, ite_false, exists_eq', eq_self, and_assoc, rIsS, isTy_bb, isTy_bi, isTy_ib, isTy_ii, isTy_ss, isTy_nb, isTy_ni, Bool.not_true, Bool.not_false, not_true_eq_false, not_false_eq_true, tChain, tRz1, tRz2, rIsX, tFx, tMethE, tCallS, tCallZ, tMeth, tMake, tFld, sFld, HO.ins.injEq, HO.lst.injEq, HO.dK.injEq, HO.tup.injEq, dcAt, dcRd, rDInM, rDGetM, rDSetM, rDLenM, keyOf_int, keyOf_str, rIsBM, plainV_b, plainV_i, plainV_n, plainV_s, rInM, rListM, rSortM, rSumM, rIsD, tBMM, tBM0M, tSl, rSlM, rAppend, rPop, rClear, wAs, reduceCtorEq, false_implies, true_implies, implies_true, forall_const, cxH_K, clsV_ref, clsV_ty, HO.xd.injEq, Value.ref.injEq, lkc, lkn, pfn, pfc, List.map_nil, rExtend, rCat, rRep, tMethE0, rSortD, rPush, rPopH, tDGetM, gAll, iRev, tCB, sDDel, wPair, tBreak, tDelT, rDLenR, tMethN, tSl, tPart]
      refine ite2 (fun h1 => k2 (by omega)) (fun h1 => ⟨x, rfl, hsz, by decide, fun t ht => ?_⟩)
      have e := k1 (by omega) t ht
      rw [cut_mk rfl rfl, show n + 1 + hashLen ((cl x).drop (n + 1)) = n + (hashLen ((cl x).drop (n + 1)) + 1) by omega]
      exact e
end

def sp_numbered (A : Ad) : Sp := fun vs H Q E => ∃ (x : Str) (n : Nat) (l : List Nat), vs = [.str x, .int n] ∧ n ≤ (cl x).length ∧ x.length ≤ 100000 ∧ (cl x).drop n = l ∧ run l ≠ 0 ∧
  (numOk (l.take (run l)) = true → ∀ t, H t = none → Q (.ref t) (upd H t (.tup [.str "number", .int (numOf (l.take (run l))), .int ((n + run l : Nat) : Int)]))) ∧
  (numOk (l.take (run l)) = false → ∀ dd, H dd = none → E (.ref A.C_Malformed) (some dd) (upd H dd (.xd [("at", .int (n : Int))])))
theorem sp_numbered_len {A vs H Q E} (h : sp_numbered A vs H Q E) : vs.length = (["source", "at"] : List Str).length := by
  obtain ⟨_, _, _, rfl, _⟩ := h
  rfl
section
variable {P : Program} {w : World} {K : PySem.W.Frag} {mg : Str → Option Value} {base : Heap} {A : Ad}
theorem ok_numbered (T : Txt K mg A) : FnOk P w K mg base (L2N.CX P w) 3 A.f_numbered A.d_numbered ["source", "at"] (sp_numbered A) := by
  refine okN T.F_numbered sc_numbered (fun vs H Q E h => ?_) (fun cdv Ar outer s H vs Q E hr h => ?_)
  · exact sp_numbered_len h
  · have hu := hu_of hr
    refine ⟨_, (pss_cons (ps_asg (pe_call (ok_letters_end T) (hr.mono (by decide)) (by rfl) T.g_letters_end T.k_letters_end T.b_letters_end .nil pass0 (pa_cons (pv 0) (pa_cons (pv 1) pa_nil))) (pg_name (i := 2) sc_numbered.nd rfl (Or.inl rfl)))
    (pss_cons (ps_asg (pe_slice sl_str (pv 0) (po_some (pv 1)) (po_some (pv 2))) (pg_name (i := 3) sc_numbered.nd rfl (Or.inl rfl)))
    (pss_cons (ps_if (PW.pt (pw_or (pt_not (pt_val (pe_m0 PySem.F.slot_str_isdigit PySem.F.type_str_isdigit mt_isdigit (pv 3)))) (pw_or1 (pt_cmpR op_gt (pe_callB call_len_str (by rfl) T.z_len PySem.boot_len (pa_cons (pv 3) pa_nil)) (pe_glob (v := .int (9)) (by rfl) T.c_MOST_DIGITS ⟨_, rfl⟩) (nomark _))))) (pss_one (ps_rz1 rfl T.x_Malformed (ok_Malformed___init__ T) (hr.mono (by decide)) T.b_Malformed___init__ (L2N.takes_of rfl rfl rfl rfl) (by rfl) T.m_Malformed (pa_cons (pv 1) pa_nil))) pss_nil)
    (pss_cons (ps_if (PW.pt (pw_and (pt_cmpR op_eq (pe_item_str (pv 3) pe_int (fun _ _ => rfl)) pe_str (nomark _)) (pw_and1 (pt_cmpR op_ne (pv 3) pe_str (nomark _))))) (pss_one (ps_rz1 rfl T.x_Malformed (ok_Malformed___init__ T) (hr.mono (by decide)) T.b_Malformed___init__ (L2N.takes_of rfl rfl rfl rfl) (by rfl) T.m_Malformed (pa_cons (pv 1) pa_nil))) pss_nil)
    (pss_one (ps_ret (pe_tup (pa_cons pe_str (pa_cons (pe_callTy call_int_str (by rfl) T.z_int (by decide +kernel) (pa_cons (pv 3) pa_nil)) (pa_cons (pv 2) pa_nil)))))))))), ?_⟩
    obtain ⟨x, n, l, rfl, hn, hx, rfl, h0, k1, k2⟩ := h
    have hsz : x.length ≤ sizeLine := Nat.le_trans hx (by decide)
    simp (config := { maxSteps := 4000000 }) only [tSeq, tNext, tDrop, tRet, tRetN, tIfS, tAsg, tTest, tAnd, tOr, tNot, tAndV, tOrV, tNotV, tIf, tOp, tUn, tVar, tC, tCB, tCons, tNil, tCall, tPart, tNoPart, tM0, tM1, tTup, tLst, tB, tIsN, tNotN, rI0, rI, rU, rEq, rNe, rAdd, gName, gTup, gCons, gNil, gSub, rSetL, rIxL, rIxT, rIxS, L2.start,
      List.map_cons, List.map_nil, List.cons_append, List.nil_append, List.append_nil, List.length_cons, List.length_nil, List.replicate, List.getElem?_cons_zero, List.getElem?_cons_succ, List.set_cons_zero, List.set_cons_succ, Nat.reduceAdd, Nat.reduceSub, Nat.sub_self, Nat.zero_add,
      Option.some.injEq, V.int.injEq, V.str.injEq, V.bl.injEq, V.ref.injEq, V.ty.injEq, List.cons.injEq, and_true, true_and, exists_eq_left, exists_eq_left', exists_eq_right, exists_and_left, exists_and_right, exists_const, decide_eq_true_eq, decide_eq_false_iff_not, if_true, if_false, reduceIte, Bool.false_eq_true, Bool.not_eq_true', sc_ii, sc_ss, sc_bb, str1, cx_K, lstAt, rIxM, rSetM, rLenM, atI_0, atI_1, atI_2, atI_3, setI_0, setI_1, setI_2, setI_3, upd_same, upd_upd, ite_true, ite_false, exists_eq', eq_self, and_assoc, rIsS, isTy_bb, isTy_bi, isTy_ib, isTy_ii, isTy_ss, isTy_nb, isTy_ni, Bool.not_true, Bool.not_false, not_true_eq_false, not_false_eq_true, tChain, tRz1, tRz2, rIsX, tFx, tMethE, tCallS, tCallZ, tMeth, tMake, tFld, sFld, HO.ins.injEq, HO.lst.injEq, HO.dK.injEq, HO.tup.injEq, dcAt, dcRd, rDInM, rDGetM, rDSetM, rDLenM, keyOf_int, keyOf_str, rIsBM, plainV_b, plainV_i, plainV_n, plainV_s, rInM, rListM, rSortM, rSumM, rIsD, tBMM, tBM0M, tSl, rSlM, rAppend, rPop, rClear, wAs, reduceCtorEq, false_implies, true_implies, implies_true, forall_const, cxH_K, clsV_ref, clsV_ty, HO.xd.injEq, Value.ref.injEq, lkc, lkn, pfn, pfc, List.map_nil, rExtend, rCat, rRep, tMethE0, rSortD, rPush, rPopH, tDGetM, gAll, iRev, tCB, sDDel, wPair, tBreak, tDelT, rDLenR, tMethN, tSl, tPart]
    refine ⟨x, n, rfl, hn, hx, _, rfl, x, rfl, hsz, ?_⟩
    rw [cut_mk rfl rfl]
    have hLD := run_LD (l := (cl x).drop n)
    have hlen := run_len ((cl x).drop n)
    generalize ((cl x).drop n).take (run ((cl x).drop n)) = d at hLD hlen k1 k2
    have hne : d ≠ [] := fun z => h0 (by rw [← hlen, z]; rfl)
    have hml : (mk d).length = d.length := rfl
    have hdl : d.length ≤ 100000 := by
      have := run_le ((cl x).drop n)
      rw [List.length_drop] at this
      have := len_cl x
      omega
    have fin : numOk d = true → ∃ a, V.str (mk d) = V.str a ∧ ∃ x_3, PySem.intText? a = some x_3 ∧ a.length ≤ 640 ∧ 3 ≤ sizeLine ∧ ∀ p, H p = none → Q (.ref p) (upd H p (.tup [.str (Str.ofString "number"), .int x_3, .int ((n + run ((cl x).drop n) : Nat) : Int)])) := fun h => by
      have h' := h
      unfold numOk at h'
      rw [Bool.and_eq_true, Bool.and_eq_true, decide_eq_true_eq] at h'
      exact ⟨_, rfl, _, int_digits h'.1.1 hne (by omega), by rw [hml]; omega, by decide, fun p hp => k1 h p hp⟩
    have bad : numOk d ≠ true → ∀ d', H d' = none → E (.ref A.C_Malformed) (some d') (upd H d' (.xd [("at", .int (n : Int))])) := fun h => k2 (Bool.eq_false_iff.mpr h)
    have isd := isdigit_LD hLD hne
    refine ⟨⟨_, rfl⟩, _, rfl, ite2 (fun h1 => bad fun z => ?_) (fun h1 => ⟨_, rfl, Nat.le_trans hdl (by decide), ite2 (fun h2 => bad fun z => ?_) (fun h2 => ?_)⟩)⟩
    · rw [isd] at h1
      unfold numOk at z
      rw [h1] at z
      cases z
    · unfold numOk at z
      rw [Bool.and_eq_true, Bool.and_eq_true, decide_eq_true_eq] at z
      rw [hml] at h2
      omega
    · rw [isd] at h1
      rw [hml] at h2
      have hdg : digB d = true := Bool.not_eq_false _ ▸ h1
      have hl9 : decide (d.length ≤ 9) = true := decide_eq_true (by omega)
      obtain ⟨c, r, rfl⟩ := List.exists_cons_of_ne_nil hne
      refine ⟨_, rfl, by decide, by decide, by rw [hml, List.length_cons]; omega, c, rfl, ite2 (fun h3 => ⟨rfl, ite2 (fun h4 => bad fun z => ?_) (fun h4 => fin ?_)⟩) (fun h3 => fin ?_)⟩
      · have h48 : c = 48 := one_iff.mp (show (⟨#[c]⟩ : Str) = ⟨#[48]⟩ from h3)
        subst h48
        unfold numOk at z
        rw [Bool.and_eq_true, Bool.or_eq_true] at z
        rcases z.2 with z | z
        · rw [decide_eq_true_eq] at z
          cases r with
          | nil => exact h4 rfl
          | cons b r => simp at z
        · simp at z
      · have e := congrArg cl (V.str.inj (Classical.not_not.mp h4))
        have e2 : c :: r = [48] := e
        rw [e2]
        decide +kernel
      · have h48 : ¬ c = 48 := fun z => h3 (by rw [z]; rfl)
        unfold numOk
        rw [hdg, hl9]
        simp [h48]
end

def sp_quoted (A : Ad) : Sp := fun vs H Q E => ∃ (x : Str) (n : Nat) (l : List Nat), vs = [.str x, .int n] ∧ n + 1 ≤ (cl x).length ∧ x.length ≤ 100000 ∧ (cl x).drop (n + 1) = l ∧
  (∀ k, qEnd l = some k → ∀ t, H t = none → Q (.ref t) (upd H t (.tup [.str "symbol", .str (mk (rep2 (l.take k))), .int ((n + (k + 2) : Nat) : Int)]))) ∧
  (qEnd l = none → ∀ dd, H dd = none → E (.ref A.C_Malformed) (some dd) (upd H dd (.xd [("at", .int (n : Int))])))
theorem sp_quoted_len {A vs H Q E} (h : sp_quoted A vs H Q E) : vs.length = (["source", "at"] : List Str).length := by
  obtain ⟨_, _, _, rfl, _⟩ := h
  rfl
section
variable {P : Program} {w : World} {K : PySem.W.Frag} {mg : Str → Option Value} {base : Heap} {A : Ad}
theorem ok_quoted (T : Txt K mg A) : FnOk P w K mg base (L2N.CX P w) 3 A.f_quoted A.d_quoted ["source", "at"] (sp_quoted A) := by
  refine okN T.F_quoted sc_quoted (fun vs H Q E h => ?_) (fun cdv Ar outer s H vs Q E hr h => ?_)
  · exact sp_quoted_len h
  · have hu := hu_of hr
    refine ⟨_, (pss_cons (ps_asg (pe_bm PySem.F.plainAttrs_str PySem.F.slot_str_find PySem.F.type_str_find mt_find3 (pv 0) (pa_cons pe_str (pa_cons (pe_op op_add (pv 1) pe_int) pa_nil))) (pg_name (i := 2) sc_quoted.nd rfl (Or.inl rfl)))
    (pss_cons (ps_while (L2.passes_of rfl) (PW.pt (pw_and (pt_cmpR op_ge (pv 2) pe_int (nomark _)) (pw_and1 (pt_cmpR op_eq (pe_slice sl_str (pv 0) (po_some (pe_op op_add (pv 2) pe_int)) (po_some (pe_op op_add (pv 2) pe_int))) pe_str (nomark _))))) (pss_one (ps_asg (pe_bm PySem.F.plainAttrs_str PySem.F.slot_str_find PySem.F.type_str_find mt_find3 (pv 0) (pa_cons pe_str (pa_cons (pe_op op_add (pv 2) pe_int) pa_nil))) (pg_name (i := 2) sc_quoted.nd rfl (Or.inl rfl)))))
    (pss_cons (ps_if (pt_cmpR op_lt (pv 2) pe_int (nomark _)) (pss_one (ps_rz1 rfl T.x_Malformed (ok_Malformed___init__ T) (hr.mono (by decide)) T.b_Malformed___init__ (L2N.takes_of rfl rfl rfl rfl) (by rfl) T.m_Malformed (pa_cons (pv 1) pa_nil))) pss_nil)
    (pss_one (ps_ret (pe_tup (pa_consC (pat_cons (CwR.pet_replC (pe_slice sl_str (pv 0) (po_some (pe_op op_add (pv 1) pe_int)) (po_some (pv 2)))) (pat_cons (CwR.PET.of (pe_op op_add (pv 2) pe_int)) pat_nil))))))))), ?_⟩
    obtain ⟨x, n, l, rfl, hn, hx, rfl, k1, k2⟩ := h
    have hsz : x.length ≤ sizeLine := Nat.le_trans hx (by decide)
    simp (config := { maxSteps := 4000000 }) only [tSeq, tNext, tDrop, tRet, tRetN, tIfS, tAsg, tTest, tAnd, tOr, tNot, tAndV, tOrV, tNotV, tIf, tOp, tUn, tVar, tC, tCB, tCons, tNil, tCall, tPart, tNoPart, tM0, tM1, tTup, tLst, tB, tIsN, tNotN, rI0, rI, rU, rEq, rNe, rAdd, gName, gTup, gCons, gNil, gSub, rSetL, rIxL, rIxT, rIxS, L2.start,
      List.map_cons, List.map_nil, List.cons_append, List.nil_append, List.append_nil, List.length_cons, List.length_nil, List.replicate, List.getElem?_cons_zero, List.getElem?_cons_succ, List.set_cons_zero, List.set_cons_succ, Nat.reduceAdd, Nat.reduceSub, Nat.sub_self, Nat.zero_add,
      Option.some.injEq, V.int.injEq, V.str.injEq, V.bl.injEq, V.ref.injEq, V.ty.injEq, List.cons.injEq, and_true, true_and, exists_eq_left, exists_eq_left', exists_eq_right, exists_and_left, exists_and_right, exists_const, decide_eq_true_eq, decide_eq_false_iff_not, if_true, if_false, reduceIte, Bool.false_eq_true, Bool.not_eq_true', sc_ii, sc_ss, sc_bb, str1, cx_K, lstAt, rIxM, rSetM, rLenM, atI_0, atI_1, atI_2, atI_3, setI_0, setI_1, setI_2, setI_3, upd_same, upd_upd, ite_true, ite_false, exists_eq', eq_self, and_assoc, rIsS, isTy_bb, isTy_bi, isTy_ib, isTy_ii, isTy_ss, isTy_nb, isTy_ni, Bool.not_true, Bool.not_false, not_true_eq_false, not_false_eq_true, tChain, tRz1, tRz2, rIsX, tFx, tMethE, tCallS, tCallZ, tMeth, tMake, tFld, sFld, HO.ins.injEq, HO.lst.injEq, HO.dK.injEq, HO.tup.injEq, dcAt, dcRd, rDInM, rDGetM, rDSetM, rDLenM, keyOf_int, keyOf_str, rIsBM, plainV_b, plainV_i, plainV_n, plainV_s, rInM, rListM, rSortM, rSumM, rIsD, tBMM, tBM0M, tSl, rSlM, rAppend, rPop, rClear, wAs, reduceCtorEq, false_implies, true_implies, implies_true, forall_const, cxH_K, clsV_ref, clsV_ty, HO.xd.injEq, Value.ref.injEq, lkc, lkn, pfn, pfc, List.map_nil, rExtend, rCat, rRep, tMethE0, rSortD, rPush, rPopH, tDGetM, gAll, iRev, tCB, sDDel, wPair, tBreak, tDelT, rDLenR, tMethN, tSl, tPart, tBM, tyV, CwR.tReplC]
    rw [show (n : Int) + 1 = ((n + 1 : Nat) : Int) by omega, show Str.ofString "'" = ⟨#[39]⟩ from rfl, find_fi x 39 (n + 1)]
    refine ⟨fun m σ H' => H' = H ∧ ∃ j : Nat, n + 1 + j ≤ (cl x).length ∧ σ = [some (.str x), some (.int n), some (.int (fiI (n + 1 + j) (fi 39 ((cl x).drop (n + 1 + j)))))] ∧ m = (cl x).length - (n + 1 + j) ∧ qEnd ((cl x).drop (n + 1)) = (qEnd ((cl x).drop (n + 1 + j))).map (· + j), ⟨_, rfl, 0, hn, rfl, rfl, ?_⟩, ?_⟩
    · show _ = (qEnd ((cl x).drop (n + 1))).map (· + 0)
      cases qEnd ((cl x).drop (n + 1)) <;> rfl
    rintro m σ H' ⟨rfl, j, hj, rfl, rfl, e⟩
    rw [q_step ((cl x).drop (n + 1 + j))] at e
    cases hf : fi 39 ((cl x).drop (n + 1 + j)) with
    | none =>
      rw [hf] at e
      simp (config := { maxSteps := 4000000 }) only [tSeq, tNext, tDrop, tRet, tRetN, tIfS, tAsg, tTest, tAnd, tOr, tNot, tAndV, tOrV, tNotV, tIf, tOp, tUn, tVar, tC, tCB, tCons, tNil, tCall, tPart, tNoPart, tM0, tM1, tTup, tLst, tB, tIsN, tNotN, rI0, rI, rU, rEq, rNe, rAdd, gName, gTup, gCons, gNil, gSub, rSetL, rIxL, rIxT, rIxS, L2.start,
      List.map_cons, List.map_nil, List.cons_append, List.nil_append, List.append_nil, List.length_cons, List.length_nil, List.replicate, List.getElem?_cons_zero, List.getElem?_cons_succ, List.set_cons_zero, List.set_cons_succ, Nat.reduceAdd, Nat.reduceSub, Nat.sub_self, Nat.zero_add,
      Option.some.injEq, V.int.injEq, V.str.injEq, V.bl.injEq, V.ref.injEq, V.ty.injEq, List.cons.injEq, and_true, true_and, exists_eq_left, exists_eq_left', exists_eq_right, exists_and_left, exists_and_right, exists_const, decide_eq_true_eq, decide_eq_false_iff_not, if_true, if_false, reduceIte, Bool.false_eq_true, Bool.not_eq_true', sc_ii, sc_ss, sc_bb, str1, cx_K, lstAt, rIxM, rSetM, rLenM, atI_0, atI_1, atI_2, atI_3, setI_0, setI_1, setI_2, setI_3, upd_same, upd_upd, ite_true, ite_false, exists_eq', eq_self, and_assoc, rIsS, isTy_bb, isTy_bi, isTy_ib, isTy_ii, isTy_ss, isTy_nb, isTy_ni, Bool.not_true, Bool.not_false, not_true_eq_false, not_false_eq_true, tChain, tRz1, tRz2, rIsX, tFx, tMethE, tCallS, tCallZ, tMeth, tMake, tFld, sFld, HO.ins.injEq, HO.lst.injEq, HO.dK.injEq, HO.tup.injEq, dcAt, dcRd, rDInM, rDGetM, rDSetM, rDLenM, keyOf_int, keyOf_str, rIsBM, plainV_b, plainV_i, plainV_n, plainV_s, rInM, rListM, rSortM, rSumM, rIsD, tBMM, tBM0M, tSl, rSlM, rAppend, rPop, rClear, wAs, reduceCtorEq, false_implies, true_implies, implies_true, forall_const, cxH_K, clsV_ref, clsV_ty, HO.xd.injEq, Value.ref.injEq, lkc, lkn, pfn, pfc, List.map_nil, rExtend, rCat, rRep, tMethE0, rSortD, rPush, rPopH, tDGetM, gAll, iRev, tCB, sDDel, wPair, tBreak, tDelT, rDLenR, tMethN, tSl, tPart, tBM, tyV, CwR.tReplC]
      exact ite2 (fun h => absurd h (show ¬ (0 : Int) ≤ -1 by decide)) (fun _ => ite2 (fun _ => k2 (e.trans rfl)) (fun h => absurd (show (-1 : Int) < 0 by decide) h))
    | some q =>
      rw [hf] at e
      have hq := fi_lt hf
      rw [List.length_drop] at hq
      simp (config := { maxSteps := 4000000 }) only [tSeq, tNext, tDrop, tRet, tRetN, tIfS, tAsg, tTest, tAnd, tOr, tNot, tAndV, tOrV, tNotV, tIf, tOp, tUn, tVar, tC, tCB, tCons, tNil, tCall, tPart, tNoPart, tM0, tM1, tTup, tLst, tB, tIsN, tNotN, rI0, rI, rU, rEq, rNe, rAdd, gName, gTup, gCons, gNil, gSub, rSetL, rIxL, rIxT, rIxS, L2.start,
      List.map_cons, List.map_nil, List.cons_append, List.nil_append, List.append_nil, List.length_cons, List.length_nil, List.replicate, List.getElem?_cons_zero, List.getElem?_cons_succ, List.set_cons_zero, List.set_cons_succ, Nat.reduceAdd, Nat.reduceSub, Nat.sub_self, Nat.zero_add,
      Option.some.injEq, V.int.injEq, V.str.injEq, V.bl.injEq, V.ref.injEq, V.ty.injEq, List.cons.injEq, and_true, true_and, exists_eq_left, exists_eq_left', exists_eq_right, exists_and_left, exists_and_right, exists_const, decide_eq_true_eq, decide_eq_false_iff_not, if_true, if_false, reduceIte, Bool.false_eq_true, Bool.not_eq_true', sc_ii, sc_ss, sc_bb, str1, cx_K, lstAt, rIxM, rSetM, rLenM, atI_0, atI_1, atI_2, atI_3, setI_0, setI_1, setI_2, setI_3, upd_same, upd_upd, ite_true, ite_false, exists_eq', eq_self, and_assoc, rIsS, isTy_bb, isTy_bi, isTy_ib, isTy_ii, isTy_ss, isTy_nb, isTy_ni, Bool.not_true, Bool.not_false, not_true_eq_false, not_false_eq_true, tChain, tRz1, tRz2, rIsX, tFx, tMethE, tCallS, tCallZ, tMeth, tMake, tFld, sFld, HO.ins.injEq, HO.lst.injEq, HO.dK.injEq, HO.tup.injEq, dcAt, dcRd, rDInM, rDGetM, rDSetM, rDLenM, keyOf_int, keyOf_str, rIsBM, plainV_b, plainV_i, plainV_n, plainV_s, rInM, rListM, rSortM, rSumM, rIsD, tBMM, tBM0M, tSl, rSlM, rAppend, rPop, rClear, wAs, reduceCtorEq, false_implies, true_implies, implies_true, forall_const, cxH_K, clsV_ref, clsV_ty, HO.xd.injEq, Value.ref.injEq, lkc, lkn, pfn, pfc, List.map_nil, rExtend, rCat, rRep, tMethE0, rSortD, rPush, rPopH, tDGetM, gAll, iRev, tCB, sDDel, wPair, tBreak, tDelT, rDLenR, tMethN, tSl, tPart, tBM, tyV, CwR.tReplC]
      rw [show fiI (n + 1 + j) (some q) = ((n + 1 + j + q : Nat) : Int) from rfl]
      rw [show ((n + 1 + j + q : Nat) : Int) + 1 = ((n + 1 + j + q + 1 : Nat) : Int) by omega, show ((n + 1 + j + q : Nat) : Int) + 2 = ((n + 1 + j + q + 1 + 1 : Nat) : Int) by omega]
      have e3 : qEnd ((cl x).drop (n + 1)) = Option.map (· + j) (if ((cl x).drop (n + 1 + j))[q + 1]? = some 39 then (qEnd (((cl x).drop (n + 1 + j)).drop (q + 2))).map (· + (q + 2)) else some q) := e
      rw [List.getElem?_drop, show n + 1 + j + (q + 1) = n + 1 + j + q + 1 by omega] at e3
      refine ite2 (fun _ => ?_) (fun h => absurd (show (0 : Int) ≤ ((n + 1 + j + q : Nat) : Int) by omega) h)
      refine ⟨x, rfl, hsz, rfl, ite2 (fun h2 => ?_) (fun h2 => ?_)⟩
      · rw [V.str.injEq, show (⟨#[39]⟩ : Str) = mk [39] from rfl, cut_one (a := n + 1 + j + q + 1) rfl rfl] at h2
        have hlt := (List.getElem?_eq_some_iff.mp h2).1
        rw [if_pos h2, Option.map_map, List.drop_drop, show n + 1 + j + (q + 2) = n + 1 + (j + (q + 2)) by omega] at e3
        refine ⟨_, fun _ _ h => h, (cl x).length - (n + 1 + (j + (q + 2))), by omega, rfl, j + (q + 2), by omega, ?_, rfl, ?_⟩
        · rw [find_fi, show n + 1 + j + q + 1 + 1 = n + 1 + (j + (q + 2)) by omega]
        · rw [e3]
          congr 1
          funext z
          show z + (q + 2) + j = z + (j + (q + 2))
          omega
      · rw [V.str.injEq, show (⟨#[39]⟩ : Str) = mk [39] from rfl, cut_one (a := n + 1 + j + q + 1) rfl rfl] at h2
        rw [if_neg h2] at e3
        refine ite2 (fun h3 => absurd h3 (by omega)) (fun h3 => ?_)
        rw [show (n : Int) + 1 = ((n + 1 : Nat) : Int) by omega]
        refine ⟨x, rfl, hsz, _, rfl, ?_, by decide, fun t ht => ?_⟩
        · have := cutS_length x (some ((n + 1 : Nat) : Int)) (some ((n + 1 + j + q : Nat) : Int))
          show _ + (_ + 1) * 1 ≤ _
          omega
        · rw [show Txt.replace (cutS x (some ((n + 1 : Nat) : Int)) (some ((n + 1 + j + q : Nat) : Int))) (Str.ofString "''") ⟨#[39]⟩ = _ from rep_mk _]
          rw [cl_cut rfl rfl, show n + 1 + j + q - (n + 1) = q + j by omega, show n + 1 + j + q + 1 = n + (q + j + 2) by omega]
          exact k1 (q + j) e3 t ht
end

def sp_token_at (A : Ad) : Sp := fun vs H Q E => ∃ (x : Str) (n : Nat), vs = [.str x, .int n] ∧ n < (cl x).length ∧ x.length ≤ 100000 ∧
  (∀ kd v k, tokL ((cl x).drop n) = some (kd, v, k) → ∀ t, H t = none → Q (.ref t) (upd H t (.tup [.str kd, v, .int ((n + k : Nat) : Int)]))) ∧
  (tokL ((cl x).drop n) = none → ∀ dd, H dd = none → E (.ref A.C_Malformed) (some dd) (upd H dd (.xd [("at", .int (n : Int))])))
theorem sp_token_at_len {A vs H Q E} (h : sp_token_at A vs H Q E) : vs.length = (["source", "at"] : List Str).length := by
  obtain ⟨_, _, rfl, _⟩ := h
  rfl
section
variable {P : Program} {w : World} {K : PySem.W.Frag} {mg : Str → Option Value} {base : Heap} {A : Ad}
theorem ok_token_at (T : Txt K mg A) : FnOk P w K mg base (L2N.CX P w) 6 A.f_token_at A.d_token_at ["source", "at"] (sp_token_at A) := by
  refine okN T.F_token_at sc_token_at (fun vs H Q E h => ?_) (fun cdv Ar outer s H vs Q E hr h => ?_)
  · exact sp_token_at_len h
  · have hu := hu_of hr
    refine ⟨_, (pss_cons (ps_asg (pe_item_str (pv 0) (pv 1) (fun _ _ => rfl)) (pg_name (i := 2) sc_token_at.nd rfl (Or.inl rfl)))
    (pss_cons (ps_if (pt_cmpR op_in_sign (pv 2) (pe_glob (v := .str "abcdefghijklmnopqrstuvwxyzABCDEFGHIJKLMNOPQRSTUVWXYZ") (by rfl) T.c_LETTERS ⟨_, rfl⟩) (by rfl)) (pss_one (ps_ret (pe_callS (ok_named T) (hr.mono (by decide)) (by rfl) T.g_named T.k_named T.b_named (fun σ => L2N.passAt (L2N.takes_of rfl rfl rfl rfl) σ) (pa_cons (pv 0) (pa_cons (pv 1) pa_nil))))) pss_nil)
    (pss_cons (ps_if (pt_cmpR op_in_sign (pv 2) (pe_glob (v := .str "0123456789") (by rfl) T.c_DIGITS ⟨_, rfl⟩) (by rfl)) (pss_one (ps_ret (pe_callS (ok_numbered T) (hr.mono (by decide)) (by rfl) T.g_numbered T.k_numbered T.b_numbered (fun σ => L2N.passAt (L2N.takes_of rfl rfl rfl rfl) σ) (pa_cons (pv 0) (pa_cons (pv 1) pa_nil))))) pss_nil)
    (pss_cons (ps_if (pt_cmpR op_eq (pv 2) pe_str (nomark _)) (pss_one (ps_ret (pe_callS (ok_hashed T) (hr.mono (by decide)) (by rfl) T.g_hashed T.k_hashed T.b_hashed (fun σ => L2N.passAt (L2N.takes_of rfl rfl rfl rfl) σ) (pa_cons (pv 0) (pa_cons (pv 1) pa_nil))))) pss_nil)
    (pss_cons (ps_if (pt_cmpR op_eq (pv 2) pe_str (nomark _)) (pss_one (ps_ret (pe_callS (ok_quoted T) (hr.mono (by decide)) (by rfl) T.g_quoted T.k_quoted T.b_quoted (fun σ => L2N.passAt (L2N.takes_of rfl rfl rfl rfl) σ) (pa_cons (pv 0) (pa_cons (pv 1) pa_nil))))) pss_nil)
    (pss_cons (ps_if (pt_cmpR op_in_sign (pv 2) (pe_glob (v := .str "+-*/<>=~&,@") (by rfl) T.c_SIGNS ⟨_, rfl⟩) (by rfl)) (pss_one (ps_ret (pe_call (ok_signed T) (hr.mono (by decide)) (by rfl) T.g_signed T.k_signed T.b_signed .nil pass0 (pa_cons (pv 0) (pa_cons (pv 1) pa_nil))))) pss_nil)
    (pss_cons (ps_if (pt_cmpR op_eq (pe_slice sl_str (pv 0) (po_some (pv 1)) (po_some (pe_op op_add (pv 1) pe_int))) pe_str (nomark _)) (pss_one (ps_ret (pe_tup (pa_cons pe_str (pa_cons pe_str (pa_cons (pe_op op_add (pv 1) pe_int) pa_nil)))))) pss_nil)
    (pss_cons (ps_if (pt_cmpR op_in_sign (pv 2) (pe_glob (v := .str ":^.|()[]") (by rfl) T.c_MARKS ⟨_, rfl⟩) (by rfl)) (pss_one (ps_ret (pe_tup (pa_cons pe_str (pa_cons (pv 2) (pa_cons (pe_op op_add (pv 1) pe_int) pa_nil)))))) pss_nil)
    (pss_one (ps_rz1 rfl T.x_Malformed (ok_Malformed___init__ T) (hr.mono (by decide)) T.b_Malformed___init__ (L2N.takes_of rfl rfl rfl rfl) (by rfl) T.m_Malformed (pa_cons (pv 1) pa_nil))))))))))), ?_⟩
    obtain ⟨x, n, rfl, hn, hx, k1, k2⟩ := h
    have hl := len_cl x
    have hsz : x.length ≤ sizeLine := Nat.le_trans hx (by decide)
    simp (config := { maxSteps := 4000000 }) only [tSeq, tNext, tDrop, tRet, tRetN, tIfS, tAsg, tTest, tAnd, tOr, tNot, tAndV, tOrV, tNotV, tIf, tOp, tUn, tVar, tC, tCB, tCons, tNil, tCall, tPart, tNoPart, tM0, tM1, tTup, tLst, tB, tIsN, tNotN, rI0, rI, rU, rEq, rNe, rAdd, gName, gTup, gCons, gNil, gSub, rSetL, rIxL, rIxT, rIxS, L2.start,
      List.map_cons, List.map_nil, List.cons_append, List.nil_append, List.append_nil, List.length_cons, List.length_nil, List.replicate, List.getElem?_cons_zero, List.getElem?_cons_succ, List.set_cons_zero, List.set_cons_succ, Nat.reduceAdd, Nat.reduceSub, Nat.sub_self, Nat.zero_add,
      Option.some.injEq, V.int.injEq, V.str.injEq, V.bl.injEq, V.ref.injEq, V.ty.injEq, List.cons.injEq, and_true, true_and, exists_eq_left, exists_eq_left', exists_eq_right, exists_and_left, exists_and_right, exists_const, decide_eq_true_eq, decide_eq_false_iff_not, if_true, if_false, reduceIte, Bool.false_eq_true, Bool.not_eq_true', sc_ii, sc_ss, sc_bb, str1, cx_K, lstAt, rIxM, rSetM, rLenM, atI_0, atI_1, atI_2, atI_3, setI_0, setI_1, setI_2, setI_3, upd_same, upd_upd, ite_true, ite_false, exists_eq', eq_self, and_assoc, rIsS, isTy_bb, isTy_bi, isTy_ib, isTy_ii, isTy_ss, isTy_nb, isTy_ni, Bool.not_true, Bool.not_false, not_true_eq_false, not_false_eq_true, tChain, tRz1, tRz2, rIsX, tFx, tMethE, tCallS, tCallZ, tMeth, tMake, tFld, sFld, HO.ins.injEq, HO.lst.injEq, HO.dK.injEq, HO.tup.injEq, dcAt, dcRd, rDInM, rDGetM, rDSetM, rDLenM, keyOf_int, keyOf_str, rIsBM, plainV_b, plainV_i, plainV_n, plainV_s, rInM, rListM, rSortM, rSumM, rIsD, tBMM, tBM0M, tSl, rSlM, rAppend, rPop, rClear, wAs, reduceCtorEq, false_implies, true_implies, implies_true, forall_const, cxH_K, clsV_ref, clsV_ty, HO.xd.injEq, Value.ref.injEq, lkc, lkn, pfn, pfc, List.map_nil, rExtend, rCat, rRep, tMethE0, rSortD, rPush, rPopH, tDGetM, gAll, iRev, tCB, sDDel, wPair, tBreak, tDelT, rDLenR, tMethN, tSl, tPart]
    have hc : x.cps[((n : Nat) : Int).toNat]? = some ((cl x)[n]) := by
      rw [Int.toNat_natCast, at_cl, List.getElem?_eq_getElem hn]
    refine ⟨by omega, by omega, by omega, _, hc, ?_⟩
    have hd : (cl x).drop n = (cl x)[n] :: (cl x).drop (n + 1) := List.drop_eq_getElem_cons hn
    have hget : (cl x)[n]? = some ((cl x)[n]) := List.getElem?_eq_getElem hn
    rw [hd] at k1 k2
    have hr0 : ((cl x).drop (n + 1))[0]? = (cl x)[n + 1]? := by rw [List.getElem?_drop, Nat.add_zero]
    generalize hcd : (cl x)[n] = c at *
    refine ite2 (fun h1 => ?_) (fun h1 => ite2 (fun h2 => ?_) (fun h2 => ite2 (fun h3 => ?_) (fun h3 => ite2 (fun h4 => ?_) (fun h4 => ite2 (fun h5 => ?_) (fun h5 => ?_)))))
    · have e : tokL (c :: (cl x).drop (n + 1)) = (if nameLen (c :: (cl x).drop (n + 1)) = 0 then none else if kwLen (c :: (cl x).drop (n + 1)) ≠ 0 then some ("keyword", .str (mk ((c :: (cl x).drop (n + 1)).take (nameLen (c :: (cl x).drop (n + 1)) + 1))), nameLen (c :: (cl x).drop (n + 1)) + 1) else some ("name", .str (mk ((c :: (cl x).drop (n + 1)).take (nameLen (c :: (cl x).drop (n + 1))))), nameLen (c :: (cl x).drop (n + 1))) : Option (Str × V × Nat)) := if_pos (decide_eq_true h1)
      exact ⟨x, n, _, rfl, Nat.le_of_lt hn, hx, hd, fun a b t ht => k1 _ _ _ (e.trans ((if_neg a).trans (if_pos b))) t ht, fun a b t ht => k1 _ _ _ (e.trans ((if_neg a).trans (if_neg (fun z => z b)))) t ht, fun a dd hdd => k2 (e.trans (if_pos a)) dd hdd⟩
    · have hL : ¬ isL c = true := fun z => h1 (of_decide_eq_true z)
      have hD : isD c = true := decide_eq_true h2
      have hrun : run (c :: (cl x).drop (n + 1)) ≠ 0 := by
        rw [run_cons, if_pos ((isLD_iff c).mpr (Or.inr h2))]
        omega
      have e : tokL (c :: (cl x).drop (n + 1)) = (if numOk ((c :: (cl x).drop (n + 1)).take (run (c :: (cl x).drop (n + 1)))) = true then some ("number", .int (numOf ((c :: (cl x).drop (n + 1)).take (run (c :: (cl x).drop (n + 1))))), run (c :: (cl x).drop (n + 1))) else none : Option (Str × V × Nat)) := (if_neg hL).trans (if_pos hD)
      exact ⟨x, n, _, rfl, Nat.le_of_lt hn, hx, hd, hrun, fun a t ht => k1 _ _ _ (e.trans (if_pos a)) t ht, fun a dd hdd => k2 (e.trans (if_neg (by rw [a]; exact Bool.false_ne_true))) dd hdd⟩
    all_goals
      have hL : ¬ isL c = true := fun z => h1 (of_decide_eq_true z)
      have hD : ¬ isD c = true := fun z => h2 (of_decide_eq_true z)
    · have h35 : c = 35 := one_iff.mp (show (⟨#[c]⟩ : Str) = ⟨#[35]⟩ from h3)
      have e : tokL (c :: (cl x).drop (n + 1)) = (if hashLen ((cl x).drop (n + 1)) ≠ 0 then some ("symbol", .str (mk (((cl x).drop (n + 1)).take (hashLen ((cl x).drop (n + 1))))), hashLen ((cl x).drop (n + 1)) + 1) else none : Option (Str × V × Nat)) := (if_neg hL).trans ((if_neg hD).trans (if_pos h35))
      exact ⟨x, n, _, rfl, by omega, hx, rfl, fun a t ht => k1 _ _ _ (e.trans (if_pos a)) t ht, fun a dd hdd => k2 (e.trans (if_neg fun z => z a)) dd hdd⟩
    all_goals
      have h35 : ¬ c = 35 := fun z => h3 (by rw [z]; rfl)
    · have h39 : c = 39 := one_iff.mp (show (⟨#[c]⟩ : Str) = ⟨#[39]⟩ from h4)
      have e : tokL (c :: (cl x).drop (n + 1)) = (match qEnd ((cl x).drop (n + 1)) with | none => none | some k => some ("symbol", .str (mk (rep2 (((cl x).drop (n + 1)).take k))), k + 2) : Option (Str × V × Nat)) := (if_neg hL).trans ((if_neg hD).trans ((if_neg h35).trans (if_pos h39)))
      exact ⟨x, n, _, rfl, by omega, hx, rfl, fun k a t ht => k1 _ _ _ (by rw [e, a]) t ht, fun a dd hdd => k2 (by rw [e, a]) dd hdd⟩
    all_goals
      have h39 : ¬ c = 39 := fun z => h4 (by rw [z]; rfl)
    · have e : tokL (c :: (cl x).drop (n + 1)) = (some ("sign", .str (mk ((c :: (cl x).drop (n + 1)).take (signLen (c :: (cl x).drop (n + 1))))), signLen (c :: (cl x).drop (n + 1))) : Option (Str × V × Nat)) := (if_neg hL).trans ((if_neg hD).trans ((if_neg h35).trans ((if_neg h39).trans (if_pos h5))))
      refine ⟨x, n, rfl, hn, hx, fun t ht => ?_⟩
      rw [hd]
      exact k1 _ _ _ e t ht
    · have e : tokL (c :: (cl x).drop (n + 1)) = (if c = 58 ∧ ((cl x).drop (n + 1))[0]? = some 61 then some ("mark", .str ":=", 2) else if c ∈ cM then some ("mark", .str (mk [c]), 1) else none : Option (Str × V × Nat)) := (if_neg hL).trans ((if_neg hD).trans ((if_neg h35).trans ((if_neg h39).trans (if_neg h5))))
      refine ⟨x, rfl, hsz, rfl, ite2 (fun h6 => ⟨by decide, fun t ht => ?_⟩) (fun h6 => ite2 (fun h7 => ⟨by decide, fun t ht => ?_⟩) (fun h7 => k2 ?_))⟩
      · rw [V.str.injEq, show Str.ofString ":=" = mk [58, 61] from rfl, cut_two (a := n) rfl (by omega), hget] at h6
        exact k1 _ _ _ (e.trans (if_pos ⟨Option.some.inj h6.1, hr0.trans h6.2⟩)) t ht
      · rw [V.str.injEq, show Str.ofString ":=" = mk [58, 61] from rfl, cut_two (a := n) rfl (by omega), hget] at h6
        exact k1 _ _ _ (e.trans ((if_neg fun z => h6 ⟨congrArg some z.1, hr0.symm.trans z.2⟩).trans (if_pos h7))) t ht
      · rw [V.str.injEq, show Str.ofString ":=" = mk [58, 61] from rfl, cut_two (a := n) rfl (by omega), hget] at h6
        exact e.trans ((if_neg fun z => h6 ⟨congrArg some z.1, hr0.symm.trans z.2⟩).trans (if_neg h7))
end

def sp_tokens_of (A : Ad) : Sp := fun vs H Q E => ∃ (x : Str), vs = [.str x] ∧ x.length ≤ 100000 ∧
  (4000 < x.length → ∀ dd, H dd = none → E (.ref A.C_Oversized) (some dd) (upd H dd (.xd [("limit", .str "source")]))) ∧
  (x.length ≤ 4000 → (∀ ts b p H', Til (cl x) 0 ts b → skip ((cl x).drop b) = ((cl x).length - b, true) → b ≤ (cl x).length → TkAt H' p ts → Kp H H' → Q (.ref p) H') ∧
    (∀ ts b j H', Til (cl x) 0 ts b → b + j ≤ (cl x).length → (skip ((cl x).drop b) = (j, false) ∨ (skip ((cl x).drop b) = (j, true) ∧ b + j < (cl x).length ∧ tokL ((cl x).drop (b + j)) = none)) → Kp H H' →
      ∀ dd, H' dd = none → E (.ref A.C_Malformed) (some dd) (upd H' dd (.xd [("at", .int ((b + j : Nat) : Int))]))))
theorem sp_tokens_of_len {A vs H Q E} (h : sp_tokens_of A vs H Q E) : vs.length = (["source"] : List Str).length := by
  obtain ⟨_, rfl, _⟩ := h
  rfl
section
variable {P : Program} {w : World} {K : PySem.W.Frag} {mg : Str → Option Value} {base : Heap} {A : Ad}
theorem ok_tokens_of (T : Txt K mg A) : FnOk P w K mg base (L2N.CX P w) 7 A.f_tokens_of A.d_tokens_of ["source"] (sp_tokens_of A) := by
  refine okN T.F_tokens_of sc_tokens_of (fun vs H Q E h => ?_) (fun cdv Ar outer s H vs Q E hr h => ?_)
  · exact sp_tokens_of_len h
  · have hu := hu_of hr
    refine ⟨_, (pss_cons (ps_if (pt_cmpR op_gt (pe_callB call_len_str (by rfl) T.z_len PySem.boot_len (pa_cons (pv 0) pa_nil)) (pe_glob (v := .int (4000)) (by rfl) T.c_LONGEST_SOURCE ⟨_, rfl⟩) (nomark _)) (pss_one (ps_rz1 rfl T.x_Oversized (ok_Oversized___init__ T) (hr.mono (by decide)) T.b_Oversized___init__ (L2N.takes_of rfl rfl rfl rfl) (by rfl) T.m_Oversized (pa_cons pe_str pa_nil))) pss_nil)
    (pss_cons (ps_asg (pe_lst pa_nil) (pg_name (i := 1) sc_tokens_of.nd rfl (Or.inl rfl)))
    (pss_cons (ps_asg (pe_callS (ok_skipped T) (hr.mono (by decide)) (by rfl) T.g_skipped T.k_skipped T.b_skipped (fun σ => L2N.passAt (L2N.takes_of rfl rfl rfl rfl) σ) (pa_cons (pv 0) (pa_cons pe_int pa_nil))) (pg_name (i := 2) sc_tokens_of.nd rfl (Or.inl rfl)))
    (pss_cons (ps_while (L2.passes_of rfl) (pt_cmpR op_lt (pv 2) (pe_callB call_len_str (by rfl) T.z_len PySem.boot_len (pa_cons (pv 0) pa_nil)) (nomark _)) (pss_cons (ps_asg (pe_callS (ok_token_at T) (hr.mono (by decide)) (by rfl) T.g_token_at T.k_token_at T.b_token_at (fun σ => L2N.passAt (L2N.takes_of rfl rfl rfl rfl) σ) (pa_cons (pv 0) (pa_cons (pv 2) pa_nil))) (pg_tup (by rfl) (pgs_cons (pg_name (i := 3) sc_tokens_of.nd rfl (Or.inl rfl)) (pgs_cons (pg_name (i := 4) sc_tokens_of.nd rfl (Or.inl rfl)) (pgs_cons (pg_name (i := 5) sc_tokens_of.nd rfl (Or.inl rfl)) pgs_nil)))))
    (pss_cons (ps_expr (pe_bmM PySem.F.slot_list_append PySem.F.type_list_append mt_append (pv 1) (pa_cons (pe_tup (pa_cons (pv 2) (pa_cons (pv 3) (pa_cons (pv 4) pa_nil)))) pa_nil)))
    (pss_one (ps_asg (pe_callS (ok_skipped T) (hr.mono (by decide)) (by rfl) T.g_skipped T.k_skipped T.b_skipped (fun σ => L2N.passAt (L2N.takes_of rfl rfl rfl rfl) σ) (pa_cons (pv 0) (pa_cons (pv 5) pa_nil))) (pg_name (i := 2) sc_tokens_of.nd rfl (Or.inl rfl)))))))
    (pss_one (ps_ret (pv 1))))))), ?_⟩
    obtain ⟨x, rfl, hx, k1, k2⟩ := h
    have hl := len_cl x
    have hsz : x.length ≤ sizeLine := Nat.le_trans hx (by decide)
    simp (config := { maxSteps := 4000000 }) only [tSeq, tNext, tDrop, tRet, tRetN, tIfS, tAsg, tTest, tAnd, tOr, tNot, tAndV, tOrV, tNotV, tIf, tOp, tUn, tVar, tC, tCB, tCons, tNil, tCall, tPart, tNoPart, tM0, tM1, tTup, tLst, tB, tIsN, tNotN, rI0, rI, rU, rEq, rNe, rAdd, gName, gTup, gCons, gNil, gSub, rSetL, rIxL, rIxT, rIxS, L2.start,
      List.map_cons, List.map_nil, List.cons_append, List.nil_append, List.append_nil, List.length_cons, List.length_nil, List.replicate, List.getElem?_cons_zero, List.getElem?_cons_succ, List.set_cons_zero, List.set_cons_succ, Nat.reduceAdd, Nat.reduceSub, Nat.sub_self, Nat.zero_add,
      Option.some.injEq, V.int.injEq, V.str.injEq, V.bl.injEq, V.ref.injEq, V.ty.injEq, List.cons.injEq, and_true, true_and, exists_eq_left, exists_eq_left', exists_eq_right, exists_and_left, exists_and_right, exists_const, decide_eq_true_eq, decide_eq_false_iff_not, if_true, if_false, reduceIte, Bool.false_eq_true, Bool.not_eq_true', sc_ii, sc_ss, sc_bb, str1, cx_K, lstAt, rIxM, rSetM, rLenM, atI_0, atI_1, atI_2, atI_3, setI_0, setI_1, setI_2, setI_3, upd_same, upd_upd, ite_true, ite_false, exists_eq', eq_self, and_assoc, rIsS, isTy_bb, isTy_bi, isTy_ib, isTy_ii, isTy_ss, isTy_nb, isTy_ni, Bool.not_true, Bool.not_false, not_true_eq_false, not_false_eq_true, tChain, tRz1, tRz2, rIsX, tFx, tMethE, tCallS, tCallZ, tMeth, tMake, tFld, sFld, HO.ins.injEq, HO.lst.injEq, HO.dK.injEq, HO.tup.injEq, dcAt, dcRd, rDInM, rDGetM, rDSetM, rDLenM, keyOf_int, keyOf_str, rIsBM, plainV_b, plainV_i, plainV_n, plainV_s, rInM, rListM, rSortM, rSumM, rIsD, tBMM, tBM0M, tSl, rSlM, rAppend, rPop, rClear, wAs, reduceCtorEq, false_implies, true_implies, implies_true, forall_const, cxH_K, clsV_ref, clsV_ty, HO.xd.injEq, Value.ref.injEq, lkc, lkn, pfn, pfc, List.map_nil, rExtend, rCat, rRep, tMethE0, rSortD, rPush, rPopH, tDGetM, gAll, iRev, tCB, sDDel, wPair, tBreak, tDelT, rDLenR, tMethN, tSl, tPart]
    refine ⟨hsz, ite2 (fun h1 => k1 (by omega)) (fun h1 => ⟨Nat.zero_le _, fun p hp => ?_⟩)⟩
    obtain ⟨k3, k4⟩ := k2 (by omega)
    have hK : Kp H (upd H p (.lst [])) := Kp.new hp
    refine ⟨x, 0, rfl, Nat.zero_le _, hx, fun hs => ?_, fun hs dd hdd => k4 [] 0 (skip ((cl x).drop 0)).1 _ (.nil 0) (by have := skip_le ((cl x).drop 0); rw [List.length_drop] at this; omega) (.inl (Prod.ext rfl hs)) hK dd hdd⟩
    refine ⟨fun m σ H' => ∃ (ts : List (Nat × Str × V)) (b j : Nat) (c1 c2 c3 : Option V), σ = [some (.str x), some (.ref p), some (.int ((b + j : Nat) : Int)), c1, c2, c3] ∧ Til (cl x) 0 ts b ∧ skip ((cl x).drop b) = (j, true) ∧ b ≤ (cl x).length ∧ TkAt H' p ts ∧ ts.length ≤ b ∧ Kp H H' ∧ m = (cl x).length - b, ⟨(cl x).length - 0, [], 0, (skip ((cl x).drop 0)).1, none, none, none, rfl, .nil 0, Prod.ext rfl hs, Nat.zero_le _, ⟨[], upd_same, rfl, fun i t h => by cases h⟩, Nat.le_refl _, hK, rfl⟩, ?_⟩
    rintro m σ H1 ⟨ts, b, j, c1, c2, c3, rfl, T1, hs, hb, Tk, hts, K1, rfl⟩
    simp (config := { maxSteps := 4000000 }) only [tSeq, tNext, tDrop, tRet, tRetN, tIfS, tAsg, tTest, tAnd, tOr, tNot, tAndV, tOrV, tNotV, tIf, tOp, tUn, tVar, tC, tCB, tCons, tNil, tCall, tPart, tNoPart, tM0, tM1, tTup, tLst, tB, tIsN, tNotN, rI0, rI, rU, rEq, rNe, rAdd, gName, gTup, gCons, gNil, gSub, rSetL, rIxL, rIxT, rIxS, L2.start,
      List.map_cons, List.map_nil, List.cons_append, List.nil_append, List.append_nil, List.length_cons, List.length_nil, List.replicate, List.getElem?_cons_zero, List.getElem?_cons_succ, List.set_cons_zero, List.set_cons_succ, Nat.reduceAdd, Nat.reduceSub, Nat.sub_self, Nat.zero_add,
      Option.some.injEq, V.int.injEq, V.str.injEq, V.bl.injEq, V.ref.injEq, V.ty.injEq, List.cons.injEq, and_true, true_and, exists_eq_left, exists_eq_left', exists_eq_right, exists_and_left, exists_and_right, exists_const, decide_eq_true_eq, decide_eq_false_iff_not, if_true, if_false, reduceIte, Bool.false_eq_true, Bool.not_eq_true', sc_ii, sc_ss, sc_bb, str1, cx_K, lstAt, rIxM, rSetM, rLenM, atI_0, atI_1, atI_2, atI_3, setI_0, setI_1, setI_2, setI_3, upd_same, upd_upd, ite_true, ite_false, exists_eq', eq_self, and_assoc, rIsS, isTy_bb, isTy_bi, isTy_ib, isTy_ii, isTy_ss, isTy_nb, isTy_ni, Bool.not_true, Bool.not_false, not_true_eq_false, not_false_eq_true, tChain, tRz1, tRz2, rIsX, tFx, tMethE, tCallS, tCallZ, tMeth, tMake, tFld, sFld, HO.ins.injEq, HO.lst.injEq, HO.dK.injEq, HO.tup.injEq, dcAt, dcRd, rDInM, rDGetM, rDSetM, rDLenM, keyOf_int, keyOf_str, rIsBM, plainV_b, plainV_i, plainV_n, plainV_s, rInM, rListM, rSortM, rSumM, rIsD, tBMM, tBM0M, tSl, rSlM, rAppend, rPop, rClear, wAs, reduceCtorEq, false_implies, true_implies, implies_true, forall_const, cxH_K, clsV_ref, clsV_ty, HO.xd.injEq, Value.ref.injEq, lkc, lkn, pfn, pfc, List.map_nil, rExtend, rCat, rRep, tMethE0, rSortD, rPush, rPopH, tDGetM, gAll, iRev, tCB, sDDel, wPair, tBreak, tDelT, rDLenR, tMethN, tSl, tPart]
    have hjl := skip_le ((cl x).drop b)
    rw [List.length_drop, hs] at hjl
    have hjl' : j ≤ (cl x).length - b := hjl
    refine ⟨hsz, ite2 (fun h2 => ?_) (fun h2 => ?_)⟩
    · have hlt : b + j < (cl x).length := by omega
      refine ⟨_, fun _ _ h => h, x, b + j, rfl, hlt, hx, fun kd v k htk a ha => ?_, fun htk dd hdd => k4 ts b j _ T1 (by omega) (.inr ⟨hs, hlt, htk⟩) K1 dd hdd⟩
      have hk := tokL_le htk
      rw [List.length_drop] at hk
      obtain ⟨vs, hv, hvl, hvt⟩ := Tk
      have pa : p ≠ a := ne_of_none hv ha
      refine ⟨a, rfl, _, .inl (.inl upd_same), rfl, _, _, rfl, _, _, rfl, _, _, rfl, rfl, ?_⟩
      rw [upd_ne pa, hv]
      refine ⟨by decide, fun q hq => ?_⟩
      have pq : p ≠ q := ne_of_none (show upd H1 a _ p = some (.lst vs) by rw [upd_ne pa]; exact hv) hq
      have TK2 := TkAt.push (n := b + j) (kd := kd) (v := v) hv hvl hvt ha hq
      have hK2 := Kp.at (o := .lst (vs ++ [.ref q])) hp ((K1.trans (Kp.new ha)).trans (Kp.new (o := .tup [.int ((b + j : Nat) : Int), .str kd, v]) hq))
      have T2 := T1.snoc hs hlt htk
      have hl2 := skip_le ((cl x).drop (b + j + k))
      rw [List.length_drop] at hl2
      have hlen2 : (ts ++ [(b + j, kd, v)]).length = ts.length + 1 := by
        rw [List.length_append]
        rfl
      refine ⟨vs, by rw [upd_ne pq, upd_ne pa]; exact hv, ?_, x, b + j + k, rfl, by omega, hx, fun hs2 => ?_, fun hs2 dd hdd => k4 _ (b + j + k) (skip ((cl x).drop (b + j + k))).1 _ T2 (by omega) (.inl (Prod.ext rfl hs2)) hK2 dd hdd⟩
      · have : (100000 : Nat) < sizeLine := by decide
        omega
      · exact ⟨(cl x).length - (b + j + k), by omega, ts ++ [(b + j, kd, v)], b + j + k, (skip ((cl x).drop (b + j + k))).1, ⟨_, _, _, rfl⟩, T2, Prod.ext rfl hs2, by omega, TK2, by omega, hK2, rfl⟩
    · have ej : j = (cl x).length - b := by omega
      rw [ej] at hs
      exact k3 ts b p H1 T1 hs hb Tk K1
end

def sp_start (K : PySem.W.Frag) : Sp := fun vs H Q _ => ∃ (a : Addr), vs = [.ref a] ∧ ∀ p, H p = none → Q (.ref p) (upd H p (.lst [.ref a, .int 0, .int 0, .int 7]))
theorem sp_start_len {K vs H Q E} (h : sp_start K vs H Q E) : vs.length = (["script"] : List Str).length := by
  obtain ⟨_, rfl, _⟩ := h
  rfl
section
variable {P : Program} {w : World} {K : PySem.W.Frag} {mg : Str → Option Value} {base : Heap} {A : Ad}
theorem ok__law_start (T : Txt K mg A) : FnOk P w K mg base CX0 1 A.f__law_start A.d__law_start ["script"] (sp_start K) := by
  refine Fun.ok T.F__law_start sc__law_start (fun vs H Q E h => ?_) (fun cdv Ar outer s H vs Q E hr h => ?_)
  · exact sp_start_len h
  · have hu := hu_of hr
    refine ⟨_, (pss_one (ps_ret (pe_lst (pa_cons (pv 0) (pa_cons pe_int (pa_cons pe_int (pa_cons pe_int pa_nil))))))), ?_⟩
    obtain ⟨a, rfl, k⟩ := h
    simp (config := { maxSteps := 4000000 }) only [tSeq, tNext, tDrop, tRet, tRetN, tIfS, tAsg, tTest, tAnd, tOr, tNot, tAndV, tOrV, tNotV, tIf, tOp, tUn, tVar, tC, tCB, tCons, tNil, tCall, tPart, tNoPart, tM0, tM1, tTup, tLst, tB, tIsN, tNotN, rI0, rI, rU, rEq, rNe, rAdd, gName, gTup, gCons, gNil, gSub, rSetL, rIxL, rIxT, rIxS, L2.start,
      List.map_cons, List.map_nil, List.cons_append, List.nil_append, List.append_nil, List.length_cons, List.length_nil, List.replicate, List.getElem?_cons_zero, List.getElem?_cons_succ, List.set_cons_zero, List.set_cons_succ, Nat.reduceAdd, Nat.reduceSub, Nat.sub_self, Nat.zero_add,
      Option.some.injEq, V.int.injEq, V.str.injEq, V.bl.injEq, V.ref.injEq, V.ty.injEq, List.cons.injEq, and_true, true_and, exists_eq_left, exists_eq_left', exists_eq_right, exists_and_left, exists_and_right, exists_const, decide_eq_true_eq, decide_eq_false_iff_not, if_true, if_false, reduceIte, Bool.false_eq_true, Bool.not_eq_true', sc_ii, sc_ss, sc_bb, str1, cx_K, lstAt, rIxM, rSetM, rLenM, atI_0, atI_1, atI_2, atI_3, setI_0, setI_1, setI_2, setI_3, upd_same, upd_upd, ite_true, ite_false, exists_eq', eq_self, and_assoc, rIsS, isTy_bb, isTy_bi, isTy_ib, isTy_ii, isTy_ss, isTy_nb, isTy_ni, Bool.not_true, Bool.not_false, not_true_eq_false, not_false_eq_true, tChain, tRz1, tRz2, rIsX, tFx, tMethE, tCallS, tCallZ, tMeth, tMake, tFld, sFld, HO.ins.injEq, HO.lst.injEq, HO.dK.injEq, HO.tup.injEq, dcAt, dcRd, rDInM, rDGetM, rDSetM, rDLenM, keyOf_int, keyOf_str, rIsBM, plainV_b, plainV_i, plainV_n, plainV_s, rInM, rListM, rSortM, rSumM, rIsD, tBMM, tBM0M, tSl, rSlM, rAppend, rPop, rClear, wAs, reduceCtorEq, false_implies, true_implies, implies_true, forall_const, cxH_K, clsV_ref, clsV_ty, HO.xd.injEq, Value.ref.injEq, lkc, lkn, pfn, pfc, List.map_nil, rExtend, rCat, rRep, tMethE0, rSortD, rPush, rPopH, tDGetM, gAll, iRev, tCB, sDDel, wPair, tBreak, tDelT, rDLenR, tMethN]
    exact ⟨by decide, fun p hp => k p hp⟩
end

/-- what the drawing's list holds at p -/
def StAt (K : PySem.W.Frag) (H : Hp) (p : Addr) : Prop := ∃ (a : Addr) (ns : List Int) (i : Nat) (b s : Int), H p = some (.lst [.ref a, .int i, .int b, .int s]) ∧ SqL K H a (ns.map V.int) ∧ 0 ≤ b ∧ 0 ≤ s ∧ s < 4294967296
def But (p : Addr) (H H' : Hp) : Prop := ∀ q, q ≠ p → H' q = H q
/-- the script is another object than the drawing's list -/
theorem script_stays {K : PySem.W.Frag} {H H' : Hp} {p a : Addr} {ns : List Int} {z : Addr} {r : List V} (ha : SqL K H a (ns.map V.int)) (hp : H p = some (.lst (.ref z :: r))) (h : But p H H') : SqL K H' a (ns.map V.int) := by
  have ne : ∀ o, H a = some o → (∀ l, o = HO.lst l → l = ns.map V.int) → a ≠ p := fun o e hl z => by
    rw [z, hp] at e
    have e2 := Option.some.inj e
    have e3 := hl _ e2.symm
    cases ns with
    | nil => cases e3
    | cons n ns => cases e3
  rcases ha with (h1 | ⟨o, h1⟩) | h1
  · refine .inl (.inl ?_)
    rw [h a (ne _ h1 fun l e => by cases e; rfl)]
    exact h1
  · refine .inl (.inr ⟨o, ?_⟩)
    rw [h a (ne _ h1 fun l e => by cases e)]
    exact h1
  · exact .inr h1
def sp_pick (K : PySem.W.Frag) : Sp := fun vs H Q _ => ∃ (p : Addr) (lim : Int), vs = [.ref p, .int lim] ∧ StAt K H p ∧ 0 < lim ∧ lim < 1000000 ∧ ∀ d H', 0 ≤ d → d < lim → StAt K H' p → But p H H' → Q (.int d) H'
theorem sp_pick_len {K vs H Q E} (h : sp_pick K vs H Q E) : vs.length = (["state", "limit"] : List Str).length := by
  obtain ⟨_, _, rfl, _⟩ := h
  rfl
section
variable {P : Program} {w : World} {K : PySem.W.Frag} {mg : Str → Option Value} {base : Heap} {A : Ad}
theorem ok__law_pick (T : Txt K mg A) : FnOk P w K mg base CX0 1 A.f__law_pick A.d__law_pick ["state", "limit"] (sp_pick K) := by
  refine Fun.ok T.F__law_pick sc__law_pick (fun vs H Q E h => ?_) (fun cdv Ar outer s H vs Q E hr h => ?_)
  · exact sp_pick_len h
  · have hu := hu_of hr
    refine ⟨_, (Evl.pss_cut (ps_if (PW.pt (pw_and (pt_cmpR op_eq (pe_ix ix_lstM (pv 0) pe_int (fun _ _ => rfl)) pe_int (nomark _)) (pw_and1 (pt_cmpR op_lt (pe_ix ix_lstM (pv 0) pe_int (fun _ _ => rfl)) (pe_callB call_len_seq (by rfl) T.z_len PySem.boot_len (pa_cons (pe_ix ix_lstM (pv 0) pe_int (fun _ _ => rfl)) pa_nil)) (nomark _))))) (pss_cons (ps_asg (pe_callB call_abs (by rfl) T.z_abs (by decide +kernel) (pa_cons (pe_ix ix_list (pe_ix ix_lstM (pv 0) pe_int (fun _ _ => rfl)) (pe_ix ix_lstM (pv 0) pe_int (fun _ _ => rfl)) (fun _ _ => rfl)) pa_nil)) (pg_name (i := 2) sc__law_pick.nd rfl (Or.inl rfl)))
    (pss_cons (ps_asg (pe_op op_add (pe_ix ix_lstM (pv 0) pe_int (fun _ _ => rfl)) pe_int) (pg_sub (pv 0) pe_int set_lstM))
    (pss_one (ps_if (pt_cmpR op_ge (pv 2) (pe_op op_pow pe_int pe_int) (nomark _)) (pss_one (ps_asg (pv 2) (pg_sub (pv 0) pe_int set_lstM))) (pss_one (ps_asg (pe_op op_add (pe_op op_mod (pe_callTy call_intI (by rfl) T.z_int (by decide +kernel) (pa_cons (pe_op op_add (pe_op op_mul (pe_ix ix_lstM (pv 0) pe_int (fun _ _ => rfl)) pe_int) (pv 2)) pa_nil)) pe_int) pe_int) (pg_sub (pv 0) pe_int set_lstM))))))) pss_nil)
    (pss_cons (ps_if (pt_cmpR op_gt (pe_ix ix_lstM (pv 0) pe_int (fun _ _ => rfl)) pe_int (nomark _)) (pss_cons (ps_asg (pe_op op_mod (pe_callTy call_intI (by rfl) T.z_int (by decide +kernel) (pa_cons (pe_ix ix_lstM (pv 0) pe_int (fun _ _ => rfl)) pa_nil)) (pv 1)) (pg_name (i := 3) sc__law_pick.nd rfl (Or.inl rfl)))
    (pss_cons (ps_asg (pe_op op_fdiv (pe_ix ix_lstM (pv 0) pe_int (fun _ _ => rfl)) (pv 1)) (pg_sub (pv 0) pe_int set_lstM))
    (pss_one (ps_ret (pv 3))))) pss_nil)
    (pss_cons (ps_asg (pe_op op_mod (pe_callTy call_intI (by rfl) T.z_int (by decide +kernel) (pa_cons (pe_op op_mul (pe_ix ix_lstM (pv 0) pe_int (fun _ _ => rfl)) pe_int) pa_nil)) pe_int) (pg_sub (pv 0) pe_int set_lstM))
    (pss_one (ps_ret (pe_op op_mod (pe_callTy call_intI (by rfl) T.z_int (by decide +kernel) (pa_cons (pe_op op_add (pe_op op_fdiv (pe_ix ix_lstM (pv 0) pe_int (fun _ _ => rfl)) pe_int) (pe_op op_mod (pe_callTy call_intI (by rfl) T.z_int (by decide +kernel) (pa_cons (pe_op op_mul (pe_ix ix_lstM (pv 0) pe_int (fun _ _ => rfl)) (pe_ix ix_lstM (pv 0) pe_int (fun _ _ => rfl))) pa_nil)) pe_int)) pa_nil)) (pv 1))))))), ?_⟩
    obtain ⟨p, lim, rfl, ⟨a, ns, i, b, s0, hp, ha, hb, hs, hs2⟩, hl0, hl1, k⟩ := h
    refine ⟨fun σ' H' => ∃ (c : Option V) (i' : Nat) (b' s' : Int), σ' = [some (.ref p), some (.int lim), c, none] ∧ H' p = some (.lst [.ref a, .int i', .int b', .int s']) ∧ But p H H' ∧ 0 ≤ b' ∧ 0 ≤ s' ∧ s' < 4294967296, ?_, ?_⟩
    · simp (config := { maxSteps := 4000000 }) only [tSeq, tNext, tDrop, tRet, tRetN, tIfS, tAsg, tTest, tAnd, tOr, tNot, tAndV, tOrV, tNotV, tIf, tOp, tUn, tVar, tC, tCB, tCons, tNil, tCall, tPart, tNoPart, tM0, tM1, tTup, tLst, tB, tIsN, tNotN, rI0, rI, rU, rEq, rNe, rAdd, gName, gTup, gCons, gNil, gSub, rSetL, rIxL, rIxT, rIxS, L2.start,
      List.map_cons, List.map_nil, List.cons_append, List.nil_append, List.append_nil, List.length_cons, List.length_nil, List.replicate, List.getElem?_cons_zero, List.getElem?_cons_succ, List.set_cons_zero, List.set_cons_succ, Nat.reduceAdd, Nat.reduceSub, Nat.sub_self, Nat.zero_add,
      Option.some.injEq, V.int.injEq, V.str.injEq, V.bl.injEq, V.ref.injEq, V.ty.injEq, List.cons.injEq, and_true, true_and, exists_eq_left, exists_eq_left', exists_eq_right, exists_and_left, exists_and_right, exists_const, decide_eq_true_eq, decide_eq_false_iff_not, if_true, if_false, reduceIte, Bool.false_eq_true, Bool.not_eq_true', sc_ii, sc_ss, sc_bb, str1, cx_K, lstAt, rIxM, rSetM, rLenM, atI_0, atI_1, atI_2, atI_3, setI_0, setI_1, setI_2, setI_3, upd_same, upd_upd, ite_true, ite_false, exists_eq', eq_self, and_assoc, rIsS, isTy_bb, isTy_bi, isTy_ib, isTy_ii, isTy_ss, isTy_nb, isTy_ni, Bool.not_true, Bool.not_false, not_true_eq_false, not_false_eq_true, tChain, tRz1, tRz2, rIsX, tFx, tMethE, tCallS, tCallZ, tMeth, tMake, tFld, sFld, HO.ins.injEq, HO.lst.injEq, HO.dK.injEq, HO.tup.injEq, dcAt, dcRd, rDInM, rDGetM, rDSetM, rDLenM, keyOf_int, keyOf_str, rIsBM, plainV_b, plainV_i, plainV_n, plainV_s, rInM, rListM, rSortM, rSumM, rIsD, tBMM, tBM0M, tSl, rSlM, rAppend, rPop, rClear, wAs, reduceCtorEq, false_implies, true_implies, implies_true, forall_const, cxH_K, clsV_ref, clsV_ty, HO.xd.injEq, Value.ref.injEq, lkc, lkn, pfn, pfc, List.map_nil, rExtend, rCat, rRep, tMethE0, rSortD, rPush, rPopH, tDGetM, gAll, iRev, tCB, sDDel, wPair, tBreak, tDelT, rDLenR, tMethN, hp]
      have stay : (∃ x : Nat, (i : Int) = (x : Int)) ∧ But p H H ∧ 0 ≤ b ∧ 0 ≤ s0 ∧ s0 < 4294967296 := ⟨⟨i, rfl⟩, fun _ _ => rfl, hb, hs, hs2⟩
      refine ite2 (fun h1 => ?_) (fun h1 => stay)
      refine ⟨_, .inl ha, ite2 (fun h2 => ?_) (fun h2 => stay)⟩
      rw [List.length_map] at h2
      have hlt : i < ns.length := by omega
      have hat : atI (ns.map V.int) (i : Int) = some (.int ns[i]) := atI_nat (by rw [List.getElem?_map, List.getElem?_eq_getElem hlt]; rfl)
      generalize ns[i] = z at hat
      have hz : 0 ≤ (if z < 0 then -z else z) := by split <;> omega
      refine ⟨_, ha, _, hat, z, rfl, ⟨by decide, by decide, by decide⟩, ite2 (fun h3 => ?_) (fun h3 => ?_)⟩
      · exact ⟨⟨i + 1, rfl⟩, fun q hq => upd_ne hq, hz, hs, hs2⟩
      · refine ⟨.inr ⟨by decide, by decide⟩, by decide, ⟨i + 1, rfl⟩, fun q hq => upd_ne hq, hb, ?_, ?_⟩
        · have := Int.emod_nonneg (s0 * 48271 + if z < 0 then -z else z) (show (2147483646 : Int) ≠ 0 by decide)
          omega
        · have := Int.emod_lt_of_pos (s0 * 48271 + if z < 0 then -z else z) (show (0 : Int) < 2147483646 by decide)
          omega
    · rintro σ' H' ⟨c, i', b', s', rfl, hp', hbut, hb', hs', hs2'⟩
      simp (config := { maxSteps := 4000000 }) only [tSeq, tNext, tDrop, tRet, tRetN, tIfS, tAsg, tTest, tAnd, tOr, tNot, tAndV, tOrV, tNotV, tIf, tOp, tUn, tVar, tC, tCB, tCons, tNil, tCall, tPart, tNoPart, tM0, tM1, tTup, tLst, tB, tIsN, tNotN, rI0, rI, rU, rEq, rNe, rAdd, gName, gTup, gCons, gNil, gSub, rSetL, rIxL, rIxT, rIxS, L2.start,
      List.map_cons, List.map_nil, List.cons_append, List.nil_append, List.append_nil, List.length_cons, List.length_nil, List.replicate, List.getElem?_cons_zero, List.getElem?_cons_succ, List.set_cons_zero, List.set_cons_succ, Nat.reduceAdd, Nat.reduceSub, Nat.sub_self, Nat.zero_add,
      Option.some.injEq, V.int.injEq, V.str.injEq, V.bl.injEq, V.ref.injEq, V.ty.injEq, List.cons.injEq, and_true, true_and, exists_eq_left, exists_eq_left', exists_eq_right, exists_and_left, exists_and_right, exists_const, decide_eq_true_eq, decide_eq_false_iff_not, if_true, if_false, reduceIte, Bool.false_eq_true, Bool.not_eq_true', sc_ii, sc_ss, sc_bb, str1, cx_K, lstAt, rIxM, rSetM, rLenM, atI_0, atI_1, atI_2, atI_3, setI_0, setI_1, setI_2, setI_3, upd_same, upd_upd, ite_true, ite_false, exists_eq', eq_self, and_assoc, rIsS, isTy_bb, isTy_bi, isTy_ib, isTy_ii, isTy_ss, isTy_nb, isTy_ni, Bool.not_true, Bool.not_false, not_true_eq_false, not_false_eq_true, tChain, tRz1, tRz2, rIsX, tFx, tMethE, tCallS, tCallZ, tMeth, tMake, tFld, sFld, HO.ins.injEq, HO.lst.injEq, HO.dK.injEq, HO.tup.injEq, dcAt, dcRd, rDInM, rDGetM, rDSetM, rDLenM, keyOf_int, keyOf_str, rIsBM, plainV_b, plainV_i, plainV_n, plainV_s, rInM, rListM, rSortM, rSumM, rIsD, tBMM, tBM0M, tSl, rSlM, rAppend, rPop, rClear, wAs, reduceCtorEq, false_implies, true_implies, implies_true, forall_const, cxH_K, clsV_ref, clsV_ty, HO.xd.injEq, Value.ref.injEq, lkc, lkn, pfn, pfc, List.map_nil, rExtend, rCat, rRep, tMethE0, rSortD, rPush, rPopH, tDGetM, gAll, iRev, tCB, sDDel, wPair, tBreak, tDelT, rDLenR, tMethN, hp']
      have keepA : ∀ o, SqL K (upd H' p o) a (ns.map V.int) := fun o => script_stays ha hp fun q hq => by
        rw [upd_ne hq]
        exact hbut q hq
      have e1 := Int.emod_nonneg (s' * 48271) (show (2147483647 : Int) ≠ 0 by decide)
      have e2 := Int.emod_lt_of_pos (s' * 48271) (show (0 : Int) < 2147483647 by decide)
      generalize s' * 48271 % 2147483647 = r at e1 e2
      have but2 : ∀ o, But p H (upd H' p o) := fun o q hq => by
        rw [upd_ne hq]
        exact hbut q hq
      refine ite2 (fun h1 => ?_) (fun h1 => ?_)
      · refine ⟨hl0, ⟨hl0, by omega⟩, k _ _ (Int.emod_nonneg _ (by omega)) (Int.emod_lt_of_pos _ hl0) ?_ (but2 _)⟩
        exact ⟨a, ns, i', _, s', upd_same, keepA _, Int.ediv_nonneg hb' (by omega), hs', hs2'⟩
      · refine ⟨.inr ⟨by decide, by decide⟩, by decide, ⟨by decide, by decide⟩, .inl ⟨by omega, by omega⟩, by decide, hl0, k _ _ (Int.emod_nonneg _ (by omega)) (Int.emod_lt_of_pos _ hl0) ?_ (but2 _)⟩
        exact ⟨a, ns, i', b', r, upd_same, keepA _, hb', e1, by omega⟩
end

def sp_letters : Sp := fun vs H Q _ => vs = [] ∧ Q (.str sM) H
theorem sp_letters_len {vs H Q E} (h : sp_letters vs H Q E) : vs.length = ([] : List Str).length := by
  obtain ⟨rfl, _⟩ := h
  rfl
section
variable {P : Program} {w : World} {K : PySem.W.Frag} {mg : Str → Option Value} {base : Heap} {A : Ad}
theorem ok__law_letters (T : Txt K mg A) : FnOk P w K mg base CX0 1 A.f__law_letters A.d__law_letters [] (sp_letters) := by
  refine Fun.ok T.F__law_letters sc__law_letters (fun vs H Q E h => ?_) (fun cdv Ar outer s H vs Q E hr h => ?_)
  · exact sp_letters_len h
  · have hu := hu_of hr
    refine ⟨_, (pss_one (ps_ret pe_str)), ?_⟩
    obtain ⟨rfl, k⟩ := h
    simp (config := { maxSteps := 4000000 }) only [tSeq, tNext, tDrop, tRet, tRetN, tIfS, tAsg, tTest, tAnd, tOr, tNot, tAndV, tOrV, tNotV, tIf, tOp, tUn, tVar, tC, tCB, tCons, tNil, tCall, tPart, tNoPart, tM0, tM1, tTup, tLst, tB, tIsN, tNotN, rI0, rI, rU, rEq, rNe, rAdd, gName, gTup, gCons, gNil, gSub, rSetL, rIxL, rIxT, rIxS, L2.start,
      List.map_cons, List.map_nil, List.cons_append, List.nil_append, List.append_nil, List.length_cons, List.length_nil, List.replicate, List.getElem?_cons_zero, List.getElem?_cons_succ, List.set_cons_zero, List.set_cons_succ, Nat.reduceAdd, Nat.reduceSub, Nat.sub_self, Nat.zero_add,
      Option.some.injEq, V.int.injEq, V.str.injEq, V.bl.injEq, V.ref.injEq, V.ty.injEq, List.cons.injEq, and_true, true_and, exists_eq_left, exists_eq_left', exists_eq_right, exists_and_left, exists_and_right, exists_const, decide_eq_true_eq, decide_eq_false_iff_not, if_true, if_false, reduceIte, Bool.false_eq_true, Bool.not_eq_true', sc_ii, sc_ss, sc_bb, str1, cx_K, lstAt, rIxM, rSetM, rLenM, atI_0, atI_1, atI_2, atI_3, setI_0, setI_1, setI_2, setI_3, upd_same, upd_upd, ite_true, ite_false, exists_eq', eq_self, and_assoc, rIsS, isTy_bb, isTy_bi, isTy_ib, isTy_ii, isTy_ss, isTy_nb, isTy_ni, Bool.not_true, Bool.not_false, not_true_eq_false, not_false_eq_true, tChain, tRz1, tRz2, rIsX, tFx, tMethE, tCallS, tCallZ, tMeth, tMake, tFld, sFld, HO.ins.injEq, HO.lst.injEq, HO.dK.injEq, HO.tup.injEq, dcAt, dcRd, rDInM, rDGetM, rDSetM, rDLenM, keyOf_int, keyOf_str, rIsBM, plainV_b, plainV_i, plainV_n, plainV_s, rInM, rListM, rSortM, rSumM, rIsD, tBMM, tBM0M, tSl, rSlM, rAppend, rPop, rClear, wAs, reduceCtorEq, false_implies, true_implies, implies_true, forall_const, cxH_K, clsV_ref, clsV_ty, HO.xd.injEq, Value.ref.injEq, lkc, lkn, pfn, pfc, List.map_nil, rExtend, rCat, rRep, tMethE0, rSortD, rPush, rPopH, tDGetM, gAll, iRev, tCB, sDDel, wPair, tBreak, tDelT, rDLenR, tMethN]
    exact k
end

theorem But.trans {p : Addr} {H H1 H2 : Hp} (a : But p H H1) (b : But p H1 H2) : But p H H2 := fun q hq => (b q hq).trans (a q hq)
theorem app_len (x z : Str) : (x ++ z).length = x.length + z.length := by rw [len_cl, len_cl, len_cl, cl_append, List.length_append]
def runP (p : Nat → Bool) (l : List Nat) : Nat := (l.takeWhile p).length
theorem runP_cons (p : Nat → Bool) (c : Nat) (r : List Nat) : runP p (c :: r) = if p c = true then runP p r + 1 else 0 := by
  unfold runP
  rw [List.takeWhile_cons]
  split <;> simp
theorem runP_le (p : Nat → Bool) : ∀ l : List Nat, runP p l ≤ l.length
  | [] => Nat.le_refl _
  | c :: r => by
    have := runP_le p r
    rw [runP_cons]
    split
    · simp only [List.length_cons]
      omega
    · exact Nat.zero_le _
theorem runP_at (p : Nat → Bool) : ∀ (l : List Nat) (j : Nat) (c : Nat), j ≤ runP p l → l[j]? = some c → (p c = true ↔ j < runP p l)
  | [], j, c, _, h => by simp at h
  | a :: r, 0, c, _, h => by
    have e : a = c := Option.some.inj h
    subst e
    rw [runP_cons]
    split <;> simp_all
  | a :: r, j + 1, c, hj, h => by
    rw [runP_cons] at hj ⊢
    split at hj
    · have ih := runP_at p r j c (by omega) h
      rename_i ha
      rw [if_pos ha, ih]
      omega
    · omega
theorem runP_congr {p q : Nat → Bool} (h : ∀ c, p c = q c) (l : List Nat) : runP p l = runP q l := by
  rw [show p = q from funext h]
def inC (cs : Str) (c : Nat) : Bool := decide (c ∈ cl cs)
theorem inC_MD (c : Nat) : inC (sM ++ sD) c = isLD c := by
  unfold inC isLD
  rw [cl_append, isL_M]
  unfold isD
  rw [Bool.eq_iff_iff, Bool.or_eq_true, decide_eq_true_eq, decide_eq_true_eq, decide_eq_true_eq, List.mem_append]

def sp_lrun : Sp := fun vs H Q _ => ∃ (x cs : Str) (n : Nat), vs = [.str x, .int n, .str cs] ∧ n ≤ (cl x).length ∧ x.length ≤ 100000 ∧ Q (.int ((n + runP (inC cs) ((cl x).drop n) : Nat) : Int)) H
theorem sp_lrun_len {vs H Q E} (h : sp_lrun vs H Q E) : vs.length = (["source", "at", "chars"] : List Str).length := by
  obtain ⟨_, _, _, rfl, _⟩ := h
  rfl
section
variable {P : Program} {w : World} {K : PySem.W.Frag} {mg : Str → Option Value} {base : Heap} {A : Ad}
theorem ok__law_run (T : Txt K mg A) : FnOk P w K mg base CX0 1 A.f__law_run A.d__law_run ["source", "at", "chars"] (sp_lrun) := by
  refine Fun.ok T.F__law_run sc__law_run (fun vs H Q E h => ?_) (fun cdv Ar outer s H vs Q E hr h => ?_)
  · exact sp_lrun_len h
  · have hu := hu_of hr
    refine ⟨_, (pss_cons (ps_while PassesOwn.never (PW.pt (pw_and (pt_cmpR op_lt (pv 1) (pe_callB call_len_str (by rfl) T.z_len PySem.boot_len (pa_cons (pv 0) pa_nil)) (nomark _)) (pw_and1 (pt_cmpR op_in_sign (pe_item_str (pv 0) (pv 1) (fun _ _ => rfl)) (pv 2) (by rfl))))) (pss_one (ps_asg (pe_op op_add (pv 1) pe_int) (pg_name (i := 1) sc__law_run.nd rfl (Or.inl rfl)))))
    (pss_one (ps_ret (pv 1)))), ?_⟩
    obtain ⟨x, cs, n, rfl, hn, hx, k⟩ := h
    refine ⟨fun m σ H' => H' = H ∧ ∃ j, σ = [some (.str x), some (.int ((n + j : Nat) : Int)), some (.str cs)] ∧ j + m = runP (inC cs) ((cl x).drop n), ⟨runP (inC cs) ((cl x).drop n), rfl, 0, rfl, by omega⟩, ?_⟩
    rintro m σ H' ⟨rfl, j, rfl, hj⟩
    simp (config := { maxSteps := 4000000 }) only [tSeq, tNext, tDrop, tRet, tRetN, tIfS, tAsg, tTest, tAnd, tOr, tNot, tAndV, tOrV, tNotV, tIf, tOp, tUn, tVar, tC, tCB, tCons, tNil, tCall, tPart, tNoPart, tM0, tM1, tTup, tLst, tB, tIsN, tNotN, rI0, rI, rU, rEq, rNe, rAdd, gName, gTup, gCons, gNil, gSub, rSetL, rIxL, rIxT, rIxS, L2.start,
      List.map_cons, List.map_nil, List.cons_append, List.nil_append, List.append_nil, List.length_cons, List.length_nil, List.replicate, List.getElem?_cons_zero, List.getElem?_cons_succ, List.set_cons_zero, List.set_cons_succ, Nat.reduceAdd, Nat.reduceSub, Nat.sub_self, Nat.zero_add,
      Option.some.injEq, V.int.injEq, V.str.injEq, V.bl.injEq, V.ref.injEq, V.ty.injEq, List.cons.injEq, and_true, true_and, exists_eq_left, exists_eq_left', exists_eq_right, exists_and_left, exists_and_right, exists_const, decide_eq_true_eq, decide_eq_false_iff_not, if_true, if_false, reduceIte, Bool.false_eq_true, Bool.not_eq_true', sc_ii, sc_ss, sc_bb, str1, cx_K, lstAt, rIxM, rSetM, rLenM, atI_0, atI_1, atI_2, atI_3, setI_0, setI_1, setI_2, setI_3, upd_same, upd_upd, ite_true, ite_false, exists_eq', eq_self, and_assoc, rIsS, isTy_bb, isTy_bi, isTy_ib, isTy_ii, isTy_ss, isTy_nb, isTy_ni, Bool.not_true, Bool.not_false, not_true_eq_false, not_false_eq_true, tChain, tRz1, tRz2, rIsX, tFx, tMethE, tCallS, tCallZ, tMeth, tMake, tFld, sFld, HO.ins.injEq, HO.lst.injEq, HO.dK.injEq, HO.tup.injEq, dcAt, dcRd, rDInM, rDGetM, rDSetM, rDLenM, keyOf_int, keyOf_str, rIsBM, plainV_b, plainV_i, plainV_n, plainV_s, rInM, rListM, rSortM, rSumM, rIsD, tBMM, tBM0M, tSl, rSlM, rAppend, rPop, rClear, wAs, reduceCtorEq, false_implies, true_implies, implies_true, forall_const, cxH_K, clsV_ref, clsV_ty, HO.xd.injEq, Value.ref.injEq, lkc, lkn, pfn, pfc, List.map_nil, rExtend, rCat, rRep, tMethE0, rSortD, rPush, rPopH, tDGetM, gAll, iRev, tCB, sDDel, wPair, tBreak, tDelT, rDLenR, tMethN]
    have hl := len_cl x
    have hle := runP_le (inC cs) ((cl x).drop n)
    rw [List.length_drop] at hle
    refine ⟨Nat.le_trans hx (by decide), ite2 (fun h1 => ?_) (fun h1 => ?_)⟩
    · have hlt : n + j < (cl x).length := by omega
      have hc : x.cps[((n + j : Nat) : Int).toNat]? = some ((cl x)[n + j]) := by
        rw [Int.toNat_natCast, at_cl, List.getElem?_eq_getElem hlt]
      have hd : ((cl x).drop n)[j]? = some ((cl x)[n + j]) := by
        rw [List.getElem?_drop, List.getElem?_eq_getElem hlt]
      have key := runP_at (inC cs) _ j _ (by omega) hd
      refine ⟨by omega, by omega, by omega, _, hc, ite2 (fun h2 => ?_) (fun h2 => ?_)⟩
      · have hj2 := key.mp (decide_eq_true h2)
        refine ⟨_, fun _ _ h => h, m - 1, by omega, rfl, j + 1, ?_, by omega⟩
        rw [show ((n + j : Nat) : Int) + 1 = ((n + (j + 1) : Nat) : Int) by omega]
      · have hn3 : ¬ j < runP (inC cs) ((cl x).drop n) := fun h => h2 (of_decide_eq_true (key.mpr h))
        have : j = runP (inC cs) ((cl x).drop n) := by omega
        rw [this]
        exact k
    · have : j = runP (inC cs) ((cl x).drop n) := by omega
      rw [this]
      exact k
end

def sp_lword : Sp := fun vs H Q _ => ∃ (x : Str) (n : Nat), vs = [.str x, .int n] ∧ n ≤ (cl x).length ∧ x.length ≤ 100000 ∧ Q (.int ((n + run ((cl x).drop n) : Nat) : Int)) H
theorem sp_lword_len {vs H Q E} (h : sp_lword vs H Q E) : vs.length = (["source", "at"] : List Str).length := by
  obtain ⟨_, _, rfl, _⟩ := h
  rfl
section
variable {P : Program} {w : World} {K : PySem.W.Frag} {mg : Str → Option Value} {base : Heap} {A : Ad}
theorem ok__law_word_end (T : Txt K mg A) : FnOk P w K mg base CX0 2 A.f__law_word_end A.d__law_word_end ["source", "at"] (sp_lword) := by
  refine Fun.ok T.F__law_word_end sc__law_word_end (fun vs H Q E h => ?_) (fun cdv Ar outer s H vs Q E hr h => ?_)
  · exact sp_lword_len h
  · have hu := hu_of hr
    refine ⟨_, (pss_one (ps_ret (pe_call (ok__law_run T) (hr.mono (by decide)) (by rfl) T.g__law_run T.k__law_run T.b__law_run .nil pass0 (pa_cons (pv 0) (pa_cons (pv 1) (pa_cons (pe_op op_add_str (pe_call0 (ok__law_letters T) (hr.mono (by decide)) (by rfl) T.g__law_letters T.k__law_letters T.b__law_letters .nil pass0) pe_str) pa_nil)))))), ?_⟩
    obtain ⟨x, n, rfl, hn, hx, k⟩ := h
    simp (config := { maxSteps := 4000000 }) only [tSeq, tNext, tDrop, tRet, tRetN, tIfS, tAsg, tTest, tAnd, tOr, tNot, tAndV, tOrV, tNotV, tIf, tOp, tUn, tVar, tC, tCB, tCons, tNil, tCall, tPart, tNoPart, tM0, tM1, tTup, tLst, tB, tIsN, tNotN, rI0, rI, rU, rEq, rNe, rAdd, gName, gTup, gCons, gNil, gSub, rSetL, rIxL, rIxT, rIxS, L2.start,
      List.map_cons, List.map_nil, List.cons_append, List.nil_append, List.append_nil, List.length_cons, List.length_nil, List.replicate, List.getElem?_cons_zero, List.getElem?_cons_succ, List.set_cons_zero, List.set_cons_succ, Nat.reduceAdd, Nat.reduceSub, Nat.sub_self, Nat.zero_add,
      Option.some.injEq, V.int.injEq, V.str.injEq, V.bl.injEq, V.ref.injEq, V.ty.injEq, List.cons.injEq, and_true, true_and, exists_eq_left, exists_eq_left', exists_eq_right, exists_and_left, exists_and_right, exists_const, decide_eq_true_eq, decide_eq_false_iff_not, if_true, if_false, reduceIte, Bool.false_eq_true, Bool.not_eq_true', sc_ii, sc_ss, sc_bb, str1, cx_K, lstAt, rIxM, rSetM, rLenM, atI_0, atI_1, atI_2, atI_3, setI_0, setI_1, setI_2, setI_3, upd_same, upd_upd, ite_true, ite_false, exists_eq', eq_self, and_assoc, rIsS, isTy_bb, isTy_bi, isTy_ib, isTy_ii, isTy_ss, isTy_nb, isTy_ni, Bool.not_true, Bool.not_false, not_true_eq_false, not_false_eq_true, tChain, tRz1, tRz2, rIsX, tFx, tMethE, tCallS, tCallZ, tMeth, tMake, tFld, sFld, HO.ins.injEq, HO.lst.injEq, HO.dK.injEq, HO.tup.injEq, dcAt, dcRd, rDInM, rDGetM, rDSetM, rDLenM, keyOf_int, keyOf_str, rIsBM, plainV_b, plainV_i, plainV_n, plainV_s, rInM, rListM, rSortM, rSumM, rIsD, tBMM, tBM0M, tSl, rSlM, rAppend, rPop, rClear, wAs, reduceCtorEq, false_implies, true_implies, implies_true, forall_const, cxH_K, clsV_ref, clsV_ty, HO.xd.injEq, Value.ref.injEq, lkc, lkn, pfn, pfc, List.map_nil, rExtend, rCat, rRep, tMethE0, rSortD, rPush, rPopH, tDGetM, gAll, iRev, tCB, sDDel, wPair, tBreak, tDelT, rDLenR, tMethN]
    refine ⟨rfl, sM, rfl, by decide, x, sM ++ sD, n, rfl, hn, hx, ?_⟩
    rw [runP_congr inC_MD]
    exact k
end

def sp_lisl : Sp := fun vs H Q _ => ∃ (x : Str) (n : Nat), vs = [.str x, .int n] ∧ x.length ≤ 100000 ∧ Q (.bl (match (cl x)[n]? with | some c => isL c | none => false)) H
theorem sp_lisl_len {vs H Q E} (h : sp_lisl vs H Q E) : vs.length = (["source", "at"] : List Str).length := by
  obtain ⟨_, _, rfl, _⟩ := h
  rfl
section
variable {P : Program} {w : World} {K : PySem.W.Frag} {mg : Str → Option Value} {base : Heap} {A : Ad}
theorem ok__law_is_letter (T : Txt K mg A) : FnOk P w K mg base CX0 2 A.f__law_is_letter A.d__law_is_letter ["source", "at"] (sp_lisl) := by
  refine Fun.ok T.F__law_is_letter sc__law_is_letter (fun vs H Q E h => ?_) (fun cdv Ar outer s H vs Q E hr h => ?_)
  · exact sp_lisl_len h
  · have hu := hu_of hr
    refine ⟨_, (pss_one (ps_ret (pe_and (pe_cmpR op_lt (pv 1) (pe_callB call_len_str (by rfl) T.z_len PySem.boot_len (pa_cons (pv 0) pa_nil)) (nomark _)) (pe_one (pe_cmpR op_in_sign (pe_item_str (pv 0) (pv 1) (fun _ _ => rfl)) (pe_call0 (ok__law_letters T) (hr.mono (by decide)) (by rfl) T.g__law_letters T.k__law_letters T.b__law_letters .nil pass0) (by rfl)))))), ?_⟩
    obtain ⟨x, n, rfl, hx, k⟩ := h
    simp (config := { maxSteps := 4000000 }) only [tSeq, tNext, tDrop, tRet, tRetN, tIfS, tAsg, tTest, tAnd, tOr, tNot, tAndV, tOrV, tNotV, tIf, tOp, tUn, tVar, tC, tCB, tCons, tNil, tCall, tPart, tNoPart, tM0, tM1, tTup, tLst, tB, tIsN, tNotN, rI0, rI, rU, rEq, rNe, rAdd, gName, gTup, gCons, gNil, gSub, rSetL, rIxL, rIxT, rIxS, L2.start,
      List.map_cons, List.map_nil, List.cons_append, List.nil_append, List.append_nil, List.length_cons, List.length_nil, List.replicate, List.getElem?_cons_zero, List.getElem?_cons_succ, List.set_cons_zero, List.set_cons_succ, Nat.reduceAdd, Nat.reduceSub, Nat.sub_self, Nat.zero_add,
      Option.some.injEq, V.int.injEq, V.str.injEq, V.bl.injEq, V.ref.injEq, V.ty.injEq, List.cons.injEq, and_true, true_and, exists_eq_left, exists_eq_left', exists_eq_right, exists_and_left, exists_and_right, exists_const, decide_eq_true_eq, decide_eq_false_iff_not, if_true, if_false, reduceIte, Bool.false_eq_true, Bool.not_eq_true', sc_ii, sc_ss, sc_bb, str1, cx_K, lstAt, rIxM, rSetM, rLenM, atI_0, atI_1, atI_2, atI_3, setI_0, setI_1, setI_2, setI_3, upd_same, upd_upd, ite_true, ite_false, exists_eq', eq_self, and_assoc, rIsS, isTy_bb, isTy_bi, isTy_ib, isTy_ii, isTy_ss, isTy_nb, isTy_ni, Bool.not_true, Bool.not_false, not_true_eq_false, not_false_eq_true, tChain, tRz1, tRz2, rIsX, tFx, tMethE, tCallS, tCallZ, tMeth, tMake, tFld, sFld, HO.ins.injEq, HO.lst.injEq, HO.dK.injEq, HO.tup.injEq, dcAt, dcRd, rDInM, rDGetM, rDSetM, rDLenM, keyOf_int, keyOf_str, rIsBM, plainV_b, plainV_i, plainV_n, plainV_s, rInM, rListM, rSortM, rSumM, rIsD, tBMM, tBM0M, tSl, rSlM, rAppend, rPop, rClear, wAs, reduceCtorEq, false_implies, true_implies, implies_true, forall_const, cxH_K, clsV_ref, clsV_ty, HO.xd.injEq, Value.ref.injEq, lkc, lkn, pfn, pfc, List.map_nil, rExtend, rCat, rRep, tMethE0, rSortD, rPush, rPopH, tDGetM, gAll, iRev, tCB, sDDel, wPair, tBreak, tDelT, rDLenR, tMethN]
    have hl := len_cl x
    have hsz : x.length ≤ sizeLine := Nat.le_trans hx (by decide)
    refine ⟨hsz, ite2 (fun h1 => ?_) (fun h1 => ?_)⟩
    · have hlt : n < (cl x).length := by omega
      have hc : x.cps[((n : Nat) : Int).toNat]? = some ((cl x)[n]) := by
        rw [Int.toNat_natCast, at_cl, List.getElem?_eq_getElem hlt]
      refine ⟨by omega, by omega, by omega, _, hc, rfl, sM, rfl, ?_⟩
      rw [List.getElem?_eq_getElem hlt] at k
      have k' : Q (.bl (isL ((cl x)[n]))) H := k
      rw [isL_M] at k'
      exact k'
    · rw [List.getElem?_eq_none (by omega)] at k
      exact k
end

def sp_lname : Sp := fun vs H Q _ => ∃ (x : Str) (n : Nat), vs = [.str x, .int n] ∧ n ≤ (cl x).length ∧ x.length ≤ 100000 ∧ Q (.int ((n + nameLen ((cl x).drop n) : Nat) : Int)) H
theorem sp_lname_len {vs H Q E} (h : sp_lname vs H Q E) : vs.length = (["source", "at"] : List Str).length := by
  obtain ⟨_, _, rfl, _⟩ := h
  rfl
section
variable {P : Program} {w : World} {K : PySem.W.Frag} {mg : Str → Option Value} {base : Heap} {A : Ad}
theorem ok__law_name_end (T : Txt K mg A) : FnOk P w K mg base CX0 3 A.f__law_name_end A.d__law_name_end ["source", "at"] (sp_lname) := by
  refine Fun.ok T.F__law_name_end sc__law_name_end (fun vs H Q E h => ?_) (fun cdv Ar outer s H vs Q E hr h => ?_)
  · exact sp_lname_len h
  · have hu := hu_of hr
    refine ⟨_, (pss_cons (ps_asg (pe_call (ok__law_word_end T) (hr.mono (by decide)) (by rfl) T.g__law_word_end T.k__law_word_end T.b__law_word_end .nil pass0 (pa_cons (pv 0) (pa_cons (pv 1) pa_nil))) (pg_name (i := 2) sc__law_name_end.nd rfl (Or.inl rfl)))
    (pss_cons (ps_if (PW.pt (pw_or (pt_not (pt_val (pe_call (ok__law_is_letter T) (hr.mono (by decide)) (by rfl) T.g__law_is_letter T.k__law_is_letter T.b__law_is_letter .nil pass0 (pa_cons (pv 0) (pa_cons (pv 1) pa_nil))))) (pw_or1 (pt_cmpR op_gt (pe_op op_sub (pv 2) (pv 1)) pe_int (nomark _))))) (pss_one (ps_ret (pv 1))) pss_nil)
    (pss_one (ps_ret (pv 2))))), ?_⟩
    obtain ⟨x, n, rfl, hn, hx, k⟩ := h
    simp (config := { maxSteps := 4000000 }) only [tSeq, tNext, tDrop, tRet, tRetN, tIfS, tAsg, tTest, tAnd, tOr, tNot, tAndV, tOrV, tNotV, tIf, tOp, tUn, tVar, tC, tCB, tCons, tNil, tCall, tPart, tNoPart, tM0, tM1, tTup, tLst, tB, tIsN, tNotN, rI0, rI, rU, rEq, rNe, rAdd, gName, gTup, gCons, gNil, gSub, rSetL, rIxL, rIxT, rIxS, L2.start,
      List.map_cons, List.map_nil, List.cons_append, List.nil_append, List.append_nil, List.length_cons, List.length_nil, List.replicate, List.getElem?_cons_zero, List.getElem?_cons_succ, List.set_cons_zero, List.set_cons_succ, Nat.reduceAdd, Nat.reduceSub, Nat.sub_self, Nat.zero_add,
      Option.some.injEq, V.int.injEq, V.str.injEq, V.bl.injEq, V.ref.injEq, V.ty.injEq, List.cons.injEq, and_true, true_and, exists_eq_left, exists_eq_left', exists_eq_right, exists_and_left, exists_and_right, exists_const, decide_eq_true_eq, decide_eq_false_iff_not, if_true, if_false, reduceIte, Bool.false_eq_true, Bool.not_eq_true', sc_ii, sc_ss, sc_bb, str1, cx_K, lstAt, rIxM, rSetM, rLenM, atI_0, atI_1, atI_2, atI_3, setI_0, setI_1, setI_2, setI_3, upd_same, upd_upd, ite_true, ite_false, exists_eq', eq_self, and_assoc, rIsS, isTy_bb, isTy_bi, isTy_ib, isTy_ii, isTy_ss, isTy_nb, isTy_ni, Bool.not_true, Bool.not_false, not_true_eq_false, not_false_eq_true, tChain, tRz1, tRz2, rIsX, tFx, tMethE, tCallS, tCallZ, tMeth, tMake, tFld, sFld, HO.ins.injEq, HO.lst.injEq, HO.dK.injEq, HO.tup.injEq, dcAt, dcRd, rDInM, rDGetM, rDSetM, rDLenM, keyOf_int, keyOf_str, rIsBM, plainV_b, plainV_i, plainV_n, plainV_s, rInM, rListM, rSortM, rSumM, rIsD, tBMM, tBM0M, tSl, rSlM, rAppend, rPop, rClear, wAs, reduceCtorEq, false_implies, true_implies, implies_true, forall_const, cxH_K, clsV_ref, clsV_ty, HO.xd.injEq, Value.ref.injEq, lkc, lkn, pfn, pfc, List.map_nil, rExtend, rCat, rRep, tMethE0, rSortD, rPush, rPopH, tDGetM, gAll, iRev, tCB, sDDel, wPair, tBreak, tDelT, rDLenR, tMethN]
    cases hg : (cl x)[n]? with
    | none =>
      have e : (cl x).drop n = [] := List.drop_eq_nil_of_le (List.getElem?_eq_none_iff.mp hg)
      rw [e] at k
      refine ⟨x, n, rfl, hn, hx, x, n, rfl, hx, _, rfl, ?_⟩
      rw [hg]
      exact ite2 (fun _ => k) (fun h => absurd rfl h)
    | some c =>
      have hlt := (List.getElem?_eq_some_iff.mp hg).1
      have hd : (cl x).drop n = c :: (cl x).drop (n + 1) := by
        rw [List.drop_eq_getElem_cons hlt]
        rw [List.getElem?_eq_getElem hlt] at hg
        rw [Option.some.inj hg]
      have e : nameLen ((cl x).drop n) = if isL c = true then (if 32 < run ((cl x).drop n) then 0 else run ((cl x).drop n)) else 0 := by
        rw [hd]
        rfl
      rw [e] at k
      refine ⟨x, n, rfl, hn, hx, x, n, rfl, hx, _, rfl, ?_⟩
      rw [hg]
      refine ite2 (fun h => ?_) (fun h => ⟨_, rfl, ite2 (fun h2 => ?_) (fun h2 => ?_)⟩)
      · rw [if_neg (fun z => by rw [show isL c = false from h] at z; cases z)] at k
        exact k
      · rw [if_pos (Bool.not_eq_false _ ▸ h), if_pos (by omega)] at k
        exact k
      · rw [if_pos (Bool.not_eq_false _ ▸ h), if_neg (by omega)] at k
        exact k
end

def sp_lcolon : Sp := fun vs H Q _ => ∃ (x : Str) (n : Nat), vs = [.str x, .int n] ∧ x.length ≤ 100000 ∧ Q (.bl (colonB ((cl x).drop n))) H
theorem sp_lcolon_len {vs H Q E} (h : sp_lcolon vs H Q E) : vs.length = (["source", "at"] : List Str).length := by
  obtain ⟨_, _, rfl, _⟩ := h
  rfl
section
variable {P : Program} {w : World} {K : PySem.W.Frag} {mg : Str → Option Value} {base : Heap} {A : Ad}
theorem ok__law_colon (T : Txt K mg A) : FnOk P w K mg base CX0 1 A.f__law_colon A.d__law_colon ["source", "at"] (sp_lcolon) := by
  refine Fun.ok T.F__law_colon sc__law_colon (fun vs H Q E h => ?_) (fun cdv Ar outer s H vs Q E hr h => ?_)
  · exact sp_lcolon_len h
  · have hu := hu_of hr
    refine ⟨_, (pss_one (ps_ret (pe_and (pe_cmpR op_eq (pe_slice sl_str (pv 0) (po_some (pv 1)) (po_some (pe_op op_add (pv 1) pe_int))) pe_str (nomark _)) (pe_one (pe_cmpR op_ne (pe_slice sl_str (pv 0) (po_some (pe_op op_add (pv 1) pe_int)) (po_some (pe_op op_add (pv 1) pe_int))) pe_str (nomark _)))))), ?_⟩
    obtain ⟨x, n, rfl, hx, k⟩ := h
    simp (config := { maxSteps := 4000000 }) only [tSeq, tNext, tDrop, tRet, tRetN, tIfS, tAsg, tTest, tAnd, tOr, tNot, tAndV, tOrV, tNotV, tIf, tOp, tUn, tVar, tC, tCB, tCons, tNil, tCall, tPart, tNoPart, tM0, tM1, tTup, tLst, tB, tIsN, tNotN, rI0, rI, rU, rEq, rNe, rAdd, gName, gTup, gCons, gNil, gSub, rSetL, rIxL, rIxT, rIxS, L2.start,
      List.map_cons, List.map_nil, List.cons_append, List.nil_append, List.append_nil, List.length_cons, List.length_nil, List.replicate, List.getElem?_cons_zero, List.getElem?_cons_succ, List.set_cons_zero, List.set_cons_succ, Nat.reduceAdd, Nat.reduceSub, Nat.sub_self, Nat.zero_add,
      Option.some.injEq, V.int.injEq, V.str.injEq, V.bl.injEq, V.ref.injEq, V.ty.injEq, List.cons.injEq, and_true, true_and, exists_eq_left, exists_eq_left', exists_eq_right, exists_and_left, exists_and_right, exists_const, decide_eq_true_eq, decide_eq_false_iff_not, if_true, if_false, reduceIte, Bool.false_eq_true, Bool.not_eq_true', sc_ii, sc_ss, sc_bb, str1, cx_K, lstAt, rIxM, rSetM, rLenM, atI_0, atI_1, atI_2, atI_3, setI_0, setI_1, setI_2, setI_3, upd_same, upd_upd, ite_true, ite_false, exists_eq', eq_self, and_assoc, rIsS, isTy_bb, isTy_bi, isTy_ib, isTy_ii, isTy_ss, isTy_nb, isTy_ni, Bool.not_true, Bool.not_false, not_true_eq_false, not_false_eq_true, tChain, tRz1, tRz2, rIsX, tFx, tMethE, tCallS, tCallZ, tMeth, tMake, tFld, sFld, HO.ins.injEq, HO.lst.injEq, HO.dK.injEq, HO.tup.injEq, dcAt, dcRd, rDInM, rDGetM, rDSetM, rDLenM, keyOf_int, keyOf_str, rIsBM, plainV_b, plainV_i, plainV_n, plainV_s, rInM, rListM, rSortM, rSumM, rIsD, tBMM, tBM0M, tSl, rSlM, rAppend, rPop, rClear, wAs, reduceCtorEq, false_implies, true_implies, implies_true, forall_const, cxH_K, clsV_ref, clsV_ty, HO.xd.injEq, Value.ref.injEq, lkc, lkn, pfn, pfc, List.map_nil, rExtend, rCat, rRep, tMethE0, rSortD, rPush, rPopH, tDGetM, gAll, iRev, tCB, sDDel, wPair, tBreak, tDelT, rDLenR, tMethN, tSl, tPart]
    have hsz : x.length ≤ sizeLine := Nat.le_trans hx (by decide)
    unfold colonB at k
    rw [List.getElem?_drop, List.getElem?_drop, Nat.add_zero] at k
    refine ⟨x, rfl, hsz, rfl, ite2 (fun h => ⟨x, rfl, hsz, rfl, ?_⟩) (fun h => ?_)⟩
    · rw [V.str.injEq, mk58c, cut_one (a := n) rfl (by omega)] at h
      rw [decide_eq_true h, Bool.true_and] at k
      have e : decide (V.str (cutS x (some ((n : Int) + 1)) (some ((n : Int) + 2))) = V.str (Str.ofString "=")) = decide ((cl x)[n + 1]? = some 61) := decide_eq_decide.mpr (by
        rw [V.str.injEq, mk61c, cut_one (a := n + 1) (by omega) (by omega)])
      rw [e]
      exact k
    · rw [V.str.injEq, mk58c, cut_one (a := n) rfl (by omega)] at h
      rw [decide_eq_false h, Bool.false_and] at k
      exact k
end

def sp_lskip : Sp := fun vs H Q _ => ∃ (x : Str) (n : Nat), vs = [.str x, .int n] ∧ n ≤ (cl x).length ∧ x.length ≤ 100000 ∧ Q (.int ((n + (skip ((cl x).drop n)).1 : Nat) : Int)) H
theorem sp_lskip_len {vs H Q E} (h : sp_lskip vs H Q E) : vs.length = (["source", "at"] : List Str).length := by
  obtain ⟨_, _, rfl, _⟩ := h
  rfl
section
variable {P : Program} {w : World} {K : PySem.W.Frag} {mg : Str → Option Value} {base : Heap} {A : Ad}
theorem ok__law_skip (T : Txt K mg A) : FnOk P w K mg base CX0 1 A.f__law_skip A.d__law_skip ["source", "at"] (sp_lskip) := by
  refine Fun.ok T.F__law_skip sc__law_skip (fun vs H Q E h => ?_) (fun cdv Ar outer s H vs Q E hr h => ?_)
  · exact sp_lskip_len h
  · have hu := hu_of hr
    refine ⟨_, (pss_cons (ps_while PassesOwn.never (pt_cmpR op_lt (pv 1) (pe_callB call_len_str (by rfl) T.z_len PySem.boot_len (pa_cons (pv 0) pa_nil)) (nomark _)) (pss_one (ps_if (pt_cmpR op_eq (pe_item_str (pv 0) (pv 1) (fun _ _ => rfl)) pe_str (nomark _)) (pss_cons (ps_asg (pe_bm PySem.F.plainAttrs_str PySem.F.slot_str_find PySem.F.type_str_find mt_find3 (pv 0) (pa_cons pe_str (pa_cons (pe_op op_add (pv 1) pe_int) pa_nil))) (pg_name (i := 2) sc__law_skip.nd rfl (Or.inl rfl)))
    (pss_cons (ps_if (pt_cmpR op_lt (pv 2) pe_int (nomark _)) (pss_one (ps_ret (pv 1))) pss_nil)
    (pss_one (ps_asg (pe_op op_add (pv 2) pe_int) (pg_name (i := 1) sc__law_skip.nd rfl (Or.inl rfl)))))) (pss_one (ps_if (PW.pt (pw_or (pt_cmpR op_eq (pe_item_str (pv 0) (pv 1) (fun _ _ => rfl)) pe_str (nomark _)) (pw_or1 (pt_cmpR op_eq (pe_item_str (pv 0) (pv 1) (fun _ _ => rfl)) pe_str (nomark _))))) (pss_one (ps_asg (pe_op op_add (pv 1) pe_int) (pg_name (i := 1) sc__law_skip.nd rfl (Or.inl rfl)))) (pss_one (ps_ret (pv 1))))))))
    (pss_one (ps_ret (pv 1)))), ?_⟩
    obtain ⟨x, n, rfl, hn, hx, k⟩ := h
    refine ⟨fun m σ H' => H' = H ∧ ∃ (j : Nat) (e : Option V), σ = [some (.str x), some (.int ((n + j : Nat) : Int)), e] ∧ j + m = ((cl x).drop n).length ∧ (skip ((cl x).drop n)).1 = j + (skip ((cl x).drop (n + j))).1, ⟨((cl x).drop n).length, rfl, 0, none, rfl, by omega, by rw [Nat.zero_add]; rfl⟩, ?_⟩
    rintro m σ H' ⟨rfl, j, e, rfl, hj, s1⟩
    simp (config := { maxSteps := 4000000 }) only [tSeq, tNext, tDrop, tRet, tRetN, tIfS, tAsg, tTest, tAnd, tOr, tNot, tAndV, tOrV, tNotV, tIf, tOp, tUn, tVar, tC, tCB, tCons, tNil, tCall, tPart, tNoPart, tM0, tM1, tTup, tLst, tB, tIsN, tNotN, rI0, rI, rU, rEq, rNe, rAdd, gName, gTup, gCons, gNil, gSub, rSetL, rIxL, rIxT, rIxS, L2.start,
      List.map_cons, List.map_nil, List.cons_append, List.nil_append, List.append_nil, List.length_cons, List.length_nil, List.replicate, List.getElem?_cons_zero, List.getElem?_cons_succ, List.set_cons_zero, List.set_cons_succ, Nat.reduceAdd, Nat.reduceSub, Nat.sub_self, Nat.zero_add,
      Option.some.injEq, V.int.injEq, V.str.injEq, V.bl.injEq, V.ref.injEq, V.ty.injEq, List.cons.injEq, and_true, true_and, exists_eq_left, exists_eq_left', exists_eq_right, exists_and_left, exists_and_right, exists_const, decide_eq_true_eq, decide_eq_false_iff_not, if_true, if_false, reduceIte, Bool.false_eq_true, Bool.not_eq_true', sc_ii, sc_ss, sc_bb, str1, cx_K, lstAt, rIxM, rSetM, rLenM, atI_0, atI_1, atI_2, atI_3, setI_0, setI_1, setI_2, setI_3, upd_same, upd_upd, ite_true, ite_false, exists_eq', eq_self, and_assoc, rIsS, isTy_bb, isTy_bi, isTy_ib, isTy_ii, isTy_ss, isTy_nb, isTy_ni, Bool.not_true, Bool.not_false, not_true_eq_false, not_false_eq_true, tChain, tRz1, tRz2, rIsX, tFx, tMethE, tCallS, tCallZ, tMeth, tMake, tFld, sFld, HO.ins.injEq, HO.lst.injEq, HO.dK.injEq, HO.tup.injEq, dcAt, dcRd, rDInM, rDGetM, rDSetM, rDLenM, keyOf_int, keyOf_str, rIsBM, plainV_b, plainV_i, plainV_n, plainV_s, rInM, rListM, rSortM, rSumM, rIsD, tBMM, tBM0M, tSl, rSlM, rAppend, rPop, rClear, wAs, reduceCtorEq, false_implies, true_implies, implies_true, forall_const, cxH_K, clsV_ref, clsV_ty, HO.xd.injEq, Value.ref.injEq, lkc, lkn, pfn, pfc, List.map_nil, rExtend, rCat, rRep, tMethE0, rSortD, rPush, rPopH, tDGetM, gAll, iRev, tCB, sDDel, wPair, tBreak, tDelT, rDLenR, tMethN, tBM, tyV]
    have hl := len_cl x
    have hsz : x.length ≤ sizeLine := Nat.le_trans hx (by decide)
    have hdl : ((cl x).drop n).length = (cl x).length - n := List.length_drop ..
    refine ⟨hsz, ite2 (fun h1 => ?_) (fun h1 => ?_)⟩
    · have hlt : n + j < (cl x).length := by omega
      have hc : x.cps[((n + j : Nat) : Int).toNat]? = some ((cl x)[n + j]) := by
        rw [Int.toNat_natCast, at_cl, List.getElem?_eq_getElem hlt]
      have hd : (cl x).drop (n + j) = (cl x)[n + j] :: (cl x).drop (n + j + 1) := List.drop_eq_getElem_cons hlt
      rw [hd] at s1
      generalize (cl x)[n + j] = c at hc s1
      have ff := find_fi x 34 (n + j + 1)
      rw [show ((n + j : Nat) : Int) + 1 = ((n + j + 1 : Nat) : Int) by omega, show Str.ofString "\"" = ⟨#[34]⟩ from rfl, ff]
      refine ⟨_, fun _ _ h => h, by omega, by omega, by omega, c, hc, ite2 (fun h2 => ?_) (fun h2 => ?_)⟩
      · have h34 : c = 34 := one_iff.mp h2
        cases hf : fi 34 ((cl x).drop (n + j + 1)) with
        | none =>
          rw [skip_open h34 hf] at s1
          refine ite2 (fun h3 => ?_) (fun h3 => absurd (show (-1 : Int) < 0 by decide) h3)
          rw [s1] at k
          exact k
        | some q =>
          rw [skip_comment h34 hf] at s1
          have hq := fi_lt hf
          rw [List.length_drop] at hq
          have ed : ((cl x).drop (n + j + 1)).drop (q + 1) = (cl x).drop (n + (j + (q + 2))) := by
            rw [List.drop_drop]
            congr 1
            omega
          rw [ed] at s1
          refine ite2 (fun h3 => absurd h3 (by show ¬ ((n + j + 1 + q : Nat) : Int) < 0; omega)) (fun h3 => ?_)
          refine ⟨m - (q + 2), by omega, rfl, j + (q + 2), ⟨some (.int ((n + j + 1 + q : Nat) : Int)), ?_⟩, by omega, by rw [s1]; omega⟩
          show [some (V.str x), some (V.int (((n + j + 1 + q : Nat) : Int) + 1)), some (V.int ((n + j + 1 + q : Nat) : Int))] = _
          rw [show (((n + j + 1 + q : Nat) : Int) + 1) = ((n + (j + (q + 2)) : Nat) : Int) by omega]
      · have h34 : c ≠ 34 := fun z => h2 (one_iff.mpr z)
        have step : c = 32 ∨ c = 10 → ∃ m', m' < m ∧ H' = H' ∧ ∃ j_1, (∃ x_1, ([some (V.str x), some (V.int ((n + j + 1 : Nat) : Int)), e] : L2.St) = [some (V.str x), some (V.int ((n + j_1 : Nat) : Int)), x_1]) ∧ j_1 + m' = ((cl x).drop n).length ∧ (skip ((cl x).drop n)).1 = j_1 + (skip ((cl x).drop (n + j_1))).1 := fun hb => by
          rw [skip_blank h34 hb] at s1
          exact ⟨m - 1, by omega, rfl, j + 1, ⟨e, rfl⟩, by omega, by rw [s1, Nat.add_assoc n j]; omega⟩
        refine ⟨by omega, by omega, by omega, c, hc, ite2 (fun h3 => step (.inl (one_iff.mp (show (⟨#[c]⟩ : Str) = ⟨#[32]⟩ from h3)))) (fun h3 => ⟨by omega, by omega, by omega, c, hc, ite2 (fun h4 => step (.inr (one_iff.mp (show (⟨#[c]⟩ : Str) = ⟨#[10]⟩ from h4)))) (fun h4 => ?_)⟩)⟩
        have hb : ¬ (c = 32 ∨ c = 10) := fun z => z.elim (fun z => h3 (by rw [z]; rfl)) (fun z => h4 (by rw [z]; rfl))
        rw [skip_sign h34 hb] at s1
        rw [s1] at k
        exact k
    · have e0 : (cl x).drop (n + j) = [] := List.drop_eq_nil_of_le (by omega)
      rw [e0, skip_nil] at s1
      rw [s1] at k
      exact k
end

def sp_lsource (K : PySem.W.Frag) : Sp := fun vs H Q _ => ∃ (p : Addr), vs = [.ref p] ∧ StAt K H p ∧ ∀ (x : Str) H', x.length ≤ 10000 → StAt K H' p → But p H H' → Q (.str x) H'
theorem sp_lsource_len {K vs H Q E} (h : sp_lsource K vs H Q E) : vs.length = (["state"] : List Str).length := by
  obtain ⟨_, rfl, _⟩ := h
  rfl
section
variable {P : Program} {w : World} {K : PySem.W.Frag} {mg : Str → Option Value} {base : Heap} {A : Ad}
theorem ok__law_source (T : Txt K mg A) : FnOk P w K mg base CX0 2 A.f__law_source A.d__law_source ["state"] (sp_lsource K) := by
  refine Fun.ok T.F__law_source sc__law_source (fun vs H Q E h => ?_) (fun cdv Ar outer s H vs Q E hr h => ?_)
  · exact sp_lsource_len h
  · have hu := hu_of hr
    refine ⟨_, (pss_cons (ps_asg (pe_op op_add_str (pe_call0 (ok__law_letters T) (hr.mono (by decide)) (by rfl) T.g__law_letters T.k__law_letters T.b__law_letters .nil pass0) pe_str) (pg_name (i := 1) sc__law_source.nd rfl (Or.inl rfl)))
    (Evl.pss_cut (ps_if (pt_cmpR op_eq (pe_call (ok__law_pick T) (hr.mono (by decide)) (by rfl) T.g__law_pick T.k__law_pick T.b__law_pick .nil pass0 (pa_cons (pv 0) (pa_cons pe_int pa_nil))) pe_int (nomark _)) (pss_one (ps_asg pe_str (pg_name (i := 1) sc__law_source.nd rfl (Or.inl rfl)))) pss_nil)
    (pss_cons (ps_asg pe_str (pg_name (i := 2) sc__law_source.nd rfl (Or.inl rfl)))
    (pss_cons (ps_asg (pe_call (ok__law_pick T) (hr.mono (by decide)) (by rfl) T.g__law_pick T.k__law_pick T.b__law_pick .nil pass0 (pa_cons (pv 0) (pa_cons pe_int pa_nil))) (pg_name (i := 3) sc__law_source.nd rfl (Or.inl rfl)))
    (Evl.pss_cut (ps_if (pt_cmpR op_eq (pe_call (ok__law_pick T) (hr.mono (by decide)) (by rfl) T.g__law_pick T.k__law_pick T.b__law_pick .nil pass0 (pa_cons (pv 0) (pa_cons pe_int pa_nil))) pe_int (nomark _)) (pss_one (ps_asg (pe_call (ok__law_pick T) (hr.mono (by decide)) (by rfl) T.g__law_pick T.k__law_pick T.b__law_pick .nil pass0 (pa_cons (pv 0) (pa_cons pe_int pa_nil))) (pg_name (i := 3) sc__law_source.nd rfl (Or.inl rfl)))) pss_nil)
    (pss_cons (ps_for PassesOwn.never rfl (pi_range1 (by rfl) T.z_range (pa_cons (pv 3) pa_nil)) (pg_name (i := 4) sc__law_source.nd rfl (Or.inl rfl))
      (pss_one (ps_asg (pe_op op_add_str (pv 2) (pe_item_str (pv 1) (pe_call (ok__law_pick T) (hr.mono (by decide)) (by rfl) T.g__law_pick T.k__law_pick T.b__law_pick .nil pass0 (pa_cons (pv 0) (pa_cons (pe_callB call_len_str (by rfl) T.z_len PySem.boot_len (pa_cons (pv 1) pa_nil)) pa_nil))) (fun _ _ => rfl))) (pg_name (i := 2) sc__law_source.nd rfl (Or.inl rfl)))))
    (Evl.pss_cut (ps_if (pt_cmpR op_eq (pe_call (ok__law_pick T) (hr.mono (by decide)) (by rfl) T.g__law_pick T.k__law_pick T.b__law_pick .nil pass0 (pa_cons (pv 0) (pa_cons pe_int pa_nil))) pe_int (nomark _)) (pss_one (ps_asg (pe_op op_add_str (pv 2) (pe_op op_repS pe_str (pe_op op_add pe_int (pe_call (ok__law_pick T) (hr.mono (by decide)) (by rfl) T.g__law_pick T.k__law_pick T.b__law_pick .nil pass0 (pa_cons (pv 0) (pa_cons pe_int pa_nil)))))) (pg_name (i := 2) sc__law_source.nd rfl (Or.inl rfl)))) pss_nil)
    (Evl.pss_cut (ps_if (pt_cmpR op_eq (pe_call (ok__law_pick T) (hr.mono (by decide)) (by rfl) T.g__law_pick T.k__law_pick T.b__law_pick .nil pass0 (pa_cons (pv 0) (pa_cons pe_int pa_nil))) pe_int (nomark _)) (pss_one (ps_asg (pe_op op_add_str (pv 2) (pe_op op_repS pe_str (pe_op op_add pe_int (pe_call (ok__law_pick T) (hr.mono (by decide)) (by rfl) T.g__law_pick T.k__law_pick T.b__law_pick .nil pass0 (pa_cons (pv 0) (pa_cons pe_int pa_nil)))))) (pg_name (i := 2) sc__law_source.nd rfl (Or.inl rfl)))) pss_nil)
    (Evl.pss_cut (ps_if (pt_cmpR op_eq (pe_call (ok__law_pick T) (hr.mono (by decide)) (by rfl) T.g__law_pick T.k__law_pick T.b__law_pick .nil pass0 (pa_cons (pv 0) (pa_cons pe_int pa_nil))) pe_int (nomark _)) (pss_one (ps_asg (pe_op op_add_str (pv 2) (pe_op op_repS pe_str (pe_op op_sub (pe_op op_add pe_int (pe_call (ok__law_pick T) (hr.mono (by decide)) (by rfl) T.g__law_pick T.k__law_pick T.b__law_pick .nil pass0 (pa_cons (pv 0) (pa_cons pe_int pa_nil)))) (pe_callB call_len_str (by rfl) T.z_len PySem.boot_len (pa_cons (pv 2) pa_nil))))) (pg_name (i := 2) sc__law_source.nd rfl (Or.inl rfl)))) pss_nil)
    (pss_one (ps_ret (pv 2)))))))))))), ?_⟩
    obtain ⟨p, rfl, hp, k⟩ := h
    simp (config := { maxSteps := 4000000 }) only [tSeq, tNext, tDrop, tRet, tRetN, tIfS, tAsg, tTest, tAnd, tOr, tNot, tAndV, tOrV, tNotV, tIf, tOp, tUn, tVar, tC, tCB, tCons, tNil, tCall, tPart, tNoPart, tM0, tM1, tTup, tLst, tB, tIsN, tNotN, rI0, rI, rU, rEq, rNe, rAdd, gName, gTup, gCons, gNil, gSub, rSetL, rIxL, rIxT, rIxS, L2.start,
      List.map_cons, List.map_nil, List.cons_append, List.nil_append, List.append_nil, List.length_cons, List.length_nil, List.replicate, List.getElem?_cons_zero, List.getElem?_cons_succ, List.set_cons_zero, List.set_cons_succ, Nat.reduceAdd, Nat.reduceSub, Nat.sub_self, Nat.zero_add,
      Option.some.injEq, V.int.injEq, V.str.injEq, V.bl.injEq, V.ref.injEq, V.ty.injEq, List.cons.injEq, and_true, true_and, exists_eq_left, exists_eq_left', exists_eq_right, exists_and_left, exists_and_right, exists_const, decide_eq_true_eq, decide_eq_false_iff_not, if_true, if_false, reduceIte, Bool.false_eq_true, Bool.not_eq_true', sc_ii, sc_ss, sc_bb, str1, cx_K, lstAt, rIxM, rSetM, rLenM, atI_0, atI_1, atI_2, atI_3, setI_0, setI_1, setI_2, setI_3, upd_same, upd_upd, ite_true, ite_false, exists_eq', eq_self, and_assoc, rIsS, isTy_bb, isTy_bi, isTy_ib, isTy_ii, isTy_ss, isTy_nb, isTy_ni, Bool.not_true, Bool.not_false, not_true_eq_false, not_false_eq_true, tChain, tRz1, tRz2, rIsX, tFx, tMethE, tCallS, tCallZ, tMeth, tMake, tFld, sFld, HO.ins.injEq, HO.lst.injEq, HO.dK.injEq, HO.tup.injEq, dcAt, dcRd, rDInM, rDGetM, rDSetM, rDLenM, keyOf_int, keyOf_str, rIsBM, plainV_b, plainV_i, plainV_n, plainV_s, rInM, rListM, rSortM, rSumM, rIsD, tBMM, tBM0M, tSl, rSlM, rAppend, rPop, rClear, wAs, reduceCtorEq, false_implies, true_implies, implies_true, forall_const, cxH_K, clsV_ref, clsV_ty, HO.xd.injEq, Value.ref.injEq, lkc, lkn, pfn, pfc, List.map_nil, rExtend, rCat, rRep, tMethE0, rSortD, rPush, rPopH, tDGetM, gAll, iRev, tCB, sDDel, wPair, tBreak, tDelT, rDLenR, tMethN]
    refine ⟨rfl, sM, rfl, by decide, fun σ' H' => ∃ ch : Str, σ' = [some (.ref p), some (.str ch), none, none, none] ∧ 0 < ch.length ∧ ch.length ≤ 1000 ∧ StAt K H' p ∧ But p H H', ?_, ?_⟩
    · simp (config := { maxSteps := 4000000 }) only [tSeq, tNext, tDrop, tRet, tRetN, tIfS, tAsg, tTest, tAnd, tOr, tNot, tAndV, tOrV, tNotV, tIf, tOp, tUn, tVar, tC, tCB, tCons, tNil, tCall, tPart, tNoPart, tM0, tM1, tTup, tLst, tB, tIsN, tNotN, rI0, rI, rU, rEq, rNe, rAdd, gName, gTup, gCons, gNil, gSub, rSetL, rIxL, rIxT, rIxS, L2.start,
      List.map_cons, List.map_nil, List.cons_append, List.nil_append, List.append_nil, List.length_cons, List.length_nil, List.replicate, List.getElem?_cons_zero, List.getElem?_cons_succ, List.set_cons_zero, List.set_cons_succ, Nat.reduceAdd, Nat.reduceSub, Nat.sub_self, Nat.zero_add,
      Option.some.injEq, V.int.injEq, V.str.injEq, V.bl.injEq, V.ref.injEq, V.ty.injEq, List.cons.injEq, and_true, true_and, exists_eq_left, exists_eq_left', exists_eq_right, exists_and_left, exists_and_right, exists_const, decide_eq_true_eq, decide_eq_false_iff_not, if_true, if_false, reduceIte, Bool.false_eq_true, Bool.not_eq_true', sc_ii, sc_ss, sc_bb, str1, cx_K, lstAt, rIxM, rSetM, rLenM, atI_0, atI_1, atI_2, atI_3, setI_0, setI_1, setI_2, setI_3, upd_same, upd_upd, ite_true, ite_false, exists_eq', eq_self, and_assoc, rIsS, isTy_bb, isTy_bi, isTy_ib, isTy_ii, isTy_ss, isTy_nb, isTy_ni, Bool.not_true, Bool.not_false, not_true_eq_false, not_false_eq_true, tChain, tRz1, tRz2, rIsX, tFx, tMethE, tCallS, tCallZ, tMeth, tMake, tFld, sFld, HO.ins.injEq, HO.lst.injEq, HO.dK.injEq, HO.tup.injEq, dcAt, dcRd, rDInM, rDGetM, rDSetM, rDLenM, keyOf_int, keyOf_str, rIsBM, plainV_b, plainV_i, plainV_n, plainV_s, rInM, rListM, rSortM, rSumM, rIsD, tBMM, tBM0M, tSl, rSlM, rAppend, rPop, rClear, wAs, reduceCtorEq, false_implies, true_implies, implies_true, forall_const, cxH_K, clsV_ref, clsV_ty, HO.xd.injEq, Value.ref.injEq, lkc, lkn, pfn, pfc, List.map_nil, rExtend, rCat, rRep, tMethE0, rSortD, rPush, rPopH, tDGetM, gAll, iRev, tCB, sDDel, wPair, tBreak, tDelT, rDLenR, tMethN]
      refine ⟨p, 2, rfl, hp, by decide, by decide, fun d2 H2 hd20 hd21 hp2 hb2 => ?_⟩
      simp (config := { maxSteps := 4000000 }) only [tSeq, tNext, tDrop, tRet, tRetN, tIfS, tAsg, tTest, tAnd, tOr, tNot, tAndV, tOrV, tNotV, tIf, tOp, tUn, tVar, tC, tCB, tCons, tNil, tCall, tPart, tNoPart, tM0, tM1, tTup, tLst, tB, tIsN, tNotN, rI0, rI, rU, rEq, rNe, rAdd, gName, gTup, gCons, gNil, gSub, rSetL, rIxL, rIxT, rIxS, L2.start,
      List.map_cons, List.map_nil, List.cons_append, List.nil_append, List.append_nil, List.length_cons, List.length_nil, List.replicate, List.getElem?_cons_zero, List.getElem?_cons_succ, List.set_cons_zero, List.set_cons_succ, Nat.reduceAdd, Nat.reduceSub, Nat.sub_self, Nat.zero_add,
      Option.some.injEq, V.int.injEq, V.str.injEq, V.bl.injEq, V.ref.injEq, V.ty.injEq, List.cons.injEq, and_true, true_and, exists_eq_left, exists_eq_left', exists_eq_right, exists_and_left, exists_and_right, exists_const, decide_eq_true_eq, decide_eq_false_iff_not, if_true, if_false, reduceIte, Bool.false_eq_true, Bool.not_eq_true', sc_ii, sc_ss, sc_bb, str1, cx_K, lstAt, rIxM, rSetM, rLenM, atI_0, atI_1, atI_2, atI_3, setI_0, setI_1, setI_2, setI_3, upd_same, upd_upd, ite_true, ite_false, exists_eq', eq_self, and_assoc, rIsS, isTy_bb, isTy_bi, isTy_ib, isTy_ii, isTy_ss, isTy_nb, isTy_ni, Bool.not_true, Bool.not_false, not_true_eq_false, not_false_eq_true, tChain, tRz1, tRz2, rIsX, tFx, tMethE, tCallS, tCallZ, tMeth, tMake, tFld, sFld, HO.ins.injEq, HO.lst.injEq, HO.dK.injEq, HO.tup.injEq, dcAt, dcRd, rDInM, rDGetM, rDSetM, rDLenM, keyOf_int, keyOf_str, rIsBM, plainV_b, plainV_i, plainV_n, plainV_s, rInM, rListM, rSortM, rSumM, rIsD, tBMM, tBM0M, tSl, rSlM, rAppend, rPop, rClear, wAs, reduceCtorEq, false_implies, true_implies, implies_true, forall_const, cxH_K, clsV_ref, clsV_ty, HO.xd.injEq, Value.ref.injEq, lkc, lkn, pfn, pfc, List.map_nil, rExtend, rCat, rRep, tMethE0, rSortD, rPush, rPopH, tDGetM, gAll, iRev, tCB, sDDel, wPair, tBreak, tDelT, rDLenR, tMethN]
      exact ite2 (fun h => ⟨by decide, by decide, hp2, hb2⟩) (fun h => ⟨by decide, by decide, hp2, hb2⟩)
    · rintro σ' H1 ⟨ch, rfl, hc0, hc1, hp1, hb1⟩
      simp (config := { maxSteps := 4000000 }) only [tSeq, tNext, tDrop, tRet, tRetN, tIfS, tAsg, tTest, tAnd, tOr, tNot, tAndV, tOrV, tNotV, tIf, tOp, tUn, tVar, tC, tCB, tCons, tNil, tCall, tPart, tNoPart, tM0, tM1, tTup, tLst, tB, tIsN, tNotN, rI0, rI, rU, rEq, rNe, rAdd, gName, gTup, gCons, gNil, gSub, rSetL, rIxL, rIxT, rIxS, L2.start,
      List.map_cons, List.map_nil, List.cons_append, List.nil_append, List.append_nil, List.length_cons, List.length_nil, List.replicate, List.getElem?_cons_zero, List.getElem?_cons_succ, List.set_cons_zero, List.set_cons_succ, Nat.reduceAdd, Nat.reduceSub, Nat.sub_self, Nat.zero_add,
      Option.some.injEq, V.int.injEq, V.str.injEq, V.bl.injEq, V.ref.injEq, V.ty.injEq, List.cons.injEq, and_true, true_and, exists_eq_left, exists_eq_left', exists_eq_right, exists_and_left, exists_and_right, exists_const, decide_eq_true_eq, decide_eq_false_iff_not, if_true, if_false, reduceIte, Bool.false_eq_true, Bool.not_eq_true', sc_ii, sc_ss, sc_bb, str1, cx_K, lstAt, rIxM, rSetM, rLenM, atI_0, atI_1, atI_2, atI_3, setI_0, setI_1, setI_2, setI_3, upd_same, upd_upd, ite_true, ite_false, exists_eq', eq_self, and_assoc, rIsS, isTy_bb, isTy_bi, isTy_ib, isTy_ii, isTy_ss, isTy_nb, isTy_ni, Bool.not_true, Bool.not_false, not_true_eq_false, not_false_eq_true, tChain, tRz1, tRz2, rIsX, tFx, tMethE, tCallS, tCallZ, tMeth, tMake, tFld, sFld, HO.ins.injEq, HO.lst.injEq, HO.dK.injEq, HO.tup.injEq, dcAt, dcRd, rDInM, rDGetM, rDSetM, rDLenM, keyOf_int, keyOf_str, rIsBM, plainV_b, plainV_i, plainV_n, plainV_s, rInM, rListM, rSortM, rSumM, rIsD, tBMM, tBM0M, tSl, rSlM, rAppend, rPop, rClear, wAs, reduceCtorEq, false_implies, true_implies, implies_true, forall_const, cxH_K, clsV_ref, clsV_ty, HO.xd.injEq, Value.ref.injEq, lkc, lkn, pfn, pfc, List.map_nil, rExtend, rCat, rRep, tMethE0, rSortD, rPush, rPopH, tDGetM, gAll, iRev, tCB, sDDel, wPair, tBreak, tDelT, rDLenR, tMethN]
      refine ⟨p, 8, rfl, hp1, by decide, by decide, fun d2 H2 hd20 hd21 hp2 hb2 => ?_⟩
      refine ⟨fun σ' H' => ∃ n : Int, σ' = [some (.ref p), some (.str ch), some (.str ""), some (.int n), none] ∧ 0 ≤ n ∧ n ≤ 41 ∧ StAt K H' p ∧ But p H H', ?_, ?_⟩
      · simp (config := { maxSteps := 4000000 }) only [tSeq, tNext, tDrop, tRet, tRetN, tIfS, tAsg, tTest, tAnd, tOr, tNot, tAndV, tOrV, tNotV, tIf, tOp, tUn, tVar, tC, tCB, tCons, tNil, tCall, tPart, tNoPart, tM0, tM1, tTup, tLst, tB, tIsN, tNotN, rI0, rI, rU, rEq, rNe, rAdd, gName, gTup, gCons, gNil, gSub, rSetL, rIxL, rIxT, rIxS, L2.start,
      List.map_cons, List.map_nil, List.cons_append, List.nil_append, List.append_nil, List.length_cons, List.length_nil, List.replicate, List.getElem?_cons_zero, List.getElem?_cons_succ, List.set_cons_zero, List.set_cons_succ, Nat.reduceAdd, Nat.reduceSub, Nat.sub_self, Nat.zero_add,
      Option.some.injEq, V.int.injEq, V.str.injEq, V.bl.injEq, V.ref.injEq, V.ty.injEq, List.cons.injEq, and_true, true_and, exists_eq_left, exists_eq_left', exists_eq_right, exists_and_left, exists_and_right, exists_const, decide_eq_true_eq, decide_eq_false_iff_not, if_true, if_false, reduceIte, Bool.false_eq_true, Bool.not_eq_true', sc_ii, sc_ss, sc_bb, str1, cx_K, lstAt, rIxM, rSetM, rLenM, atI_0, atI_1, atI_2, atI_3, setI_0, setI_1, setI_2, setI_3, upd_same, upd_upd, ite_true, ite_false, exists_eq', eq_self, and_assoc, rIsS, isTy_bb, isTy_bi, isTy_ib, isTy_ii, isTy_ss, isTy_nb, isTy_ni, Bool.not_true, Bool.not_false, not_true_eq_false, not_false_eq_true, tChain, tRz1, tRz2, rIsX, tFx, tMethE, tCallS, tCallZ, tMeth, tMake, tFld, sFld, HO.ins.injEq, HO.lst.injEq, HO.dK.injEq, HO.tup.injEq, dcAt, dcRd, rDInM, rDGetM, rDSetM, rDLenM, keyOf_int, keyOf_str, rIsBM, plainV_b, plainV_i, plainV_n, plainV_s, rInM, rListM, rSortM, rSumM, rIsD, tBMM, tBM0M, tSl, rSlM, rAppend, rPop, rClear, wAs, reduceCtorEq, false_implies, true_implies, implies_true, forall_const, cxH_K, clsV_ref, clsV_ty, HO.xd.injEq, Value.ref.injEq, lkc, lkn, pfn, pfc, List.map_nil, rExtend, rCat, rRep, tMethE0, rSortD, rPush, rPopH, tDGetM, gAll, iRev, tCB, sDDel, wPair, tBreak, tDelT, rDLenR, tMethN]
        refine ⟨p, 2, rfl, hp2, by decide, by decide, fun d3 H3 hd30 hd31 hp3 hb3 => ?_⟩
        simp (config := { maxSteps := 4000000 }) only [tSeq, tNext, tDrop, tRet, tRetN, tIfS, tAsg, tTest, tAnd, tOr, tNot, tAndV, tOrV, tNotV, tIf, tOp, tUn, tVar, tC, tCB, tCons, tNil, tCall, tPart, tNoPart, tM0, tM1, tTup, tLst, tB, tIsN, tNotN, rI0, rI, rU, rEq, rNe, rAdd, gName, gTup, gCons, gNil, gSub, rSetL, rIxL, rIxT, rIxS, L2.start,
      List.map_cons, List.map_nil, List.cons_append, List.nil_append, List.append_nil, List.length_cons, List.length_nil, List.replicate, List.getElem?_cons_zero, List.getElem?_cons_succ, List.set_cons_zero, List.set_cons_succ, Nat.reduceAdd, Nat.reduceSub, Nat.sub_self, Nat.zero_add,
      Option.some.injEq, V.int.injEq, V.str.injEq, V.bl.injEq, V.ref.injEq, V.ty.injEq, List.cons.injEq, and_true, true_and, exists_eq_left, exists_eq_left', exists_eq_right, exists_and_left, exists_and_right, exists_const, decide_eq_true_eq, decide_eq_false_iff_not, if_true, if_false, reduceIte, Bool.false_eq_true, Bool.not_eq_true', sc_ii, sc_ss, sc_bb, str1, cx_K, lstAt, rIxM, rSetM, rLenM, atI_0, atI_1, atI_2, atI_3, setI_0, setI_1, setI_2, setI_3, upd_same, upd_upd, ite_true, ite_false, exists_eq', eq_self, and_assoc, rIsS, isTy_bb, isTy_bi, isTy_ib, isTy_ii, isTy_ss, isTy_nb, isTy_ni, Bool.not_true, Bool.not_false, not_true_eq_false, not_false_eq_true, tChain, tRz1, tRz2, rIsX, tFx, tMethE, tCallS, tCallZ, tMeth, tMake, tFld, sFld, HO.ins.injEq, HO.lst.injEq, HO.dK.injEq, HO.tup.injEq, dcAt, dcRd, rDInM, rDGetM, rDSetM, rDLenM, keyOf_int, keyOf_str, rIsBM, plainV_b, plainV_i, plainV_n, plainV_s, rInM, rListM, rSortM, rSumM, rIsD, tBMM, tBM0M, tSl, rSlM, rAppend, rPop, rClear, wAs, reduceCtorEq, false_implies, true_implies, implies_true, forall_const, cxH_K, clsV_ref, clsV_ty, HO.xd.injEq, Value.ref.injEq, lkc, lkn, pfn, pfc, List.map_nil, rExtend, rCat, rRep, tMethE0, rSortD, rPush, rPopH, tDGetM, gAll, iRev, tCB, sDDel, wPair, tBreak, tDelT, rDLenR, tMethN]
        exact ite2 (fun h => ⟨p, 41, rfl, hp3, by decide, by decide, fun d4 H4 h40 h41 hp4 hb4 => ⟨d4, rfl, h40, by omega, hp4, ((hb1.trans hb2).trans hb3).trans hb4⟩⟩) (fun h => ⟨hd20, by omega, hp3, (hb1.trans hb2).trans hb3⟩)
      · rintro σ' H3 ⟨n, rfl, hn0, hn1, hp3, hb3⟩
        simp (config := { maxSteps := 4000000 }) only [tSeq, tNext, tDrop, tRet, tRetN, tIfS, tAsg, tTest, tAnd, tOr, tNot, tAndV, tOrV, tNotV, tIf, tOp, tUn, tVar, tC, tCB, tCons, tNil, tCall, tPart, tNoPart, tM0, tM1, tTup, tLst, tB, tIsN, tNotN, rI0, rI, rU, rEq, rNe, rAdd, gName, gTup, gCons, gNil, gSub, rSetL, rIxL, rIxT, rIxS, L2.start,
      List.map_cons, List.map_nil, List.cons_append, List.nil_append, List.append_nil, List.length_cons, List.length_nil, List.replicate, List.getElem?_cons_zero, List.getElem?_cons_succ, List.set_cons_zero, List.set_cons_succ, Nat.reduceAdd, Nat.reduceSub, Nat.sub_self, Nat.zero_add,
      Option.some.injEq, V.int.injEq, V.str.injEq, V.bl.injEq, V.ref.injEq, V.ty.injEq, List.cons.injEq, and_true, true_and, exists_eq_left, exists_eq_left', exists_eq_right, exists_and_left, exists_and_right, exists_const, decide_eq_true_eq, decide_eq_false_iff_not, if_true, if_false, reduceIte, Bool.false_eq_true, Bool.not_eq_true', sc_ii, sc_ss, sc_bb, str1, cx_K, lstAt, rIxM, rSetM, rLenM, atI_0, atI_1, atI_2, atI_3, setI_0, setI_1, setI_2, setI_3, upd_same, upd_upd, ite_true, ite_false, exists_eq', eq_self, and_assoc, rIsS, isTy_bb, isTy_bi, isTy_ib, isTy_ii, isTy_ss, isTy_nb, isTy_ni, Bool.not_true, Bool.not_false, not_true_eq_false, not_false_eq_true, tChain, tRz1, tRz2, rIsX, tFx, tMethE, tCallS, tCallZ, tMeth, tMake, tFld, sFld, HO.ins.injEq, HO.lst.injEq, HO.dK.injEq, HO.tup.injEq, dcAt, dcRd, rDInM, rDGetM, rDSetM, rDLenM, keyOf_int, keyOf_str, rIsBM, plainV_b, plainV_i, plainV_n, plainV_s, rInM, rListM, rSortM, rSumM, rIsD, tBMM, tBM0M, tSl, rSlM, rAppend, rPop, rClear, wAs, reduceCtorEq, false_implies, true_implies, implies_true, forall_const, cxH_K, clsV_ref, clsV_ty, HO.xd.injEq, Value.ref.injEq, lkc, lkn, pfn, pfc, List.map_nil, rExtend, rCat, rRep, tMethE0, rSortD, rPush, rPopH, tDGetM, gAll, iRev, tCB, sDDel, wPair, tBreak, tDelT, rDLenR, tMethN]
        refine ⟨_, rfl, n, rfl, by omega, by omega, for_range (lo := 0) (n := n.toNat) (fun i σ' H' => ∃ (x : Str) (kk : Option V), σ' = [some (.ref p), some (.str ch), some (.str x), some (.int n), kk] ∧ x.length ≤ i ∧ StAt K H' p ∧ But p H H') ⟨"", none, rfl, by decide, hp3, hb3⟩ ?_ ?_⟩
        · rintro i σ' H3 hi ⟨x, kk, rfl, hx, hp3, hb3⟩
          simp (config := { maxSteps := 4000000 }) only [tSeq, tNext, tDrop, tRet, tRetN, tIfS, tAsg, tTest, tAnd, tOr, tNot, tAndV, tOrV, tNotV, tIf, tOp, tUn, tVar, tC, tCB, tCons, tNil, tCall, tPart, tNoPart, tM0, tM1, tTup, tLst, tB, tIsN, tNotN, rI0, rI, rU, rEq, rNe, rAdd, gName, gTup, gCons, gNil, gSub, rSetL, rIxL, rIxT, rIxS, L2.start,
      List.map_cons, List.map_nil, List.cons_append, List.nil_append, List.append_nil, List.length_cons, List.length_nil, List.replicate, List.getElem?_cons_zero, List.getElem?_cons_succ, List.set_cons_zero, List.set_cons_succ, Nat.reduceAdd, Nat.reduceSub, Nat.sub_self, Nat.zero_add,
      Option.some.injEq, V.int.injEq, V.str.injEq, V.bl.injEq, V.ref.injEq, V.ty.injEq, List.cons.injEq, and_true, true_and, exists_eq_left, exists_eq_left', exists_eq_right, exists_and_left, exists_and_right, exists_const, decide_eq_true_eq, decide_eq_false_iff_not, if_true, if_false, reduceIte, Bool.false_eq_true, Bool.not_eq_true', sc_ii, sc_ss, sc_bb, str1, cx_K, lstAt, rIxM, rSetM, rLenM, atI_0, atI_1, atI_2, atI_3, setI_0, setI_1, setI_2, setI_3, upd_same, upd_upd, ite_true, ite_false, exists_eq', eq_self, and_assoc, rIsS, isTy_bb, isTy_bi, isTy_ib, isTy_ii, isTy_ss, isTy_nb, isTy_ni, Bool.not_true, Bool.not_false, not_true_eq_false, not_false_eq_true, tChain, tRz1, tRz2, rIsX, tFx, tMethE, tCallS, tCallZ, tMeth, tMake, tFld, sFld, HO.ins.injEq, HO.lst.injEq, HO.dK.injEq, HO.tup.injEq, dcAt, dcRd, rDInM, rDGetM, rDSetM, rDLenM, keyOf_int, keyOf_str, rIsBM, plainV_b, plainV_i, plainV_n, plainV_s, rInM, rListM, rSortM, rSumM, rIsD, tBMM, tBM0M, tSl, rSlM, rAppend, rPop, rClear, wAs, reduceCtorEq, false_implies, true_implies, implies_true, forall_const, cxH_K, clsV_ref, clsV_ty, HO.xd.injEq, Value.ref.injEq, lkc, lkn, pfn, pfc, List.map_nil, rExtend, rCat, rRep, tMethE0, rSortD, rPush, rPopH, tDGetM, gAll, iRev, tCB, sDDel, wPair, tBreak, tDelT, rDLenR, tMethN]
          refine ⟨Nat.le_trans hc1 (by decide), p, _, rfl, hp3, by omega, by omega, fun d H4 hd0 hd1 hp4 hb4 => ?_⟩
          have hlt : d.toNat < (cl ch).length := by
            rw [← len_cl]
            omega
          have hat : ch.cps[d.toNat]? = some ((cl ch)[d.toNat]) := by rw [at_cl, List.getElem?_eq_getElem hlt]
          simp (config := { maxSteps := 4000000 }) only [tSeq, tNext, tDrop, tRet, tRetN, tIfS, tAsg, tTest, tAnd, tOr, tNot, tAndV, tOrV, tNotV, tIf, tOp, tUn, tVar, tC, tCB, tCons, tNil, tCall, tPart, tNoPart, tM0, tM1, tTup, tLst, tB, tIsN, tNotN, rI0, rI, rU, rEq, rNe, rAdd, gName, gTup, gCons, gNil, gSub, rSetL, rIxL, rIxT, rIxS, L2.start,
      List.map_cons, List.map_nil, List.cons_append, List.nil_append, List.append_nil, List.length_cons, List.length_nil, List.replicate, List.getElem?_cons_zero, List.getElem?_cons_succ, List.set_cons_zero, List.set_cons_succ, Nat.reduceAdd, Nat.reduceSub, Nat.sub_self, Nat.zero_add,
      Option.some.injEq, V.int.injEq, V.str.injEq, V.bl.injEq, V.ref.injEq, V.ty.injEq, List.cons.injEq, and_true, true_and, exists_eq_left, exists_eq_left', exists_eq_right, exists_and_left, exists_and_right, exists_const, decide_eq_true_eq, decide_eq_false_iff_not, if_true, if_false, reduceIte, Bool.false_eq_true, Bool.not_eq_true', sc_ii, sc_ss, sc_bb, str1, cx_K, lstAt, rIxM, rSetM, rLenM, atI_0, atI_1, atI_2, atI_3, setI_0, setI_1, setI_2, setI_3, upd_same, upd_upd, ite_true, ite_false, exists_eq', eq_self, and_assoc, rIsS, isTy_bb, isTy_bi, isTy_ib, isTy_ii, isTy_ss, isTy_nb, isTy_ni, Bool.not_true, Bool.not_false, not_true_eq_false, not_false_eq_true, tChain, tRz1, tRz2, rIsX, tFx, tMethE, tCallS, tCallZ, tMeth, tMake, tFld, sFld, HO.ins.injEq, HO.lst.injEq, HO.dK.injEq, HO.tup.injEq, dcAt, dcRd, rDInM, rDGetM, rDSetM, rDLenM, keyOf_int, keyOf_str, rIsBM, plainV_b, plainV_i, plainV_n, plainV_s, rInM, rListM, rSortM, rSumM, rIsD, tBMM, tBM0M, tSl, rSlM, rAppend, rPop, rClear, wAs, reduceCtorEq, false_implies, true_implies, implies_true, forall_const, cxH_K, clsV_ref, clsV_ty, HO.xd.injEq, Value.ref.injEq, lkc, lkn, pfn, pfc, List.map_nil, rExtend, rCat, rRep, tMethE0, rSortD, rPush, rPopH, tDGetM, gAll, iRev, tCB, sDDel, wPair, tBreak, tDelT, rDLenR, tMethN]
          refine ⟨hd0, by omega, hd1, _, hat, ?_, ?_, hp4, hb3.trans hb4⟩
          · show x.length + 1 ≤ sizeLine
            have : (1000 : Nat) ≤ sizeLine := by decide
            omega
          · rw [len_cl, cl_append, List.length_append, ← len_cl]
            show x.length + 1 ≤ i + 1
            omega
        · rintro σ' H3 ⟨x, kk, rfl, hx, hp3, hb3⟩
          refine ⟨fun σ' H' => ∃ (x : Str), σ' = [some (.ref p), some (.str ch), some (.str x), some (.int n), kk] ∧ x.length ≤ 100 ∧ StAt K H' p ∧ But p H H', ?_, ?_⟩
          · simp (config := { maxSteps := 4000000 }) only [tSeq, tNext, tDrop, tRet, tRetN, tIfS, tAsg, tTest, tAnd, tOr, tNot, tAndV, tOrV, tNotV, tIf, tOp, tUn, tVar, tC, tCB, tCons, tNil, tCall, tPart, tNoPart, tM0, tM1, tTup, tLst, tB, tIsN, tNotN, rI0, rI, rU, rEq, rNe, rAdd, gName, gTup, gCons, gNil, gSub, rSetL, rIxL, rIxT, rIxS, L2.start,
      List.map_cons, List.map_nil, List.cons_append, List.nil_append, List.append_nil, List.length_cons, List.length_nil, List.replicate, List.getElem?_cons_zero, List.getElem?_cons_succ, List.set_cons_zero, List.set_cons_succ, Nat.reduceAdd, Nat.reduceSub, Nat.sub_self, Nat.zero_add,
      Option.some.injEq, V.int.injEq, V.str.injEq, V.bl.injEq, V.ref.injEq, V.ty.injEq, List.cons.injEq, and_true, true_and, exists_eq_left, exists_eq_left', exists_eq_right, exists_and_left, exists_and_right, exists_const, decide_eq_true_eq, decide_eq_false_iff_not, if_true, if_false, reduceIte, Bool.false_eq_true, Bool.not_eq_true', sc_ii, sc_ss, sc_bb, str1, cx_K, lstAt, rIxM, rSetM, rLenM, atI_0, atI_1, atI_2, atI_3, setI_0, setI_1, setI_2, setI_3, upd_same, upd_upd, ite_true, ite_false, exists_eq', eq_self, and_assoc, rIsS, isTy_bb, isTy_bi, isTy_ib, isTy_ii, isTy_ss, isTy_nb, isTy_ni, Bool.not_true, Bool.not_false, not_true_eq_false, not_false_eq_true, tChain, tRz1, tRz2, rIsX, tFx, tMethE, tCallS, tCallZ, tMeth, tMake, tFld, sFld, HO.ins.injEq, HO.lst.injEq, HO.dK.injEq, HO.tup.injEq, dcAt, dcRd, rDInM, rDGetM, rDSetM, rDLenM, keyOf_int, keyOf_str, rIsBM, plainV_b, plainV_i, plainV_n, plainV_s, rInM, rListM, rSortM, rSumM, rIsD, tBMM, tBM0M, tSl, rSlM, rAppend, rPop, rClear, wAs, reduceCtorEq, false_implies, true_implies, implies_true, forall_const, cxH_K, clsV_ref, clsV_ty, HO.xd.injEq, Value.ref.injEq, lkc, lkn, pfn, pfc, List.map_nil, rExtend, rCat, rRep, tMethE0, rSortD, rPush, rPopH, tDGetM, gAll, iRev, tCB, sDDel, wPair, tBreak, tDelT, rDLenR, tMethN]
            refine ⟨p, 10, rfl, hp3, by decide, by decide, fun d H4 hd0 hd1 hp4 hb4 => ?_⟩
            simp (config := { maxSteps := 4000000 }) only [tSeq, tNext, tDrop, tRet, tRetN, tIfS, tAsg, tTest, tAnd, tOr, tNot, tAndV, tOrV, tNotV, tIf, tOp, tUn, tVar, tC, tCB, tCons, tNil, tCall, tPart, tNoPart, tM0, tM1, tTup, tLst, tB, tIsN, tNotN, rI0, rI, rU, rEq, rNe, rAdd, gName, gTup, gCons, gNil, gSub, rSetL, rIxL, rIxT, rIxS, L2.start,
      List.map_cons, List.map_nil, List.cons_append, List.nil_append, List.append_nil, List.length_cons, List.length_nil, List.replicate, List.getElem?_cons_zero, List.getElem?_cons_succ, List.set_cons_zero, List.set_cons_succ, Nat.reduceAdd, Nat.reduceSub, Nat.sub_self, Nat.zero_add,
      Option.some.injEq, V.int.injEq, V.str.injEq, V.bl.injEq, V.ref.injEq, V.ty.injEq, List.cons.injEq, and_true, true_and, exists_eq_left, exists_eq_left', exists_eq_right, exists_and_left, exists_and_right, exists_const, decide_eq_true_eq, decide_eq_false_iff_not, if_true, if_false, reduceIte, Bool.false_eq_true, Bool.not_eq_true', sc_ii, sc_ss, sc_bb, str1, cx_K, lstAt, rIxM, rSetM, rLenM, atI_0, atI_1, atI_2, atI_3, setI_0, setI_1, setI_2, setI_3, upd_same, upd_upd, ite_true, ite_false, exists_eq', eq_self, and_assoc, rIsS, isTy_bb, isTy_bi, isTy_ib, isTy_ii, isTy_ss, isTy_nb, isTy_ni, Bool.not_true, Bool.not_false, not_true_eq_false, not_false_eq_true, tChain, tRz1, tRz2, rIsX, tFx, tMethE, tCallS, tCallZ, tMeth, tMake, tFld, sFld, HO.ins.injEq, HO.lst.injEq, HO.dK.injEq, HO.tup.injEq, dcAt, dcRd, rDInM, rDGetM, rDSetM, rDLenM, keyOf_int, keyOf_str, rIsBM, plainV_b, plainV_i, plainV_n, plainV_s, rInM, rListM, rSortM, rSumM, rIsD, tBMM, tBM0M, tSl, rSlM, rAppend, rPop, rClear, wAs, reduceCtorEq, false_implies, true_implies, implies_true, forall_const, cxH_K, clsV_ref, clsV_ty, HO.xd.injEq, Value.ref.injEq, lkc, lkn, pfn, pfc, List.map_nil, rExtend, rCat, rRep, tMethE0, rSortD, rPush, rPopH, tDGetM, gAll, iRev, tCB, sDDel, wPair, tBreak, tDelT, rDLenR, tMethN]
            have big : (100000 : Nat) ≤ sizeLine := by decide
            refine ite2 (fun _ => ⟨p, 5, rfl, hp4, by decide, by decide, fun e H9 he0 he1 hp9 hb9 => ⟨e, rfl, _, _, rfl, rfl, by omega, by omega, by decide, by decide, fun z hz => ?_⟩⟩) (fun _ => ⟨by omega, hp4, hb3.trans hb4⟩)
            rw [show (Str.ofString "a").length = 1 from rfl] at hz
            exact ⟨z, rfl, by omega, by rw [app_len]; omega, hp9, (hb3.trans hb4).trans hb9⟩
          · rintro σ' H4 ⟨x, rfl, hx, hp4, hb4⟩
            refine ⟨fun σ' H' => ∃ (x : Str), σ' = [some (.ref p), some (.str ch), some (.str x), some (.int n), kk] ∧ x.length ≤ 200 ∧ StAt K H' p ∧ But p H H', ?_, ?_⟩
            · simp (config := { maxSteps := 4000000 }) only [tSeq, tNext, tDrop, tRet, tRetN, tIfS, tAsg, tTest, tAnd, tOr, tNot, tAndV, tOrV, tNotV, tIf, tOp, tUn, tVar, tC, tCB, tCons, tNil, tCall, tPart, tNoPart, tM0, tM1, tTup, tLst, tB, tIsN, tNotN, rI0, rI, rU, rEq, rNe, rAdd, gName, gTup, gCons, gNil, gSub, rSetL, rIxL, rIxT, rIxS, L2.start,
      List.map_cons, List.map_nil, List.cons_append, List.nil_append, List.append_nil, List.length_cons, List.length_nil, List.replicate, List.getElem?_cons_zero, List.getElem?_cons_succ, List.set_cons_zero, List.set_cons_succ, Nat.reduceAdd, Nat.reduceSub, Nat.sub_self, Nat.zero_add,
      Option.some.injEq, V.int.injEq, V.str.injEq, V.bl.injEq, V.ref.injEq, V.ty.injEq, List.cons.injEq, and_true, true_and, exists_eq_left, exists_eq_left', exists_eq_right, exists_and_left, exists_and_right, exists_const, decide_eq_true_eq, decide_eq_false_iff_not, if_true, if_false, reduceIte, Bool.false_eq_true, Bool.not_eq_true', sc_ii, sc_ss, sc_bb, str1, cx_K, lstAt, rIxM, rSetM, rLenM, atI_0, atI_1, atI_2, atI_3, setI_0, setI_1, setI_2, setI_3, upd_same, upd_upd, ite_true, ite_false, exists_eq', eq_self, and_assoc, rIsS, isTy_bb, isTy_bi, isTy_ib, isTy_ii, isTy_ss, isTy_nb, isTy_ni, Bool.not_true, Bool.not_false, not_true_eq_false, not_false_eq_true, tChain, tRz1, tRz2, rIsX, tFx, tMethE, tCallS, tCallZ, tMeth, tMake, tFld, sFld, HO.ins.injEq, HO.lst.injEq, HO.dK.injEq, HO.tup.injEq, dcAt, dcRd, rDInM, rDGetM, rDSetM, rDLenM, keyOf_int, keyOf_str, rIsBM, plainV_b, plainV_i, plainV_n, plainV_s, rInM, rListM, rSortM, rSumM, rIsD, tBMM, tBM0M, tSl, rSlM, rAppend, rPop, rClear, wAs, reduceCtorEq, false_implies, true_implies, implies_true, forall_const, cxH_K, clsV_ref, clsV_ty, HO.xd.injEq, Value.ref.injEq, lkc, lkn, pfn, pfc, List.map_nil, rExtend, rCat, rRep, tMethE0, rSortD, rPush, rPopH, tDGetM, gAll, iRev, tCB, sDDel, wPair, tBreak, tDelT, rDLenR, tMethN]
              refine ⟨p, 10, rfl, hp4, by decide, by decide, fun d H5 hd0 hd1 hp5 hb5 => ?_⟩
              simp (config := { maxSteps := 4000000 }) only [tSeq, tNext, tDrop, tRet, tRetN, tIfS, tAsg, tTest, tAnd, tOr, tNot, tAndV, tOrV, tNotV, tIf, tOp, tUn, tVar, tC, tCB, tCons, tNil, tCall, tPart, tNoPart, tM0, tM1, tTup, tLst, tB, tIsN, tNotN, rI0, rI, rU, rEq, rNe, rAdd, gName, gTup, gCons, gNil, gSub, rSetL, rIxL, rIxT, rIxS, L2.start,
      List.map_cons, List.map_nil, List.cons_append, List.nil_append, List.append_nil, List.length_cons, List.length_nil, List.replicate, List.getElem?_cons_zero, List.getElem?_cons_succ, List.set_cons_zero, List.set_cons_succ, Nat.reduceAdd, Nat.reduceSub, Nat.sub_self, Nat.zero_add,
      Option.some.injEq, V.int.injEq, V.str.injEq, V.bl.injEq, V.ref.injEq, V.ty.injEq, List.cons.injEq, and_true, true_and, exists_eq_left, exists_eq_left', exists_eq_right, exists_and_left, exists_and_right, exists_const, decide_eq_true_eq, decide_eq_false_iff_not, if_true, if_false, reduceIte, Bool.false_eq_true, Bool.not_eq_true', sc_ii, sc_ss, sc_bb, str1, cx_K, lstAt, rIxM, rSetM, rLenM, atI_0, atI_1, atI_2, atI_3, setI_0, setI_1, setI_2, setI_3, upd_same, upd_upd, ite_true, ite_false, exists_eq', eq_self, and_assoc, rIsS, isTy_bb, isTy_bi, isTy_ib, isTy_ii, isTy_ss, isTy_nb, isTy_ni, Bool.not_true, Bool.not_false, not_true_eq_false, not_false_eq_true, tChain, tRz1, tRz2, rIsX, tFx, tMethE, tCallS, tCallZ, tMeth, tMake, tFld, sFld, HO.ins.injEq, HO.lst.injEq, HO.dK.injEq, HO.tup.injEq, dcAt, dcRd, rDInM, rDGetM, rDSetM, rDLenM, keyOf_int, keyOf_str, rIsBM, plainV_b, plainV_i, plainV_n, plainV_s, rInM, rListM, rSortM, rSumM, rIsD, tBMM, tBM0M, tSl, rSlM, rAppend, rPop, rClear, wAs, reduceCtorEq, false_implies, true_implies, implies_true, forall_const, cxH_K, clsV_ref, clsV_ty, HO.xd.injEq, Value.ref.injEq, lkc, lkn, pfn, pfc, List.map_nil, rExtend, rCat, rRep, tMethE0, rSortD, rPush, rPopH, tDGetM, gAll, iRev, tCB, sDDel, wPair, tBreak, tDelT, rDLenR, tMethN]
              have big : (100000 : Nat) ≤ sizeLine := by decide
              refine ite2 (fun _ => ⟨p, 5, rfl, hp5, by decide, by decide, fun e H9 he0 he1 hp9 hb9 => ⟨e, rfl, _, _, rfl, rfl, by omega, by omega, by decide, by decide, fun z hz => ?_⟩⟩) (fun _ => ⟨by omega, hp5, hb4.trans hb5⟩)
              rw [show (Str.ofString "7").length = 1 from rfl] at hz
              exact ⟨z, rfl, by omega, by rw [app_len]; omega, hp9, (hb4.trans hb5).trans hb9⟩
            · rintro σ' H5 ⟨x, rfl, hx, hp5, hb5⟩
              refine ⟨fun σ' H' => ∃ (x : Str), σ' = [some (.ref p), some (.str ch), some (.str x), some (.int n), kk] ∧ x.length ≤ 10000 ∧ StAt K H' p ∧ But p H H', ?_, ?_⟩
              · simp (config := { maxSteps := 4000000 }) only [tSeq, tNext, tDrop, tRet, tRetN, tIfS, tAsg, tTest, tAnd, tOr, tNot, tAndV, tOrV, tNotV, tIf, tOp, tUn, tVar, tC, tCB, tCons, tNil, tCall, tPart, tNoPart, tM0, tM1, tTup, tLst, tB, tIsN, tNotN, rI0, rI, rU, rEq, rNe, rAdd, gName, gTup, gCons, gNil, gSub, rSetL, rIxL, rIxT, rIxS, L2.start,
      List.map_cons, List.map_nil, List.cons_append, List.nil_append, List.append_nil, List.length_cons, List.length_nil, List.replicate, List.getElem?_cons_zero, List.getElem?_cons_succ, List.set_cons_zero, List.set_cons_succ, Nat.reduceAdd, Nat.reduceSub, Nat.sub_self, Nat.zero_add,
      Option.some.injEq, V.int.injEq, V.str.injEq, V.bl.injEq, V.ref.injEq, V.ty.injEq, List.cons.injEq, and_true, true_and, exists_eq_left, exists_eq_left', exists_eq_right, exists_and_left, exists_and_right, exists_const, decide_eq_true_eq, decide_eq_false_iff_not, if_true, if_false, reduceIte, Bool.false_eq_true, Bool.not_eq_true', sc_ii, sc_ss, sc_bb, str1, cx_K, lstAt, rIxM, rSetM, rLenM, atI_0, atI_1, atI_2, atI_3, setI_0, setI_1, setI_2, setI_3, upd_same, upd_upd, ite_true, ite_false, exists_eq', eq_self, and_assoc, rIsS, isTy_bb, isTy_bi, isTy_ib, isTy_ii, isTy_ss, isTy_nb, isTy_ni, Bool.not_true, Bool.not_false, not_true_eq_false, not_false_eq_true, tChain, tRz1, tRz2, rIsX, tFx, tMethE, tCallS, tCallZ, tMeth, tMake, tFld, sFld, HO.ins.injEq, HO.lst.injEq, HO.dK.injEq, HO.tup.injEq, dcAt, dcRd, rDInM, rDGetM, rDSetM, rDLenM, keyOf_int, keyOf_str, rIsBM, plainV_b, plainV_i, plainV_n, plainV_s, rInM, rListM, rSortM, rSumM, rIsD, tBMM, tBM0M, tSl, rSlM, rAppend, rPop, rClear, wAs, reduceCtorEq, false_implies, true_implies, implies_true, forall_const, cxH_K, clsV_ref, clsV_ty, HO.xd.injEq, Value.ref.injEq, lkc, lkn, pfn, pfc, List.map_nil, rExtend, rCat, rRep, tMethE0, rSortD, rPush, rPopH, tDGetM, gAll, iRev, tCB, sDDel, wPair, tBreak, tDelT, rDLenR, tMethN]
                refine ⟨p, 8, rfl, hp5, by decide, by decide, fun d H6 hd0 hd1 hp6 hb6 => ?_⟩
                simp (config := { maxSteps := 4000000 }) only [tSeq, tNext, tDrop, tRet, tRetN, tIfS, tAsg, tTest, tAnd, tOr, tNot, tAndV, tOrV, tNotV, tIf, tOp, tUn, tVar, tC, tCB, tCons, tNil, tCall, tPart, tNoPart, tM0, tM1, tTup, tLst, tB, tIsN, tNotN, rI0, rI, rU, rEq, rNe, rAdd, gName, gTup, gCons, gNil, gSub, rSetL, rIxL, rIxT, rIxS, L2.start,
      List.map_cons, List.map_nil, List.cons_append, List.nil_append, List.append_nil, List.length_cons, List.length_nil, List.replicate, List.getElem?_cons_zero, List.getElem?_cons_succ, List.set_cons_zero, List.set_cons_succ, Nat.reduceAdd, Nat.reduceSub, Nat.sub_self, Nat.zero_add,
      Option.some.injEq, V.int.injEq, V.str.injEq, V.bl.injEq, V.ref.injEq, V.ty.injEq, List.cons.injEq, and_true, true_and, exists_eq_left, exists_eq_left', exists_eq_right, exists_and_left, exists_and_right, exists_const, decide_eq_true_eq, decide_eq_false_iff_not, if_true, if_false, reduceIte, Bool.false_eq_true, Bool.not_eq_true', sc_ii, sc_ss, sc_bb, str1, cx_K, lstAt, rIxM, rSetM, rLenM, atI_0, atI_1, atI_2, atI_3, setI_0, setI_1, setI_2, setI_3, upd_same, upd_upd, ite_true, ite_false, exists_eq', eq_self, and_assoc, rIsS, isTy_bb, isTy_bi, isTy_ib, isTy_ii, isTy_ss, isTy_nb, isTy_ni, Bool.not_true, Bool.not_false, not_true_eq_false, not_false_eq_true, tChain, tRz1, tRz2, rIsX, tFx, tMethE, tCallS, tCallZ, tMeth, tMake, tFld, sFld, HO.ins.injEq, HO.lst.injEq, HO.dK.injEq, HO.tup.injEq, dcAt, dcRd, rDInM, rDGetM, rDSetM, rDLenM, keyOf_int, keyOf_str, rIsBM, plainV_b, plainV_i, plainV_n, plainV_s, rInM, rListM, rSortM, rSumM, rIsD, tBMM, tBM0M, tSl, rSlM, rAppend, rPop, rClear, wAs, reduceCtorEq, false_implies, true_implies, implies_true, forall_const, cxH_K, clsV_ref, clsV_ty, HO.xd.injEq, Value.ref.injEq, lkc, lkn, pfn, pfc, List.map_nil, rExtend, rCat, rRep, tMethE0, rSortD, rPush, rPopH, tDGetM, gAll, iRev, tCB, sDDel, wPair, tBreak, tDelT, rDLenR, tMethN]
                have big : (100000 : Nat) ≤ sizeLine := by decide
                refine ite2 (fun _ => ⟨p, 5, rfl, hp6, by decide, by decide, fun e H9 he0 he1 hp9 hb9 => ⟨e, rfl, by omega, _, _, rfl, rfl, by omega, by omega, by decide, by decide, fun z hz => ?_⟩⟩) (fun _ => ⟨by omega, hp6, hb5.trans hb6⟩)
                rw [show (Str.ofString " ").length = 1 from rfl] at hz
                exact ⟨z, rfl, by omega, by rw [app_len]; omega, hp9, (hb5.trans hb6).trans hb9⟩
              · rintro σ' H6 ⟨x, rfl, hx, hp6, hb6⟩
                simp (config := { maxSteps := 4000000 }) only [tSeq, tNext, tDrop, tRet, tRetN, tIfS, tAsg, tTest, tAnd, tOr, tNot, tAndV, tOrV, tNotV, tIf, tOp, tUn, tVar, tC, tCB, tCons, tNil, tCall, tPart, tNoPart, tM0, tM1, tTup, tLst, tB, tIsN, tNotN, rI0, rI, rU, rEq, rNe, rAdd, gName, gTup, gCons, gNil, gSub, rSetL, rIxL, rIxT, rIxS, L2.start,
      List.map_cons, List.map_nil, List.cons_append, List.nil_append, List.append_nil, List.length_cons, List.length_nil, List.replicate, List.getElem?_cons_zero, List.getElem?_cons_succ, List.set_cons_zero, List.set_cons_succ, Nat.reduceAdd, Nat.reduceSub, Nat.sub_self, Nat.zero_add,
      Option.some.injEq, V.int.injEq, V.str.injEq, V.bl.injEq, V.ref.injEq, V.ty.injEq, List.cons.injEq, and_true, true_and, exists_eq_left, exists_eq_left', exists_eq_right, exists_and_left, exists_and_right, exists_const, decide_eq_true_eq, decide_eq_false_iff_not, if_true, if_false, reduceIte, Bool.false_eq_true, Bool.not_eq_true', sc_ii, sc_ss, sc_bb, str1, cx_K, lstAt, rIxM, rSetM, rLenM, atI_0, atI_1, atI_2, atI_3, setI_0, setI_1, setI_2, setI_3, upd_same, upd_upd, ite_true, ite_false, exists_eq', eq_self, and_assoc, rIsS, isTy_bb, isTy_bi, isTy_ib, isTy_ii, isTy_ss, isTy_nb, isTy_ni, Bool.not_true, Bool.not_false, not_true_eq_false, not_false_eq_true, tChain, tRz1, tRz2, rIsX, tFx, tMethE, tCallS, tCallZ, tMeth, tMake, tFld, sFld, HO.ins.injEq, HO.lst.injEq, HO.dK.injEq, HO.tup.injEq, dcAt, dcRd, rDInM, rDGetM, rDSetM, rDLenM, keyOf_int, keyOf_str, rIsBM, plainV_b, plainV_i, plainV_n, plainV_s, rInM, rListM, rSortM, rSumM, rIsD, tBMM, tBM0M, tSl, rSlM, rAppend, rPop, rClear, wAs, reduceCtorEq, false_implies, true_implies, implies_true, forall_const, cxH_K, clsV_ref, clsV_ty, HO.xd.injEq, Value.ref.injEq, lkc, lkn, pfn, pfc, List.map_nil, rExtend, rCat, rRep, tMethE0, rSortD, rPush, rPopH, tDGetM, gAll, iRev, tCB, sDDel, wPair, tBreak, tDelT, rDLenR, tMethN]
                exact k x H6 hx hp6 hb6
end

theorem dv_lt : ∀ (cs : List Nat) (a : Nat), NumText.AllDigits cs → cs.foldl (fun acc c => acc * 10 + (c - 48)) a < (a + 1) * 10 ^ cs.length
  | [], a, _ => by simp
  | c :: r, a, h => by
    have hc := h.head
    have ih := dv_lt r (a * 10 + (c - 48)) h.tail
    rw [List.foldl_cons, List.length_cons, Nat.pow_succ]
    have h1 : (a * 10 + (c - 48) + 1) * 10 ^ r.length ≤ ((a + 1) * 10) * 10 ^ r.length := Nat.mul_le_mul_right _ (by omega)
    have e : (a + 1) * (10 ^ r.length * 10) = ((a + 1) * 10) * 10 ^ r.length := by rw [Nat.mul_assoc, Nat.mul_comm 10 (10 ^ r.length)]
    rw [e]
    exact Nat.lt_of_lt_of_le ih h1
/-- what a token may hold -/
theorem tok_val {l : List Nat} {kd : Str} {v : V} {k : Nat} (h : tokL l = some (kd, v, k)) :
    (kd = "number" ∧ ∃ m : Int, v = .int m ∧ 0 ≤ m ∧ m < 1000000000) ∨ (kd ≠ "number" ∧ ∃ y : Str, v = .str y ∧ (kd = "symbol" ∨ y ≠ "")) := by
  match l with
  | [] => cases h
  | c :: r =>
    have ne1 : ∀ (n : Nat), n ≠ 0 → mk ((c :: r).take n) ≠ "" := fun n hn z => by
      have z2 : (c :: r).take n = [] := cl_nil.mp z
      cases n with
      | zero => exact hn rfl
      | succ n => cases z2
    rcases tokL_cases h with ⟨_, h1, h2, rfl, rfl, _⟩ | ⟨_, h1, _, rfl, rfl, _⟩ | ⟨_, h1, h2, rfl, rfl, _⟩ | ⟨_, h1, rfl, rfl, _⟩ | ⟨_, q, h1, rfl, rfl, _⟩ | ⟨_, rfl, rfl, _⟩ | ⟨_, h1, rfl, rfl, _⟩ | ⟨_, _, rfl, rfl, _⟩
    · exact .inr ⟨by decide, _, rfl, .inr (ne1 _ (by omega))⟩
    · exact .inr ⟨by decide, _, rfl, .inr (ne1 _ h1)⟩
    · refine .inl ⟨rfl, _, rfl, Int.natCast_nonneg _, ?_⟩
      unfold numOk at h2
      rw [Bool.and_eq_true, Bool.and_eq_true, decide_eq_true_eq] at h2
      have := dv_lt _ 0 (digB_all h2.1.1)
      have h9 : 10 ^ ((c :: r).take (run (c :: r))).length ≤ 10 ^ 9 := Nat.pow_le_pow_right (by decide) h2.1.2
      have e9 : (10 : Nat) ^ 9 = 1000000000 := by decide
      have h3 : NumText.digitsVal ((c :: r).take (run (c :: r))) < (0 + 1) * 10 ^ ((c :: r).take (run (c :: r))).length := this
      rw [Nat.zero_add, Nat.one_mul] at h3
      show ((NumText.digitsVal ((c :: r).take (run (c :: r))) : Nat) : Int) < 1000000000
      omega
    · exact .inr ⟨by decide, _, rfl, .inl rfl⟩
    · exact .inr ⟨by decide, _, rfl, .inl rfl⟩
    · exact .inr ⟨by decide, _, rfl, .inr (ne1 _ (by have := signLen_le (l := c :: r) (by simp); omega))⟩
    · exact .inr ⟨by decide, _, rfl, .inr (by decide)⟩
    · exact .inr ⟨by decide, _, rfl, .inr (fun z => by have := cl_nil.mp z; cases this)⟩
theorem runD : ∀ l : List Nat, digB (l.take (run l)) = true → runP (inC sD) l = run l
  | [], _ => rfl
  | c :: r, h => by
    rw [runP_cons, run_cons]
    by_cases hc : isLD c = true
    · rw [run_cons, if_pos hc, List.take_succ_cons] at h
      have h' : (isD c && digB (r.take (run r))) = true := h
      rw [Bool.and_eq_true] at h'
      rw [if_pos hc, if_pos (show inC sD c = true from h'.1), runD r h'.2]
    · rw [if_neg hc, if_neg (fun z => hc (by unfold isLD; rw [show isD c = true from z, Bool.or_true]))]
theorem small_char : ∀ a, a < 58 → (Char.ofNat a).toNat = a := by decide +kernel
theorem num_text {d : List Nat} (h : numOk d = true) (hne : d ≠ []) : Str.ofString (toString (numOf d)) = mk d := by
  refine cl_inj ?_
  rw [cl_mk]
  have e : cl (Str.ofString (toString ((NumText.digitsVal d : Nat) : Int))) = TL.numL (NumText.digitsVal d) := TL.tl_num _
  show cl (Str.ofString (toString ((NumText.digitsVal d : Nat) : Int))) = d
  rw [e]
  unfold numOk at h
  rw [Bool.and_eq_true, Bool.and_eq_true, Bool.or_eq_true] at h
  have hd := digB_all h.1.1
  obtain ⟨c, r, rfl⟩ := List.exists_cons_of_ne_nil hne
  have h0 : r.length = 0 ∨ ∃ c' r', c :: r = c' :: r' ∧ 49 ≤ c' := by
    rcases h.2 with h | h
    · rw [decide_eq_true_eq, List.length_cons] at h
      exact .inl (by omega)
    · refine .inr ⟨c, r, rfl, ?_⟩
      have h1 := hd c (List.mem_cons_self ..)
      have h2 : c ≠ 48 := fun z => by
        subst z
        simp at h
      omega
  show (Nat.toDigits 10 (NumText.digitsVal (c :: r))).map Char.toNat = c :: r
  rw [NumText.toDigits_digitsVal r.length (c :: r) rfl hd h0, List.map_map]
  have : ∀ l : List Nat, (∀ a ∈ l, a < 58) → l.map (Char.toNat ∘ Char.ofNat) = l := fun l hl => by
    induction l with
    | nil => rfl
    | cons a t ih => rw [List.map_cons, ih fun b hb => hl b (List.mem_cons_of_mem _ hb), show (Char.toNat ∘ Char.ofNat) a = a from small_char a (hl a (List.mem_cons_self ..))]
  exact this _ fun a ha => by have := hd a ha; omega
theorem sign_run {c : Nat} (r : List Nat) (n : Nat) (hs : c ∈ cl sS) : (if ((n + runP (inC sS) (c :: r) : Nat) : Int) < (n : Int) + 2 then ((n + runP (inC sS) (c :: r) : Nat) : Int) else (n : Int) + 2) = (n : Int) + ((signLen (c :: r) : Nat) : Int) := by
  have hc : inC sS c = true := decide_eq_true hs
  rw [runP_cons, if_pos hc]
  cases r with
  | nil =>
    show (if ((n + (0 + 1) : Nat) : Int) < (n : Int) + 2 then ((n + (0 + 1) : Nat) : Int) else (n : Int) + 2) = (n : Int) + ((1 : Nat) : Int)
    rw [if_pos (by omega)]
    omega
  | cons d t =>
    rw [runP_cons]
    by_cases hd : d ∈ cl sS
    · rw [if_pos (show inC sS d = true from decide_eq_true hd), show signLen (c :: d :: t) = 2 from if_pos hd, if_neg (by omega)]
      omega
    · rw [if_neg (show ¬ inC sS d = true from fun z => hd (of_decide_eq_true z)), show signLen (c :: d :: t) = 1 from if_neg hd, if_pos (by omega)]
      omega

/-! ### a token does not look far: what stands behind it matters only by its first sign -/
theorem fi_app_lt {c : Nat} {u v : List Nat} {k : Nat} (h : fi c (u ++ v) = some k) (hk : k < u.length) : fi c u = some k := by
  obtain ⟨h1, h2⟩ := fi_some h
  refine fi_eq (by rw [List.getElem?_append_left hk] at h1; exact h1) fun j hj => ?_
  have := h2 j hj
  rwa [List.getElem?_append_left (by omega)] at this
theorem skip_loc (w v : List Nat) {j : Nat} {f : Bool} (h : skip (w ++ v) = (j, f)) (hj : j ≤ w.length) (hf : f = false → j = w.length) : skip w = (j, true) := by
  match w with
  | [] =>
    have : j = 0 := Nat.le_zero.mp hj
    rw [this]
    exact skip_nil
  | c :: r =>
    rw [List.cons_append] at h
    by_cases h34 : c = 34
    · cases hq : fi 34 (r ++ v) with
      | none =>
        rw [skip_open h34 hq] at h
        cases h
        exact absurd (hf rfl) (by simp)
      | some k =>
        rw [skip_comment h34 hq] at h
        have e1 := congrArg Prod.fst h
        have e2 := congrArg Prod.snd h
        have e1' : (skip ((r ++ v).drop (k + 1))).1 + (k + 2) = j := e1
        have e2' : (skip ((r ++ v).drop (k + 1))).2 = f := e2
        simp only [List.length_cons] at hj hf
        have hk : k < r.length := by omega
        rw [List.drop_append_of_le_length (by omega)] at e1' e2'
        have ih := skip_loc (r.drop (k + 1)) v (j := (skip (r.drop (k + 1) ++ v)).1) (f := f) (Prod.ext rfl e2') (by rw [List.length_drop]; omega) (fun hff => by
          have := hf hff
          rw [List.length_drop]
          omega)
        rw [skip_comment h34 (fi_app_lt hq hk), ih]
        exact Prod.ext e1' rfl
    · by_cases hb : c = 32 ∨ c = 10
      · rw [skip_blank h34 hb] at h
        have e1 : (skip (r ++ v)).1 + 1 = j := congrArg Prod.fst h
        have e2 : (skip (r ++ v)).2 = f := congrArg Prod.snd h
        simp only [List.length_cons] at hj hf
        have ih := skip_loc r v (j := (skip (r ++ v)).1) (f := f) (Prod.ext rfl e2) (by omega) (fun hff => by have := hf hff; omega)
        rw [skip_blank h34 hb, ih]
        exact Prod.ext e1 rfl
      · rw [skip_sign h34 hb] at h
        have e1 : 0 = j := congrArg Prod.fst h
        rw [skip_sign h34 hb, ← e1]
termination_by w.length
decreasing_by all_goals (simp only [List.length_drop, List.length_cons]; omega)
theorem run_loc : ∀ (w v : List Nat), run (w ++ v) ≤ w.length → run w = run (w ++ v)
  | [], v, h => by
    have : run ([] ++ v) = 0 := Nat.le_zero.mp h
    rw [this]
    rfl
  | c :: r, v, h => by
    rw [List.cons_append, run_cons] at h ⊢
    rw [run_cons]
    by_cases hc : isLD c = true
    · rw [if_pos hc] at h ⊢
      simp only [List.length_cons] at h
      rw [if_pos hc, run_loc r v (by omega)]
    · rw [if_neg hc, if_neg hc]
theorem run_app : ∀ (w v : List Nat), run w < w.length → run (w ++ v) = run w
  | [], v, h => absurd h (Nat.not_lt_zero _)
  | c :: r, v, h => by
    rw [List.cons_append, run_cons, run_cons]
    rw [run_cons] at h
    by_cases hc : isLD c = true
    · rw [if_pos hc] at h ⊢
      simp only [List.length_cons] at h
      rw [if_pos hc, run_app r v (by omega)]
    · rw [if_neg hc, if_neg hc]
theorem nameLen_run {l : List Nat} (h : nameLen l ≠ 0) : nameLen l = run l := by
  match l with
  | [] => exact absurd rfl h
  | c :: r =>
    rw [nameLen_cons] at h ⊢
    by_cases h1 : isL c = true
    · rw [if_pos h1] at h ⊢
      by_cases h2 : 32 < run (c :: r)
      · rw [if_pos h2] at h
        exact absurd rfl h
      · rw [if_neg h2]
    · rw [if_neg h1] at h
      exact absurd rfl h
theorem nameLen_loc {w v : List Nat} (h : nameLen (w ++ v) ≠ 0) (hk : nameLen (w ++ v) ≤ w.length) : nameLen w = nameLen (w ++ v) := by
  have e := nameLen_run h
  match w with
  | [] => exact absurd (Nat.le_zero.mp hk) h
  | c :: r =>
    have hr := run_loc (c :: r) v (by rw [← e]; exact hk)
    rw [List.cons_append] at *
    rw [nameLen_cons, nameLen_cons, hr]
theorem nameLen_app {w v : List Nat} (h : nameLen w < w.length) (h0 : nameLen w ≠ 0) : nameLen (w ++ v) = nameLen w := by
  have e := nameLen_run h0
  match w with
  | [] => exact absurd h (Nat.not_lt_zero _)
  | c :: r =>
    have hr := run_app (c :: r) v (by rw [← e]; exact h)
    rw [List.cons_append] at *
    rw [nameLen_cons, nameLen_cons, hr]
theorem colonB_iff (l : List Nat) : colonB l = true ↔ (l[0]? = some 58 ∧ l[1]? ≠ some 61) := by
  unfold colonB
  rw [Bool.and_eq_true, decide_eq_true_eq, Bool.not_eq_true', decide_eq_false_iff_not]
theorem kwLen_iff {l : List Nat} : kwLen l ≠ 0 ↔ (nameLen l ≠ 0 ∧ colonB (l.drop (nameLen l)) = true) := by
  unfold kwLen
  constructor
  · intro h
    refine Classical.byContradiction fun z => h (if_neg z)
  · intro h
    rw [if_pos h]
    omega
theorem kwLen_eq {l : List Nat} (h : kwLen l ≠ 0) : kwLen l = nameLen l + 1 := by
  unfold kwLen
  rw [if_pos (kwLen_iff.mp h)]
/-- v does not begin with = -/
def NoEq (v : List Nat) : Prop := v[0]? ≠ some 61
theorem kwLen_app {w v : List Nat} (hv : NoEq v) (h : kwLen w ≠ 0) : kwLen (w ++ v) = kwLen w := by
  obtain ⟨h1, h2⟩ := kwLen_iff.mp h
  rw [colonB_iff, List.getElem?_drop, List.getElem?_drop, Nat.add_zero] at h2
  have hlt := (List.getElem?_eq_some_iff.mp h2.1).1
  have e := nameLen_app (v := v) hlt h1
  have h3 : kwLen (w ++ v) ≠ 0 := kwLen_iff.mpr ⟨by rw [e]; exact h1, by
    rw [e, colonB_iff, List.getElem?_drop, List.getElem?_drop, Nat.add_zero, List.getElem?_append_left hlt]
    refine ⟨h2.1, fun z => ?_⟩
    by_cases hl : nameLen w + 1 < w.length
    · rw [List.getElem?_append_left hl] at z
      exact h2.2 z
    · rw [List.getElem?_append_right (by omega), show nameLen w + 1 - w.length = 0 by omega] at z
      exact hv z⟩
  rw [kwLen_eq h3, kwLen_eq h, e]
theorem kwLen_loc {w v : List Nat} (h : kwLen (w ++ v) ≠ 0) (hk : kwLen (w ++ v) ≤ w.length) : kwLen w = kwLen (w ++ v) := by
  obtain ⟨h1, h2⟩ := kwLen_iff.mp h
  have e := kwLen_eq h
  have en := nameLen_loc h1 (by omega)
  rw [colonB_iff, List.getElem?_drop, List.getElem?_drop, Nat.add_zero, List.getElem?_append_left (by omega)] at h2
  have h3 : kwLen w ≠ 0 := kwLen_iff.mpr ⟨by rw [en]; exact h1, by
    rw [en, colonB_iff, List.getElem?_drop, List.getElem?_drop, Nat.add_zero]
    refine ⟨h2.1, fun z => h2.2 ?_⟩
    rw [List.getElem?_append_left (List.getElem?_eq_some_iff.mp z).1]
    exact z⟩
  rw [kwLen_eq h3, e, en]
theorem kwsLen_loc (w v : List Nat) (hv : NoEq v) (hk : kwsLen (w ++ v) ≤ w.length) : kwsLen w = kwsLen (w ++ v) := by
  by_cases h : kwLen (w ++ v) = 0
  · have h0 : kwLen w = 0 := Classical.byContradiction fun z => z (by rw [← kwLen_app hv z]; exact h)
    rw [kws_zero h, kws_zero h0]
  · have e := kws_step h
    have el := kwLen_loc h (by omega)
    have hlt : kwLen (w ++ v) ≤ w.length := by omega
    rw [e, kws_step (l := w) (by rw [el]; exact h), el]
    rw [List.drop_append_of_le_length hlt] at e ⊢
    rw [kwsLen_loc (w.drop (kwLen (w ++ v))) v hv (by rw [List.length_drop]; omega)]
termination_by w.length
decreasing_by (simp only [List.length_drop]; omega)
theorem hashLen_loc {w v : List Nat} (hv : NoEq v) (h : hashLen (w ++ v) ≠ 0) (hk : hashLen (w ++ v) ≤ w.length) : hashLen w = hashLen (w ++ v) := by
  unfold hashLen at *
  by_cases hz : kwsLen (w ++ v) ≠ 0
  · rw [if_pos hz] at h hk ⊢
    have := kwsLen_loc w v hv hk
    rw [if_pos (by rw [this]; exact hz), this]
  · rw [if_neg hz] at h hk ⊢
    have h0 : kwsLen (w ++ v) = 0 := Classical.not_not.mp hz
    have := kwsLen_loc w v hv (by omega)
    rw [if_neg (by rw [this]; exact hz), nameLen_loc h hk]
theorem qEnd_loc : ∀ (w v : List Nat) {q : Nat}, qEnd (w ++ v) = some q → q < w.length → qEnd w = some q
  | [], v, q, _, hq => absurd hq (Nat.not_lt_zero _)
  | [c], v, q, h, hq => by
    have : q = 0 := by
      simp at hq
      exact hq
    subst this
    show (if c = 39 then some 0 else none) = some 0
    by_cases hc : c = 39
    · rw [if_pos hc]
    · cases v with
      | nil =>
        have h' : (if c = 39 then some 0 else none) = some 0 := h
        rw [if_neg hc] at h'
        cases h'
      | cons d t =>
        have h' : (if c = 39 then (if d = 39 then (qEnd t).map (· + 2) else some 0) else (qEnd (d :: t)).map (· + 1)) = some 0 := h
        rw [if_neg hc] at h'
        cases hz : qEnd (d :: t) with
        | none => rw [hz] at h'; cases h'
        | some z => rw [hz] at h'; cases h'
  | c :: d :: t, v, q, h, hq => by
    have h' : (if c = 39 then (if d = 39 then (qEnd (t ++ v)).map (· + 2) else some 0) else (qEnd (d :: t ++ v)).map (· + 1)) = some q := h
    show (if c = 39 then (if d = 39 then (qEnd t).map (· + 2) else some 0) else (qEnd (d :: t)).map (· + 1)) = some q
    simp only [List.length_cons] at hq
    by_cases hc : c = 39
    · rw [if_pos hc] at h' ⊢
      by_cases hd : d = 39
      · rw [if_pos hd] at h' ⊢
        cases hz : qEnd (t ++ v) with
        | none => rw [hz] at h'; cases h'
        | some z =>
          rw [hz] at h'
          have e : z + 2 = q := Option.some.inj h'
          rw [qEnd_loc t v hz (by omega)]
          exact congrArg some e
      · rw [if_neg hd] at h' ⊢
        exact h'
    · rw [if_neg hc] at h' ⊢
      cases hz : qEnd (d :: t ++ v) with
      | none => rw [hz] at h'; cases h'
      | some z =>
        rw [hz] at h'
        have e : z + 1 = q := Option.some.inj h'
        rw [qEnd_loc (d :: t) v hz (by simp only [List.length_cons]; omega)]
        exact congrArg some e
theorem signs_alone : ∀ c ∈ cl sS, ¬ isL c = true ∧ ¬ isD c = true ∧ ¬ c = 35 ∧ ¬ c = 39 := by decide +kernel
theorem marks_alone : ∀ c ∈ cM, ¬ isL c = true ∧ ¬ isD c = true ∧ ¬ c = 35 ∧ ¬ c = 39 ∧ ¬ c ∈ cl sS := by decide +kernel
/-- the token at the beginning does not look farther than its end, but for = -/
theorem tokL_loc {w v : List Nat} {kd : Str} {vl : V} {k : Nat} (hv : NoEq v) (h : tokL (w ++ v) = some (kd, vl, k)) (hk : k ≤ w.length) : tokL w = some (kd, vl, k) := by
  have hk1 := (tokL_le h).1
  match w with
  | [] => exact absurd (Nat.le_trans hk1 hk) (by decide)
  | c :: r =>
    rw [List.cons_append] at h
    have tk : ∀ n, n ≤ (c :: r).length → (c :: (r ++ v)).take n = (c :: r).take n := fun n hn => by
      rw [← List.cons_append, List.take_append_of_le_length hn]
    have nl := @nameLen_loc (c :: r) v
    have kl := @kwLen_loc (c :: r) v
    have ka := @kwLen_app (c :: r) v hv
    have rl := run_loc (c :: r) v
    rw [List.cons_append] at nl kl ka rl
    simp only [List.length_cons] at hk
    unfold tokL
    simp only
    rcases tokL_cases h with ⟨hL, h1, h2, rfl, rfl, rfl⟩ | ⟨hL, h1, h2, rfl, rfl, rfl⟩ | ⟨hL, hD, h2, rfl, rfl, rfl⟩ | ⟨rfl, h1, rfl, rfl, rfl⟩ | ⟨rfl, q, h1, rfl, rfl, rfl⟩ | ⟨hs, rfl, rfl, rfl⟩ | ⟨rfl, h1, rfl, rfl, rfl⟩ | ⟨h0, h1, rfl, rfl, rfl⟩
    · have e := nl h1 (by simp only [List.length_cons]; omega)
      have e2 := kl h2 (by simp only [List.length_cons]; rw [kwLen_eq h2]; omega)
      rw [if_pos hL, if_neg (by rw [e]; exact h1), if_pos (by rw [e2]; exact h2), e, tk _ (by simp only [List.length_cons]; omega)]
    · have e := nl h1 (by simp only [List.length_cons]; omega)
      have e2 : kwLen (c :: r) = 0 := Classical.byContradiction fun z => z (by rw [← ka z]; exact h2)
      rw [if_pos hL, if_neg (by rw [e]; exact h1), if_neg (fun z => z e2), e, tk _ (by simp only [List.length_cons]; omega)]
    · have e := rl (by simp only [List.length_cons]; omega)
      have ht := tk (run (c :: (r ++ v))) (by simp only [List.length_cons]; omega)
      rw [ht] at h2 ⊢
      rw [if_neg (by rw [hL]; exact Bool.false_ne_true), if_pos hD, e, if_pos h2]
    · have e := hashLen_loc hv h1 (by omega)
      rw [if_neg (by decide), if_neg (by decide), if_pos rfl, if_pos (by rw [e]; exact h1), e, List.take_append_of_le_length (by omega)]
    · have e := qEnd_loc r v h1 (by omega)
      rw [if_neg (by decide), if_neg (by decide), if_neg (by decide), if_pos rfl, e]
      simp only
      rw [List.take_append_of_le_length (by omega)]
    · have e : signLen (c :: r) = signLen (c :: (r ++ v)) := by
        cases r with
        | nil =>
          show 1 = _
          simp only [List.length_nil] at hk
          have := (signLen_le (l := c :: ([] ++ v)) (by simp)).1
          omega
        | cons d t => rfl
      have hn := signs_alone c hs
      rw [if_neg hn.1, if_neg hn.2.1, if_neg hn.2.2.1, if_neg hn.2.2.2, if_pos hs, e, tk _ (by simp only [List.length_cons]; omega)]
    · have h1' : r[0]? = some 61 := by
        rw [List.getElem?_append_left (by omega)] at h1
        exact h1
      rw [if_neg (by decide), if_neg (by decide), if_neg (by decide), if_neg (by decide), if_neg (by decide +kernel), if_pos ⟨rfl, h1'⟩]
    · have hn := marks_alone c h1
      rw [if_neg hn.1, if_neg hn.2.1, if_neg hn.2.2.1, if_neg hn.2.2.2.1, if_neg hn.2.2.2.2, if_neg (fun z => h0 ⟨z.1, by
        rw [List.getElem?_append_left (List.getElem?_eq_some_iff.mp z.2).1]
        exact z.2⟩), if_pos h1]
theorem Til.le {s : List Nat} {a : Nat} {ts : List (Nat × Str × V)} {b : Nat} (h : Til s a ts b) : a ≤ b := by
  induction h with
  | nil a => exact Nat.le_refl _
  | cons h1 h2 h3 _ ih =>
    have := (tokL_le h3).1
    omega
/-- the same tokens where what is behind is cut off -/
theorem Til.cut {s u v : List Nat} (hs : s = u ++ v) (hv : NoEq v) {a : Nat} {ts : List (Nat × Str × V)} {b : Nat} (h : Til s a ts b) (hb : b ≤ u.length) : Til u a ts b := by
  induction h with
  | nil a => exact .nil _
  | @cons a j kd vl k ts b h1 h2 h3 hr ih =>
    have hle := hr.le
    have hk := tokL_le h3
    rw [hs, List.drop_append_of_le_length (by omega)] at h1 h3
    exact .cons (skip_loc _ _ h1 (by rw [List.length_drop]; omega) (fun z => by cases z)) (by omega) (tokL_loc hv h3 (by rw [List.length_drop]; omega)) (ih hb)
/-- nothing is left behind b -/
def Done (s : List Nat) (b : Nat) : Prop := skip (s.drop b) = (s.length - b, true)
/-- no token begins j signs behind b -/
def Stuck (s : List Nat) (b j : Nat) : Prop := skip (s.drop b) = (j, false) ∨ (skip (s.drop b) = (j, true) ∧ b + j < s.length ∧ tokL (s.drop (b + j)) = none)
theorem Done.stuck {s : List Nat} {b j : Nat} (d : Done s b) (z : Stuck s b j) : False := by
  unfold Done at d
  rcases z with z | ⟨z1, z2, z3⟩
  · rw [d] at z
    cases z
  · rw [d] at z1
    have : s.length - b = j := congrArg Prod.fst z1
    omega
theorem Done.next {s : List Nat} {b j : Nat} (d : Done s b) (h1 : skip (s.drop b) = (j, true)) (h2 : b + j < s.length) : False := by
  unfold Done at d
  rw [d] at h1
  have : s.length - b = j := congrArg Prod.fst h1
  omega
/-- two ways to cut one text into tokens -/
theorem Til.one {s : List Nat} {a : Nat} {ts : List (Nat × Str × V)} {b : Nat} (h : Til s a ts b) : ∀ {ts0 : List (Nat × Str × V)} {b0 : Nat}, Til s a ts0 b0 → Done s b0 → (∀ j, ¬ Stuck s b j) ∧ (Done s b → ts = ts0 ∧ b = b0) := by
  induction h with
  | nil a =>
    intro ts0 b0 h0 d0
    cases h0 with
    | nil => exact ⟨fun j z => d0.stuck z, fun _ => ⟨rfl, rfl⟩⟩
    | cons g1 g2 g3 _ =>
      refine ⟨fun j z => ?_, fun d => (d.next g1 g2).elim⟩
      rcases z with z | ⟨z1, z2, z3⟩
      · rw [g1] at z
        cases z
      · rw [g1] at z1
        cases z1
        rw [g3] at z3
        cases z3
  | @cons a j kd vl k ts b h1 h2 h3 hr ih =>
    intro ts0 b0 h0 d0
    cases h0 with
    | nil => exact (d0.next h1 h2).elim
    | cons g1 g2 g3 g4 =>
      rw [h1] at g1
      cases g1
      rw [h3] at g3
      cases g3
      have := ih g4 d0
      refine ⟨this.1, fun d => ?_⟩
      obtain ⟨e1, e2⟩ := this.2 d
      exact ⟨by rw [e1], e2⟩
theorem no_hit {c d : Nat} {l y : List Nat} (h : c ≠ d) : ¬ (c :: l).take (d :: y).length = d :: y := fun z => h (List.cons.inj (show c :: l.take y.length = d :: y from z)).1
/-- the quotes of a quoted text -/
theorem q_text : ∀ (r : List Nat) {q : Nat}, qEnd r = some q → StrLaws.replL [39] [39, 39] (rep2 (r.take q)) = r.take q ∧ r[q]? = some 39 ∧ r[q + 1]? ≠ some 39
  | [], q, h => by cases h
  | [c], q, h => by
    have h' : (if c = 39 then some 0 else none) = some q := h
    by_cases hc : c = 39
    · rw [if_pos hc] at h'
      cases h'
      refine ⟨?_, by rw [hc]; rfl, by simp⟩
      rw [List.take_zero]
      unfold rep2
      rw [StrLaws.replL_nil, StrLaws.replL_nil]
    · rw [if_neg hc] at h'
      cases h'
  | c :: d :: t, q, h => by
    have h' : (if c = 39 then (if d = 39 then (qEnd t).map (· + 2) else some 0) else (qEnd (d :: t)).map (· + 1)) = some q := h
    by_cases hc : c = 39
    · rw [if_pos hc] at h'
      by_cases hd : d = 39
      · rw [if_pos hd] at h'
        cases hz : qEnd t with
        | none => rw [hz] at h'; cases h'
        | some z =>
          rw [hz] at h'
          have e : z + 2 = q := Option.some.inj h'
          subst e
          subst hc
          subst hd
          obtain ⟨i1, i2, i3⟩ := q_text t hz
          refine ⟨?_, i2, i3⟩
          rw [List.take_succ_cons, List.take_succ_cons]
          have e1 : rep2 (39 :: 39 :: t.take z) = 39 :: rep2 (t.take z) := by
            unfold rep2
            rw [StrLaws.replL_hit (by decide) (by rfl)]
            rfl
          rw [e1, StrLaws.replL_hit (by decide) (by rfl)]
          show 39 :: 39 :: StrLaws.replL [39] [39, 39] (rep2 (t.take z)) = _
          rw [i1]
      · rw [if_neg hd] at h'
        cases h'
        refine ⟨?_, by rw [hc]; rfl, fun z => hd (Option.some.inj z)⟩
        rw [List.take_zero]
        unfold rep2
        rw [StrLaws.replL_nil, StrLaws.replL_nil]
    · rw [if_neg hc] at h'
      cases hz : qEnd (d :: t) with
      | none => rw [hz] at h'; cases h'
      | some z =>
        rw [hz] at h'
        have e : z + 1 = q := Option.some.inj h'
        subst e
        obtain ⟨i1, i2, i3⟩ := q_text (d :: t) hz
        refine ⟨?_, i2, i3⟩
        rw [List.take_succ_cons]
        have e1 : rep2 (c :: (d :: t).take z) = c :: rep2 ((d :: t).take z) := by
          unfold rep2
          exact StrLaws.replL_miss (no_hit hc)
        rw [e1, StrLaws.replL_miss (no_hit hc), i1]
theorem q_misfit : ∀ (r : List Nat), qEnd r = none → 39 ∉ StrLaws.replL [39, 39] [] r
  | [], _ => by rw [StrLaws.replL_nil]; simp
  | [c], h => by
    have h' : (if c = 39 then some 0 else none) = (none : Option Nat) := h
    by_cases hc : c = 39
    · rw [if_pos hc] at h'
      cases h'
    · rw [StrLaws.replL_miss (by simp), StrLaws.replL_nil]
      simp [Ne.symm hc]
  | c :: d :: t, h => by
    have h' : (if c = 39 then (if d = 39 then (qEnd t).map (· + 2) else some 0) else (qEnd (d :: t)).map (· + 1)) = (none : Option Nat) := h
    by_cases hc : c = 39
    · rw [if_pos hc] at h'
      by_cases hd : d = 39
      · rw [if_pos hd] at h'
        subst hc
        subst hd
        rw [StrLaws.replL_hit (by decide) (by rfl)]
        show 39 ∉ StrLaws.replL [39, 39] [] t
        exact q_misfit t (by cases hz : qEnd t with
          | none => rfl
          | some z => rw [hz] at h'; cases h')
      · rw [if_neg hd] at h'
        cases h'
    · rw [if_neg hc] at h'
      rw [StrLaws.replL_miss (no_hit hc)]
      intro hm
      rcases List.mem_cons.mp hm with e | hm
      · exact hc e.symm
      · exact q_misfit (d :: t) (by cases hz : qEnd (d :: t) with
          | none => rfl
          | some z => rw [hz] at h'; cases h') hm
theorem letter_behind : ∀ l : List Nat, digB (l.take (run l)) = false → ∃ x, l[runP (inC sD) l]? = some x ∧ isL x = true
  | [], h => by cases h
  | c :: r, h => by
    rw [run_cons] at h
    by_cases hc : isLD c = true
    · rw [if_pos hc, List.take_succ_cons] at h
      rw [runP_cons]
      by_cases hd : isD c = true
      · rw [if_pos (show inC sD c = true from hd)]
        have h' : (isD c && digB (r.take (run r))) = false := h
        rw [hd, Bool.true_and] at h'
        obtain ⟨x, h1, h2⟩ := letter_behind r h'
        exact ⟨x, h1, h2⟩
      · rw [if_neg (show ¬ inC sD c = true from hd)]
        refine ⟨c, rfl, ?_⟩
        unfold isLD at hc
        rw [Bool.eq_false_iff.mpr hd, Bool.or_false] at hc
        exact hc
    · rw [if_neg hc, List.take_zero] at h
      cases h
/-- where no token begins -/
theorem tokL_none {c : Nat} {r : List Nat} (h : tokL (c :: r) = none) :
    (isL c = true ∧ 32 < run (c :: r)) ∨
    (isL c = false ∧ isD c = true ∧ (9 < runP (inC sD) (c :: r) ∨ (∃ x, (c :: r)[runP (inC sD) (c :: r)]? = some x ∧ isL x = true) ∨ (c = 48 ∧ 1 < runP (inC sD) (c :: r)))) ∨
    (c = 35 ∧ nameLen r = 0) ∨ (c = 39 ∧ qEnd r = none) ∨
    (isL c = false ∧ isD c = false ∧ c ≠ 35 ∧ c ≠ 39 ∧ c ∉ cl sS ∧ c ∉ cM) := by
  unfold tokL at h
  simp only at h
  split at h
  · rename_i h1
    split at h
    · rename_i h2
      rw [nameLen_cons, if_pos h1] at h2
      refine .inl ⟨h1, Classical.byContradiction fun z => ?_⟩
      rw [if_neg z, run_cons, if_pos (show isLD c = true by unfold isLD; rw [h1]; rfl)] at h2
      omega
    · split at h <;> cases h
  · rename_i h1
    have h1' := Bool.eq_false_iff.mpr h1
    split at h
    · rename_i h2
      split at h
      · cases h
      · rename_i h3
        refine .inr (.inl ⟨h1', h2, ?_⟩)
        by_cases hd : digB ((c :: r).take (run (c :: r))) = true
        · have e := runD _ hd
          unfold numOk at h3
          rw [hd, Bool.true_and, run_len, Bool.and_eq_true, decide_eq_true_eq, Bool.or_eq_true, decide_eq_true_eq, Bool.not_eq_true', decide_eq_false_iff_not] at h3
          have hr1 : 1 ≤ run (c :: r) := by
            rw [run_cons, if_pos (show isLD c = true by unfold isLD; rw [h2, Bool.or_true])]
            omega
          have h0 : ((c :: r).take (run (c :: r)))[0]? = some c := by
            rw [List.getElem?_take_of_lt (by omega)]
            rfl
          rw [h0] at h3
          by_cases h9 : 9 < run (c :: r)
          · exact .inl (by rw [e]; exact h9)
          · refine .inr (.inr ?_)
            rw [e]
            refine ⟨Classical.byContradiction fun z => h3 ⟨by omega, .inr fun z2 => z (Option.some.inj z2)⟩, Classical.byContradiction fun z => h3 ⟨by omega, .inl (by omega)⟩⟩
        · exact .inr (.inl (letter_behind _ (Bool.eq_false_iff.mpr hd)))
    · rename_i h2
      have h2' := Bool.eq_false_iff.mpr h2
      split at h
      · rename_i h3
        split at h
        · cases h
        · rename_i h4
          refine .inr (.inr (.inl ⟨h3, ?_⟩))
          have h5 := Classical.not_not.mp h4
          unfold hashLen at h5
          split at h5
          · rename_i h6
            exact absurd h5 h6
          · exact h5
      · rename_i h3
        split at h
        · rename_i h4
          split at h
          · rename_i h5
            exact .inr (.inr (.inr (.inl ⟨h4, h5⟩)))
          · cases h
        · rename_i h4
          split at h
          · cases h
          · rename_i h5
            split at h
            · cases h
            · split at h
              · cases h
              · rename_i h7
                exact .inr (.inr (.inr (.inr ⟨h1', h2', h3, h4, h5, h7⟩)))
theorem tok_sym {c : Nat} {r : List Nat} {y : Str} {k : Nat} (h : tokL (c :: r) = some (("symbol" : Str), V.str y, k)) :
    (c = 35 ∧ hashLen r ≠ 0 ∧ y = mk (r.take (hashLen r)) ∧ k = hashLen r + 1) ∨ (c = 39 ∧ ∃ q, qEnd r = some q ∧ y = mk (rep2 (r.take q)) ∧ k = q + 2) := by
  rcases tokL_cases h with ⟨_, h1, h2, e, _, _⟩ | ⟨_, h1, _, e, _, _⟩ | ⟨_, h1, h2, e, _, _⟩ | ⟨h0, h1, _, e, e2⟩ | ⟨h0, q, h1, _, e, e2⟩ | ⟨_, e, _, _⟩ | ⟨_, h1, e, _, _⟩ | ⟨_, _, e, _, _⟩
  · exact absurd e (by decide)
  · exact absurd e (by decide)
  · exact absurd e (by decide)
  · exact .inl ⟨h0, h1, V.str.inj e, e2⟩
  · exact .inr ⟨h0, q, h1, V.str.inj e, e2⟩
  · exact absurd e (by decide)
  · exact absurd e (by decide)
  · exact absurd e (by decide)
theorem rep2_len (d : List Nat) : (mk (rep2 d)).length ≤ d.length + (d.length + 1) := by
  have h := TK.replace_len (mk d) (Str.ofString "''") (Str.ofString "'")
  rw [rep_mk] at h
  have e : (Str.ofString "'").length = 1 := rfl
  rw [e, Nat.mul_one] at h
  exact h
theorem quote_back {d : List Nat} (h : StrLaws.replL [39] [39, 39] (rep2 d) = d) : Txt.replace (mk (rep2 d)) (Str.ofString "'") (Str.ofString "''") = mk d := by
  refine cl_inj ?_
  rw [cl_mk]
  exact (StrLaws.replace_list (x := mk (rep2 d)) (y := Str.ofString "'") (z := Str.ofString "''") (by decide)).trans h
theorem quote_form (d : List Nat) : Str.ofString "'" ++ mk d ++ Str.ofString "'" = mk (39 :: (d ++ [39])) := by
  refine cl_inj ?_
  rw [cl_append, cl_append]
  rfl
def markV : List V := [V.str (Str.ofString ":="), V.str (Str.ofString ":"), V.str (Str.ofString "^"), V.str (Str.ofString "."), V.str (Str.ofString "|"), V.str (Str.ofString "("), V.str (Str.ofString ")"), V.str (Str.ofString "["), V.str (Str.ofString "]")]
theorem marks_in : ∀ c ∈ cM, inV (V.str (mk [c])) markV = true := by decide +kernel
theorem marks_col : ∀ c ∈ cM, V.str (mk [c]) = V.str (Str.ofString ":") → c = 58 := by decide +kernel
theorem misfit_signs : ∀ c ∈ (Str.ofString " \n+-*/<>=~&,@:^.|()[]").cps.toList, c = 32 ∨ c = 10 ∨ c ∈ cl sS ∨ c ∈ cM := by decide +kernel
theorem cl_from {z : Str} {a : Nat} : cl (cutS z (some (a : Int)) none) = (cl z).drop a := by
  show ((cl z).drop (HT.sIx z.length 0 (some (a : Int)))).take (HT.sIx z.length z.length none - HT.sIx z.length 0 (some (a : Int))) = _
  rw [HT.sIx_nat, HT.sIx_none, len_cl]
  by_cases h : a ≤ (cl z).length
  · rw [Nat.min_eq_left h, List.take_of_length_le (by rw [List.length_drop]; exact Nat.le_refl _)]
  · rw [Nat.min_eq_right (Nat.le_of_not_le h), List.drop_length, List.drop_eq_nil_of_le (Nat.le_of_not_le h), List.take_nil]
theorem skip_at (l : List Nat) {j : Nat} {f : Bool} (h : skip l = (j, f)) : (f = false → ∃ r, l.drop j = 34 :: r ∧ fi 34 r = none) ∧ (f = true → ∀ c r, l.drop j = c :: r → c ≠ 34 ∧ ¬ (c = 32 ∨ c = 10)) := by
  match l with
  | [] =>
    rw [skip_nil] at h
    cases h
    exact ⟨fun z => (by cases z), fun _ c r z => (by cases z)⟩
  | c :: r =>
    by_cases h34 : c = 34
    · cases hq : fi 34 r with
      | none =>
        rw [skip_open h34 hq] at h
        cases h
        exact ⟨fun _ => ⟨r, by rw [h34]; rfl, hq⟩, fun z => (by cases z)⟩
      | some k =>
        rw [skip_comment h34 hq] at h
        have e1 : (skip (r.drop (k + 1))).1 + (k + 2) = j := congrArg Prod.fst h
        have e2 : (skip (r.drop (k + 1))).2 = f := congrArg Prod.snd h
        have ih := skip_at (r.drop (k + 1)) (j := (skip (r.drop (k + 1))).1) (f := f) (Prod.ext rfl e2)
        have ed : (c :: r).drop j = (r.drop (k + 1)).drop (skip (r.drop (k + 1))).1 := by
          rw [← e1, List.drop_drop, show (skip (r.drop (k + 1))).1 + (k + 2) = (k + 1 + (skip (r.drop (k + 1))).1) + 1 by omega, List.drop_succ_cons]
        rw [ed]
        exact ih
    · by_cases hb : c = 32 ∨ c = 10
      · rw [skip_blank h34 hb] at h
        have e1 : (skip r).1 + 1 = j := congrArg Prod.fst h
        have e2 : (skip r).2 = f := congrArg Prod.snd h
        have ih := skip_at r (j := (skip r).1) (f := f) (Prod.ext rfl e2)
        rw [← e1, List.drop_succ_cons]
        exact ih
      · rw [skip_sign h34 hb] at h
        cases h
        refine ⟨fun z => (by cases z), fun _ c2 r2 z => ?_⟩
        cases z
        exact ⟨h34, hb⟩
termination_by l.length
decreasing_by all_goals (simp only [List.length_drop, List.length_cons]; omega)
/-- where no token, blank or comment begins -/
def Mis (l : List Nat) : Prop := ∃ c r, l = c :: r ∧ ((c = 34 ∧ fi 34 r = none) ∨ (c ≠ 34 ∧ ¬ (c = 32 ∨ c = 10) ∧ tokL (c :: r) = none))
theorem Mis.noEq {l : List Nat} (h : Mis l) : NoEq l := by
  obtain ⟨c, r, rfl, h | ⟨_, _, h⟩⟩ := h
  · intro z
    have := Option.some.inj z
    rw [h.1] at this
    cases this
  · intro z
    have : c = 61 := Option.some.inj z
    subst this
    unfold tokL at h
    simp only at h
    rw [if_neg (by decide), if_neg (by decide), if_neg (by decide), if_neg (by decide), if_pos (by decide +kernel)] at h
    cases h
theorem Stuck.mis {s : List Nat} {b j : Nat} (h : Stuck s b j) : Mis (s.drop (b + j)) := by
  rcases h with h | ⟨h1, h2, h3⟩
  · obtain ⟨r, e, hr⟩ := (skip_at _ h).1 rfl
    rw [List.drop_drop] at e
    exact ⟨34, r, e, .inl ⟨rfl, hr⟩⟩
  · have e := List.drop_eq_getElem_cons h2
    have h4 := (skip_at _ h1).2 rfl _ _ (by rw [List.drop_drop]; exact e)
    rw [e] at h3
    exact ⟨_, _, e, .inr ⟨h4.1, h4.2, h3⟩⟩
theorem Stuck.skip {s : List Nat} {b j : Nat} (h : Stuck s b j) : ∃ f, skip (s.drop b) = (j, f) := by
  rcases h with h | ⟨h, _⟩
  · exact ⟨_, h⟩
  · exact ⟨_, h⟩
/-- the text before the misfit -/
theorem Stuck.before {s : List Nat} {ts : List (Nat × Str × V)} {b j : Nat} (T : Til s 0 ts b) (hb : b + j ≤ s.length) (h : Stuck s b j) : Til (s.take (b + j)) 0 ts b ∧ Done (s.take (b + j)) b := by
  have hu : (s.take (b + j)).length = b + j := by
    rw [List.length_take]
    omega
  have hs : s = s.take (b + j) ++ s.drop (b + j) := (List.take_append_drop _ _).symm
  have hv := h.mis.noEq
  refine ⟨Til.cut hs hv T (by omega), ?_⟩
  obtain ⟨f, hf⟩ := h.skip
  rw [hs, List.drop_append_of_le_length (by omega)] at hf
  have hd : ((s.take (b + j)).drop b).length = j := by
    rw [List.length_drop, hu]
    omega
  unfold Done
  rw [hu, show b + j - b = j by omega]
  exact skip_loc _ _ hf (by omega) (fun _ => hd.symm)
theorem cl_upto {z : Str} {a : Nat} : cl (cutS z none (some (a : Int))) = (cl z).take a := by
  show ((cl z).drop (HT.sIx z.length 0 none)).take (HT.sIx z.length z.length (some (a : Int)) - HT.sIx z.length 0 none) = _
  rw [HT.sIx_nat, HT.sIx_none, len_cl, List.drop_zero, Nat.sub_zero]
  by_cases h : a ≤ (cl z).length
  · rw [Nat.min_eq_left h]
  · rw [Nat.min_eq_right (Nat.le_of_not_le h), List.take_length, List.take_of_length_le (Nat.le_of_not_le h)]

/-! ### several except clauses; those behind the ones that are read are never reached -/
def wManyR (K : PySem.W.Frag) (D : Ends) : List (Value × Nat × (Addr → Value → Option Addr → TS)) → WX
  | [] => fun _ _ _ _ => False
  | (c, i, ts) :: r => wAs K c i ts (wManyR K D r) D
inductive HdsAsR (X : Cx) : List ExceptHandler → List (Value × Nat × (Addr → Value → Option Addr → TS)) → Prop
  | nil {hds : List ExceptHandler} : HdsAsR X hds []
  | cons {x n : Str} {c : Value} {i : Nat} {ts : Addr → Value → Option Addr → TS} {b₀ : Stmt} {suite : List Stmt} {np pos' : Pos} {hds : List ExceptHandler} {l : List (Value × Nat × (Addr → Value → Option Addr → TS))}
      (hi : X.N[i]? = some n) (hln : X.env.kindOf n = some .local) (hc : Names X x c)
      (hsu : ∀ (a : Addr) (oe : Obj) (cls : Value) (d : Option Addr) (pn : List (Addr × Obj)), L2N.Zn cls d oe → (∃ vs, oe.data = .fields vs) → PSs (X.suite a ((a, oe) :: pn)) (b₀ :: suite) (ts a cls d)) (r : HdsAsR X hds l) :
      HdsAsR X (.ExceptHandler (some (.Name x np)) (some n) (b₀ :: suite) pos' :: hds) ((c, i, ts) :: l)
section
variable {X : Cx} {body : List Stmt} {h₀ : ExceptHandler} {hds : List ExceptHandler} {l : List (Value × Nat × (Addr → Value → Option Addr → TS))} {pos : Pos} {tb : WX → TS}
theorem ps_try_manyAsR (hs : X.stack = X.env :: X.outer) (hf : X.env.frame = some X.env.locals) (hN : X.N.Nodup)
    (hb : ∀ (W : WX) (pn : List (Addr × Obj)) (xe : Value → Shared → Prop), L2N.Takes (X.tr pn xe) W → PassesOwn (model X.prog X.w) X.A X.env xe → PSs (X.tr pn xe) body (tb W))
    (hh : HdsAsR X (h₀ :: hds) l) : PS X (.Try body (h₀ :: hds) [] [] pos) (fun D σ H => tb (wManyR X.K D l) D σ H) := by
  refine ⟨fun pins s σ H D I h => ?_⟩
  have ok := I.ok
  have hfr : X.A.frames = some (X.env :: X.outer) := by rw [ok.frames, hs]
  refine wpAny_Try_except ?_
  refine wpAny_mono ((hb (wManyR X.K D l) (X.pn ++ pins) (fun e s₁ => wpAny (model X.prog X.w) X.A (noteFrame e X.env) (fun _ s₂ => wpAny (model X.prog X.w) X.A (setFlight e none) (fun _ s₃ =>
    wpAny (model X.prog X.w) X.A (handleBy e X.env (h₀ :: hds)) (SP X pins D) X.xe s₃) X.xe s₂) X.xe s₁) (fun u s' xx => ?_) PassesOwn.looking).run [] s σ H D (I.toTry _) h) (fun f s1 hsp => ?_) (fun e s1 he => he)
  · obtain ⟨a, B, sI, pins', σ', H', cls, d, rfl, J', nb, up, sky, na, os, ag, w⟩ := xx
    have J : Inv X pins σ' H' sI := J'.ofTry ok
    have sky' : L2.Sky B (X.env :: X.outer) a (L2N.Zn cls d) X.env.locals s'.heap := by rw [← hs]; exact sky
    show wpAny (model X.prog X.w) X.A (noteFrame (.ref a) X.env) _ _ _
    refine L2N.Sky.land L2N.Zn.steady hfr hf sky' fun h3 fl3 up3 => ?_
    have J3 : Inv X pins σ' H' { s' with heap := h3 } := J.landed nb fl3.1 (up.trans up3) os ag
    obtain ⟨oe3, vs3, he3, hz3, hd3⟩ := fl3.there
    have notFr : ∀ {h : Heap} {o : Obj} {vs : Array Value}, h.FunFrames B (X.env :: X.outer) → h.get? a = some o → o.data = .fields vs → a ∉ frs (X.env :: X.outer) := fun {h o vs} ff e dd hm => by
      obtain ⟨_, o', e', hnf⟩ := ff.mem hm
      rw [e] at e'; cases e'
      exact hnf _ dd
    have nfr := notFr fl3.2.2.1 he3 hd3
    have nL : a ≠ X.env.locals := fun z => nfr (List.mem_filterMap.mpr ⟨X.env, List.mem_cons_self, by rw [hf, z]⟩)
    have nF : a ∉ X.fs := fun hm => by
      obtain ⟨e, he, q⟩ := List.mem_filterMap.mp hm
      exact nfr (List.mem_filterMap.mpr ⟨e, List.mem_cons_of_mem _ he, q⟩)
    have S3 := J3.suite he3 hd3 na nL nF
    have LT : PySem.W.Looks (model X.prog X.w) h3 (typeOf (.ref a)) cls := fun A Q E s k q => wpAny_typeOf_ref (k _ _ he3) (by rw [hz3.1]; exact q)
    have go : ∀ {hds' : List ExceptHandler} {l' : List (Value × Nat × (Addr → Value → Option Addr → TS))}, HdsAsR X hds' l' → wManyR X.K D l' cls d σ' H' →
        wpAny (model X.prog X.w) X.A (handleBy (.ref a) X.env hds') (SP X pins D) X.xe { s' with heap := h3 } := by
      intro hds' l' hk
      induction hk with
      | nil =>
        intro w
        exact False.elim w
      | @cons x n c i ts b₀ suite np pos' hds2 l2 hi hln hc hsu r ih =>
        intro w
        obtain ⟨b, hb1, hyes, hno⟩ := w
        have hloc : Loc X.env.scope n := .inl hln
        refine wpAny_handleBy_cons (codeAny_handlers_test ?_) (by intro q; cases q)
        have LM := PySem.W.exm_one (M := model X.prog X.w) (J3.kIn) LT hb1
        have test : ∀ {Q : Value → Shared → Prop} {E : Value → Shared → Prop}, Q c { s' with heap := h3 } → wpAny (model X.prog X.w) (X.A.mark (some (.ref a))) (eval (.Name x np) X.env) Q E { s' with heap := h3 } := fun {Q E} q => by
          obtain ⟨hg, hdbg, hm | ⟨hm, hv, hnn⟩⟩ := hc
          · exact ld_glob (X := X.suite a ((a, oe3) :: (X.pn ++ pins))) S3 hg hm q hdbg
          · exact ld_blt (X := X.suite a ((a, oe3) :: (X.pn ++ pins))) S3 hg hm hv q hnn hdbg
        refine test (LM.here ?_)
        cases b with
        | true =>
          refine codeAny_handlers_suite_as ?_
          refine HandSPX.lands_againZ fl3 fun h4 fl4 up4 => ?_
          have J4 : Inv X pins σ' H' { s' with heap := h4 } := J.landed nb fl4.1 ((up.trans up3).trans up4) os ag
          obtain ⟨oe4, vs4, he4, hz4, hd4⟩ := fl4.there
          have S4 := J4.suite he4 hd4 na nL nF
          refine store_ok (X := X.suite a ((a, oe4) :: (X.pn ++ pins))) (v := .ref a) S4 hN hi hloc rfl (fun s5 S5 => ?_) (.inr hln)
          refine wpAny_mono ((hsu a oe4 cls d (X.pn ++ pins) hz4 ⟨_, hd4⟩).run [] s5 _ H' _ S5 (hyes rfl a na)) (fun f s6 hsp => ?_) (fun _ _ z => False.elim z)
          have end_ : ∀ {σ6 : L2.St} {H6 : Hp} {Q : Shared → Prop}, Inv (X.suite a ((a, oe4) :: (X.pn ++ pins))) [] σ6 H6 s6 → (∀ s7, Inv X pins (σ6.set i none) H6 s7 → Q s7) →
              wpAny (model X.prog X.w) X.A (do bindName X.env n .none; unbindBehindTheSuite X.env n pos') (fun _ s7 => Q s7) X.xe s6 := fun {σ6 H6 Q} S6 hq => gone_ok (S6.unsuite ok) hN hi hln hq
          cases f with
          | next =>
            obtain ⟨σ6, H6, S6, q6⟩ := hsp
            exact end_ S6 fun s7 J7 => ⟨_, _, J7, q6⟩
          | brk =>
            obtain ⟨σ6, H6, S6, q6⟩ := hsp
            exact end_ S6 fun s7 J7 => ⟨_, _, J7, q6⟩
          | cont =>
            obtain ⟨σ6, H6, S6, q6⟩ := hsp
            exact end_ S6 fun s7 J7 => ⟨_, _, J7, q6⟩
          | ret u =>
            obtain ⟨v6, σ6, H6, S6, r6, q6⟩ := hsp
            exact end_ S6 fun s7 J7 => ⟨_, _, _, J7, r6, q6⟩
        | false =>
          show wpAny _ X.A (handleBy (.ref a) X.env hds2) _ _ _
          exact ih (hno rfl)
    exact go hh w
  · cases f with
    | next =>
      obtain ⟨σ', H', J', q⟩ := hsp
      exact wpAny_execs_nil ⟨σ', H', J'.ofTry ok, q⟩
    | brk =>
      obtain ⟨σ', H', J', q⟩ := hsp
      exact ⟨σ', H', J'.ofTry ok, q⟩
    | cont =>
      obtain ⟨σ', H', J', q⟩ := hsp
      exact ⟨σ', H', J'.ofTry ok, q⟩
    | ret u =>
      obtain ⟨v, σ', H', J', r, q⟩ := hsp
      exact ⟨v, σ', H', J'.ofTry ok, r, q⟩
end

def sp_lsym : Sp := fun vs H Q _ => ∃ (x y : Str) (n k : Nat), vs = [.str x, .int n, .str y] ∧ n < (cl x).length ∧ x.length ≤ 10000 ∧ tokL ((cl x).drop n) = some (("symbol" : Str), V.str y, k) ∧ Q (.int ((n + k : Nat) : Int)) H
theorem sp_lsym_len {vs H Q E} (h : sp_lsym vs H Q E) : vs.length = (["source", "at", "text"] : List Str).length := by
  obtain ⟨_, _, _, _, rfl, _⟩ := h
  rfl
section
variable {P : Program} {w : World} {K : PySem.W.Frag} {mg : Str → Option Value} {base : Heap} {A : Ad}
theorem ok__law_symbol_end (T : Txt K mg A) : FnOk P w K mg base CX0 4 A.f__law_symbol_end A.d__law_symbol_end ["source", "at", "text"] (sp_lsym) := by
  refine Fun.ok T.F__law_symbol_end sc__law_symbol_end (fun vs H Q E h => ?_) (fun cdv Ar outer s H vs Q E hr h => ?_)
  · exact sp_lsym_len h
  · have hu := hu_of hr
    refine ⟨_, (pss_cons (ps_if (pt_cmpR op_eq (pe_item_str (pv 0) (pv 1) (fun _ _ => rfl)) pe_str (nomark _)) (pss_cons (ps_asg (pe_op op_add_str (pe_opC op_add_str (CwR.pet_replC (pv 2))) pe_str) (pg_name (i := 3) sc__law_symbol_end.nd rfl (Or.inl rfl)))
    (pss_cons (ps_asg (pe_op op_add (pv 1) (pe_callB call_len_str (by rfl) T.z_len PySem.boot_len (pa_cons (pv 3) pa_nil))) (pg_name (i := 4) sc__law_symbol_end.nd rfl (Or.inl rfl)))
    (pss_cons (ps_if (PW.pt (pw_and (pt_cmpR op_eq (pe_slice sl_str (pv 0) (po_some (pv 1)) (po_some (pv 4))) (pv 3) (nomark _)) (pw_and1 (pt_cmpR op_ne (pe_slice sl_str (pv 0) (po_some (pv 4)) (po_some (pe_op op_add (pv 4) pe_int))) pe_str (nomark _))))) (pss_one (ps_ret (pv 4))) pss_nil)
    (pss_one (ps_ret (pv 1)))))) pss_nil)
    (pss_cons (ps_asg (pe_op op_add (pe_op op_add (pv 1) pe_int) (pe_callB call_len_str (by rfl) T.z_len PySem.boot_len (pa_cons (pv 2) pa_nil))) (pg_name (i := 4) sc__law_symbol_end.nd rfl (Or.inl rfl)))
    (pss_cons (ps_if (PW.pt (pw_or (pt_cmpR op_ne (pe_item_str (pv 0) (pv 1) (fun _ _ => rfl)) pe_str (nomark _)) (pw_or1 (pt_cmpR op_ne (pe_slice sl_str (pv 0) (po_some (pe_op op_add (pv 1) pe_int)) (po_some (pv 4))) (pv 2) (nomark _))))) (pss_one (ps_ret (pv 1))) pss_nil)
    (pss_cons (ps_asg (pe_call (ok__law_name_end T) (hr.mono (by decide)) (by rfl) T.g__law_name_end T.k__law_name_end T.b__law_name_end .nil pass0 (pa_cons (pv 0) (pa_cons (pe_op op_add (pv 1) pe_int) pa_nil))) (pg_name (i := 5) sc__law_symbol_end.nd rfl (Or.inl rfl)))
    (pss_cons (ps_if (PW.pt (pw_or (pt_cmpR op_eq (pv 5) (pe_op op_add (pv 1) pe_int) (nomark _)) (pw_or1 (pt_not (pt_val (pe_call (ok__law_colon T) (hr.mono (by decide)) (by rfl) T.g__law_colon T.k__law_colon T.b__law_colon .nil pass0 (pa_cons (pv 0) (pa_cons (pv 5) pa_nil)))))))) (pss_one (ps_ret (pe_ifExp (PW.pt (pw_and (pt_cmpR op_eq (pv 5) (pv 4) (nomark _)) (pw_and1 (pt_cmpR op_gt (pv 5) (pe_op op_add (pv 1) pe_int) (nomark _))))) (pv 5) (pv 1)))) pss_nil)
    (pss_cons (ps_while PassesOwn.never (PW.pt (pw_and (pt_cmpR op_lt (pv 5) (pe_callB call_len_str (by rfl) T.z_len PySem.boot_len (pa_cons (pv 0) pa_nil)) (nomark _)) (pw_and1 (pt_val (pe_call (ok__law_colon T) (hr.mono (by decide)) (by rfl) T.g__law_colon T.k__law_colon T.b__law_colon .nil pass0 (pa_cons (pv 0) (pa_cons (pv 5) pa_nil))))))) (pss_cons (ps_asg (pe_op op_add (pv 5) pe_int) (pg_name (i := 6) sc__law_symbol_end.nd rfl (Or.inl rfl)))
    (pss_cons (ps_asg (pe_call (ok__law_name_end T) (hr.mono (by decide)) (by rfl) T.g__law_name_end T.k__law_name_end T.b__law_name_end .nil pass0 (pa_cons (pv 0) (pa_cons (pv 6) pa_nil))) (pg_name (i := 5) sc__law_symbol_end.nd rfl (Or.inl rfl)))
    (pss_cons (ps_if (PW.pt (pw_and (pt_cmpR op_eq (pv 6) (pv 4) (nomark _)) (pw_and1 (PW.pt (pw_or (pt_cmpR op_eq (pv 5) (pv 6) (nomark _)) (pw_or1 (pt_not (pt_val (pe_call (ok__law_colon T) (hr.mono (by decide)) (by rfl) T.g__law_colon T.k__law_colon T.b__law_colon .nil pass0 (pa_cons (pv 0) (pa_cons (pv 5) pa_nil))))))))))) (pss_one (ps_ret (pv 4))) pss_nil)
    (pss_one (ps_if (pt_cmpR op_eq (pv 5) (pv 6) (nomark _)) (pss_one (ps_ret (pv 1))) pss_nil))))))
    (pss_one (ps_ret (pv 1))))))))), ?_⟩
    obtain ⟨x, y, n, k, rfl, hn, hx, htk, kk⟩ := h
    simp (config := { maxSteps := 4000000 }) only [tSeq, tNext, tDrop, tRet, tRetN, tIfS, tAsg, tTest, tAnd, tOr, tNot, tAndV, tOrV, tNotV, tIf, tOp, tUn, tVar, tC, tCB, tCons, tNil, tCall, tPart, tNoPart, tM0, tM1, tTup, tLst, tB, tIsN, tNotN, rI0, rI, rU, rEq, rNe, rAdd, gName, gTup, gCons, gNil, gSub, rSetL, rIxL, rIxT, rIxS, L2.start,
      List.map_cons, List.map_nil, List.cons_append, List.nil_append, List.append_nil, List.length_cons, List.length_nil, List.replicate, List.getElem?_cons_zero, List.getElem?_cons_succ, List.set_cons_zero, List.set_cons_succ, Nat.reduceAdd, Nat.reduceSub, Nat.sub_self, Nat.zero_add,
      Option.some.injEq, V.int.injEq, V.str.injEq, V.bl.injEq, V.ref.injEq, V.ty.injEq, List.cons.injEq, and_true, true_and, exists_eq_left, exists_eq_left', exists_eq_right, exists_and_left, exists_and_right, exists_const, decide_eq_true_eq, decide_eq_false_iff_not, if_true, if_false, reduceIte, Bool.false_eq_true, Bool.not_eq_true', sc_ii, sc_ss, sc_bb, str1, cx_K, lstAt, rIxM, rSetM, rLenM, atI_0, atI_1, atI_2, atI_3, setI_0, setI_1, setI_2, setI_3, upd_same, upd_upd, ite_true, ite_false, exists_eq', eq_self, and_assoc, rIsS, isTy_bb, isTy_bi, isTy_ib, isTy_ii, isTy_ss, isTy_nb, isTy_ni, Bool.not_true, Bool.not_false, not_true_eq_false, not_false_eq_true, tChain, tRz1, tRz2, rIsX, tFx, tMethE, tCallS, tCallZ, tMeth, tMake, tFld, sFld, HO.ins.injEq, HO.lst.injEq, HO.dK.injEq, HO.tup.injEq, dcAt, dcRd, rDInM, rDGetM, rDSetM, rDLenM, keyOf_int, keyOf_str, rIsBM, plainV_b, plainV_i, plainV_n, plainV_s, rInM, rListM, rSortM, rSumM, rIsD, tBMM, tBM0M, tSl, rSlM, rAppend, rPop, rClear, wAs, reduceCtorEq, false_implies, true_implies, implies_true, forall_const, cxH_K, clsV_ref, clsV_ty, HO.xd.injEq, Value.ref.injEq, lkc, lkn, pfn, pfc, List.map_nil, rExtend, rCat, rRep, tMethE0, rSortD, rPush, rPopH, tDGetM, gAll, iRev, tCB, sDDel, wPair, tBreak, tDelT, rDLenR, tMethN, tSl, tPart, CwR.tReplC]
    have hl := len_cl x
    have hsz : x.length ≤ sizeLine := Nat.le_trans hx (by decide)
    have hd : (cl x).drop n = (cl x)[n] :: (cl x).drop (n + 1) := List.drop_eq_getElem_cons hn
    have hc : x.cps[((n : Nat) : Int).toNat]? = some ((cl x)[n]) := by
      rw [Int.toNat_natCast, at_cl, List.getElem?_eq_getElem hn]
    rw [hd] at htk
    have hks := tokL_le htk
    generalize (cl x)[n] = c at *
    have hrl : ((cl x).drop (n + 1)).length = (cl x).length - (n + 1) := List.length_drop ..
    have h16 : (100000 : Nat) ≤ sizeLine := by decide
    refine ⟨by omega, by omega, by omega, c, hc, ?_⟩
    rcases tok_sym htk with ⟨rfl, h1, rfl, rfl⟩ | ⟨rfl, q, h1, rfl, rfl⟩
    · have hyl : (mk (((cl x).drop (n + 1)).take (hashLen ((cl x).drop (n + 1))))).length = hashLen ((cl x).drop (n + 1)) := by
        show (((cl x).drop (n + 1)).take (hashLen ((cl x).drop (n + 1)))).length = _
        rw [List.length_take]
        exact Nat.min_eq_left (hashLen_le _)
      have hhl := hashLen_le ((cl x).drop (n + 1))
      refine ite2 (fun h => absurd (one_iff.mp h) (by decide)) (fun _ => ⟨by rw [hyl]; omega, by omega, by omega, by omega, _, hc, ite2 (fun h => absurd rfl h) (fun _ => ?_)⟩)
      rw [hyl, show (n : Int) + 1 = ((n + 1 : Nat) : Int) by omega]
      refine ⟨x, rfl, hsz, rfl, ite2 (fun h => absurd (congrArg V.str (cut_mk rfl (by omega))) h) (fun _ => ?_)⟩
      refine ⟨x, n + 1, rfl, by omega, by omega, rfl, ?_⟩
      have hnl := nameLen_le ((cl x).drop (n + 1))
      by_cases hkw : kwLen ((cl x).drop (n + 1)) = 0
      · have e : hashLen ((cl x).drop (n + 1)) = nameLen ((cl x).drop (n + 1)) := by
          unfold hashLen
          rw [if_neg (fun z => z (kws_zero hkw))]
        rw [e] at h1 kk ⊢
        have hcol : colonB ((cl x).drop (n + 1 + nameLen ((cl x).drop (n + 1)))) = false := by
          refine Bool.eq_false_iff.mpr fun z => kwLen_iff.mpr ⟨h1, ?_⟩ hkw
          rw [List.drop_drop]
          exact z
        have fin : Q (V.int ((n + 1 + nameLen ((cl x).drop (n + 1)) : Nat) : Int)) H := by
          rw [show n + 1 + nameLen ((cl x).drop (n + 1)) = n + (nameLen ((cl x).drop (n + 1)) + 1) by omega]
          exact kk
        refine ite2 (fun h => absurd (V.int.inj h) (by omega)) (fun _ => ⟨x, n + 1 + nameLen ((cl x).drop (n + 1)), rfl, by omega, _, rfl, ite2 (fun _ => ⟨rfl, ite2 (fun _ => ⟨_, rfl, ite2 (fun _ => fin) (fun h => absurd (show ((n + 1 : Nat) : Int) < ((n + 1 + nameLen ((cl x).drop (n + 1)) : Nat) : Int) by omega) h)⟩) (fun h => absurd (by rw [show ((n + 1 : Nat) : Int) + (nameLen ((cl x).drop (n + 1)) : Int) = ((n + 1 + nameLen ((cl x).drop (n + 1)) : Nat) : Int) by omega]) h)⟩) (fun h => absurd hcol h)⟩)
      · have hk0 := kwLen_iff.mp hkw
        have hcol : colonB ((cl x).drop (n + 1 + nameLen ((cl x).drop (n + 1)))) = true := by
          have := hk0.2
          rw [List.drop_drop] at this
          exact this
        have hh : hashLen ((cl x).drop (n + 1)) = kwsLen ((cl x).drop (n + 1)) := by
          unfold hashLen
          rw [if_pos (by rw [kws_step hkw]; omega)]
        generalize hashLen ((cl x).drop (n + 1)) = hl2 at *
        refine ite2 (fun h => absurd (V.int.inj h) (by omega)) (fun _ => ⟨x, n + 1 + nameLen ((cl x).drop (n + 1)), rfl, by omega, _, rfl, ite2 (fun h => absurd (hcol.symm.trans h) (by decide)) (fun _ => ?_)⟩)
        refine ⟨fun m σ H' => H' = H ∧ ∃ (j : Nat) (pl : Option V), σ = [some (.str x), some (.int n), some (.str (mk (((cl x).drop (n + 1)).take hl2))), none, some (.int (((n + 1 : Nat) : Int) + (hl2 : Int))), some (.int ((n + 1 + j + nameLen ((cl x).drop (n + 1 + j)) : Nat) : Int)), pl] ∧ kwLen ((cl x).drop (n + 1 + j)) ≠ 0 ∧ hl2 = j + kwsLen ((cl x).drop (n + 1 + j)) ∧ m = hl2 - j, ⟨hl2 - 0, rfl, 0, none, rfl, hkw, by rw [Nat.zero_add]; exact hh, rfl⟩, ?_⟩
        rintro m σ H' ⟨rfl, j, pl, rfl, hk1, hj, rfl⟩
        simp (config := { maxSteps := 4000000 }) only [tSeq, tNext, tDrop, tRet, tRetN, tIfS, tAsg, tTest, tAnd, tOr, tNot, tAndV, tOrV, tNotV, tIf, tOp, tUn, tVar, tC, tCB, tCons, tNil, tCall, tPart, tNoPart, tM0, tM1, tTup, tLst, tB, tIsN, tNotN, rI0, rI, rU, rEq, rNe, rAdd, gName, gTup, gCons, gNil, gSub, rSetL, rIxL, rIxT, rIxS, L2.start,
      List.map_cons, List.map_nil, List.cons_append, List.nil_append, List.append_nil, List.length_cons, List.length_nil, List.replicate, List.getElem?_cons_zero, List.getElem?_cons_succ, List.set_cons_zero, List.set_cons_succ, Nat.reduceAdd, Nat.reduceSub, Nat.sub_self, Nat.zero_add,
      Option.some.injEq, V.int.injEq, V.str.injEq, V.bl.injEq, V.ref.injEq, V.ty.injEq, List.cons.injEq, and_true, true_and, exists_eq_left, exists_eq_left', exists_eq_right, exists_and_left, exists_and_right, exists_const, decide_eq_true_eq, decide_eq_false_iff_not, if_true, if_false, reduceIte, Bool.false_eq_true, Bool.not_eq_true', sc_ii, sc_ss, sc_bb, str1, cx_K, lstAt, rIxM, rSetM, rLenM, atI_0, atI_1, atI_2, atI_3, setI_0, setI_1, setI_2, setI_3, upd_same, upd_upd, ite_true, ite_false, exists_eq', eq_self, and_assoc, rIsS, isTy_bb, isTy_bi, isTy_ib, isTy_ii, isTy_ss, isTy_nb, isTy_ni, Bool.not_true, Bool.not_false, not_true_eq_false, not_false_eq_true, tChain, tRz1, tRz2, rIsX, tFx, tMethE, tCallS, tCallZ, tMeth, tMake, tFld, sFld, HO.ins.injEq, HO.lst.injEq, HO.dK.injEq, HO.tup.injEq, dcAt, dcRd, rDInM, rDGetM, rDSetM, rDLenM, keyOf_int, keyOf_str, rIsBM, plainV_b, plainV_i, plainV_n, plainV_s, rInM, rListM, rSortM, rSumM, rIsD, tBMM, tBM0M, tSl, rSlM, rAppend, rPop, rClear, wAs, reduceCtorEq, false_implies, true_implies, implies_true, forall_const, cxH_K, clsV_ref, clsV_ty, HO.xd.injEq, Value.ref.injEq, lkc, lkn, pfn, pfc, List.map_nil, rExtend, rCat, rRep, tMethE0, rSortD, rPush, rPopH, tDGetM, gAll, iRev, tCB, sDDel, wPair, tBreak, tDelT, rDLenR, tMethN, tSl, tPart, CwR.tReplC]
        have ek := kwLen_eq hk1
        have es := kws_step hk1
        have hle := kwLen_le ((cl x).drop (n + 1 + j))
        rw [List.length_drop] at hle
        have hc1 : colonB ((cl x).drop (n + 1 + j + nameLen ((cl x).drop (n + 1 + j)))) = true := by
          have := (kwLen_iff.mp hk1).2
          rw [List.drop_drop] at this
          exact this
        have ed : ((cl x).drop (n + 1 + j)).drop (kwLen ((cl x).drop (n + 1 + j))) = (cl x).drop (n + 1 + (j + kwLen ((cl x).drop (n + 1 + j)))) := by
          rw [List.drop_drop, Nat.add_assoc (n + 1) j]
        rw [ed] at es
        have ep : ((n + 1 + j + nameLen ((cl x).drop (n + 1 + j)) : Nat) : Int) + 1 = ((n + 1 + (j + kwLen ((cl x).drop (n + 1 + j))) : Nat) : Int) := by omega
        rw [ep]
        generalize kwLen ((cl x).drop (n + 1 + j)) = kw at *
        have hnl2 := nameLen_le ((cl x).drop (n + 1 + (j + kw)))
        rw [List.length_drop] at hnl2
        have hkw1 : 1 ≤ kw := by omega
        have hlt : n + 1 + j + nameLen ((cl x).drop (n + 1 + j)) < (cl x).length := by omega
        have kk' : Q (V.int (((n + 1 : Nat) : Int) + (hl2 : Int))) H' := by
          rw [show ((n + 1 : Nat) : Int) + (hl2 : Int) = ((n + (hl2 + 1) : Nat) : Int) by omega]
          exact kk
        refine ⟨hsz, ite2 (fun _ => ⟨x, n + 1 + j + nameLen ((cl x).drop (n + 1 + j)), rfl, by omega, _, rfl, ite2 (fun _ => ?_) (fun h => absurd hc1 h)⟩) (fun h => absurd (show ((n + 1 + j + nameLen ((cl x).drop (n + 1 + j)) : Nat) : Int) < (x.length : Int) by omega) h)⟩
        refine ⟨_, fun _ _ h => h, x, n + 1 + (j + kw), rfl, by omega, by omega, ?_⟩
        by_cases h0 : kwLen ((cl x).drop (n + 1 + (j + kw))) = 0
        · rw [kws_zero h0] at es
          refine ite2 (fun _ => ⟨rfl, ite2 (fun _ => kk') (fun h2 => ⟨x, n + 1 + (j + kw) + nameLen ((cl x).drop (n + 1 + (j + kw))), rfl, by omega, _, rfl, ite2 (fun _ => kk') (fun h3 => ?_)⟩)⟩) (fun h => absurd (show ((n + 1 + (j + kw) : Nat) : Int) = ((n + 1 : Nat) : Int) + (hl2 : Int) by omega) h)
          refine absurd h0 (kwLen_iff.mpr ⟨fun z => h2 (by rw [z]; rfl), ?_⟩)
          rw [List.drop_drop]
          exact Classical.byContradiction fun z => h3 (Bool.eq_false_iff.mpr z)
        · obtain ⟨g1, g2⟩ := kwLen_iff.mp h0
          rw [List.drop_drop] at g2
          have ne : ¬ V.int ((n + 1 + (j + kw) + nameLen ((cl x).drop (n + 1 + (j + kw))) : Nat) : Int) = V.int ((n + 1 + (j + kw) : Nat) : Int) := fun z => by
            have := V.int.inj z
            omega
          have go : ∀ pl : Option V, ∃ m', m' < hl2 - j ∧ H' = H' ∧ ∃ j_1, (∃ x_2, ([some (V.str x), some (V.int ↑n), some (V.str (mk (List.take hl2 (List.drop (n + 1) (cl x))))), none, some (V.int (((n + 1 : Nat) : Int) + (hl2 : Int))), some (V.int ((n + 1 + (j + kw) + nameLen ((cl x).drop (n + 1 + (j + kw))) : Nat) : Int)), pl] : L2.St) = [some (V.str x), some (V.int ↑n), some (V.str (mk (List.take hl2 (List.drop (n + 1) (cl x))))), none, some (V.int (((n + 1 : Nat) : Int) + (hl2 : Int))), some (V.int ((n + 1 + j_1 + nameLen ((cl x).drop (n + 1 + j_1)) : Nat) : Int)), x_2]) ∧
              kwLen ((cl x).drop (n + 1 + j_1)) ≠ 0 ∧ hl2 = j_1 + kwsLen ((cl x).drop (n + 1 + j_1)) ∧ m' = hl2 - j_1 := fun pl => ⟨hl2 - (j + kw), by omega, rfl, j + kw, ⟨pl, rfl⟩, h0, by omega, rfl⟩
          exact ite2 (fun _ => ⟨rfl, ite2 (fun h => absurd h ne) (fun _ => ⟨x, n + 1 + (j + kw) + nameLen ((cl x).drop (n + 1 + (j + kw))), rfl, by omega, _, rfl, ite2 (fun h => absurd (g2.symm.trans h) (by decide)) (fun _ => ⟨rfl, ite2 (fun h => absurd h ne) (fun _ => go _)⟩)⟩)⟩) (fun _ => ⟨rfl, ite2 (fun h => absurd h ne) (fun _ => go _)⟩)
    · obtain ⟨t1, t2, t3⟩ := q_text _ h1
      have hq := qEnd_lt h1
      have hdl : (((cl x).drop (n + 1)).take q).length = q := by
        rw [List.length_take]
        omega
      have hr2 := rep2_len (((cl x).drop (n + 1)).take q)
      rw [hdl] at hr2
      rw [quote_back t1, quote_form]
      have hF : (mk (39 :: (((cl x).drop (n + 1)).take q ++ [39]))).length = q + 2 := by
        show (((cl x).drop (n + 1)).take q ++ [39]).length + 1 = q + 2
        rw [List.length_append, hdl]
        rfl
      have hM : (mk (((cl x).drop (n + 1)).take q)).length = q := hdl
      have ap : ∀ u v : Str, (u ++ v).length = u.length + v.length := app_len
      have o1 : (Str.ofString "'").length = 1 := rfl
      have o2 : (Str.ofString "''").length = 2 := rfl
      refine ite2 (fun _ => ?_) (fun h => absurd rfl h)
      rw [hF, ap, hM, o1, o2]
      have eF : cutS x (some (n : Int)) (some ((n : Int) + ((q + 2 : Nat) : Int))) = mk (39 :: (((cl x).drop (n + 1)).take q ++ [39])) := by
        rw [cut_mk (a := n) (b := q + 2) rfl (by omega), hd, List.take_succ_cons, List.take_succ, t2]
        rfl
      have e2 : cutS x (some ((n : Int) + ((q + 2 : Nat) : Int))) (some ((n : Int) + ((q + 2 : Nat) : Int) + 1)) ≠ mk [39] := fun z => by
        rw [cut_one (a := n + (q + 2)) (by omega) (by omega)] at z
        rw [List.getElem?_drop, show n + 1 + (q + 1) = n + (q + 2) by omega] at t3
        exact t3 z
      refine ⟨by omega, by omega, by omega, by omega, x, rfl, hsz, rfl, ite2 (fun _ => ⟨x, rfl, hsz, rfl, ite2 (fun _ => kk) (fun h => absurd (fun z => e2 (V.str.inj z)) h)⟩) (fun h => absurd (congrArg V.str eF) h)⟩
end

def sp_ltok : Sp := fun vs H Q _ => ∃ (x kd : Str) (v : V) (n k : Nat), vs = [.str x, .int n, .str kd, v] ∧ n < (cl x).length ∧ x.length ≤ 10000 ∧ tokL ((cl x).drop n) = some (kd, v, k) ∧ ∀ H', Kp H H' → Q (.int ((n + k : Nat) : Int)) H'
theorem sp_ltok_len {vs H Q E} (h : sp_ltok vs H Q E) : vs.length = (["source", "at", "kind", "value"] : List Str).length := by
  obtain ⟨_, _, _, _, _, rfl, _⟩ := h
  rfl
section
variable {P : Program} {w : World} {K : PySem.W.Frag} {mg : Str → Option Value} {base : Heap} {A : Ad}
theorem ok__law_token_end (T : Txt K mg A) : FnOk P w K mg base CX0 5 A.f__law_token_end A.d__law_token_end ["source", "at", "kind", "value"] (sp_ltok) := by
  refine Fun.ok T.F__law_token_end sc__law_token_end (fun vs H Q E h => ?_) (fun cdv Ar outer s H vs Q E hr h => ?_)
  · exact sp_ltok_len h
  · have hu := hu_of hr
    refine ⟨_, (pss_cons (ps_if (pt_cmpR op_eq (pv 2) pe_str (nomark _)) (pss_one (ps_ret (pe_call (ok__law_symbol_end T) (hr.mono (by decide)) (by rfl) T.g__law_symbol_end T.k__law_symbol_end T.b__law_symbol_end .nil pass0 (pa_cons (pv 0) (pa_cons (pv 1) (pa_cons (pv 3) pa_nil)))))) pss_nil)
    (pss_cons (ps_if (pt_cmpR op_eq (pv 2) pe_str (nomark _)) (pss_cons (ps_asg (pe_call (ok__law_run T) (hr.mono (by decide)) (by rfl) T.g__law_run T.k__law_run T.b__law_run .nil pass0 (pa_cons (pv 0) (pa_cons (pv 1) (pa_cons pe_str pa_nil)))) (pg_name (i := 4) sc__law_token_end.nd rfl (Or.inl rfl)))
    (pss_cons (ps_if (PW.pt (pw_or (pt_val (pe_call (ok__law_is_letter T) (hr.mono (by decide)) (by rfl) T.g__law_is_letter T.k__law_is_letter T.b__law_is_letter .nil pass0 (pa_cons (pv 0) (pa_cons (pv 4) pa_nil)))) (pw_or (pt_cmpR op_gt (pe_op op_sub (pv 4) (pv 1)) pe_int (nomark _)) (pw_or1 (pt_cmpR op_ne (pe_callTy call_str_int (by rfl) T.z_str (by decide +kernel) (pa_cons (pv 3) pa_nil)) (pe_slice sl_str (pv 0) (po_some (pv 1)) (po_some (pv 4))) (nomark _)))))) (pss_one (ps_ret (pv 1))) pss_nil)
    (pss_one (ps_ret (pv 4))))) pss_nil)
    (pss_cons (ps_asg (pe_op op_add (pv 1) (pe_callB call_len_str (by rfl) T.z_len PySem.boot_len (pa_cons (pv 3) pa_nil))) (pg_name (i := 4) sc__law_token_end.nd rfl (Or.inl rfl)))
    (pss_cons (ps_if (pt_cmpR op_ne (pe_slice sl_str (pv 0) (po_some (pv 1)) (po_some (pv 4))) (pv 3) (nomark _)) (pss_one (ps_ret (pv 1))) pss_nil)
    (pss_cons (ps_if (pt_cmpR op_eq (pv 2) pe_str (nomark _)) (pss_one (ps_ret (pe_ifExp (PW.pt (pw_and (pt_cmpR op_eq (pe_call (ok__law_name_end T) (hr.mono (by decide)) (by rfl) T.g__law_name_end T.k__law_name_end T.b__law_name_end .nil pass0 (pa_cons (pv 0) (pa_cons (pv 1) pa_nil))) (pv 4) (nomark _)) (pw_and1 (pt_not (pt_val (pe_call (ok__law_colon T) (hr.mono (by decide)) (by rfl) T.g__law_colon T.k__law_colon T.b__law_colon .nil pass0 (pa_cons (pv 0) (pa_cons (pv 4) pa_nil)))))))) (pv 4) (pv 1)))) pss_nil)
    (pss_cons (ps_if (pt_cmpR op_eq (pv 2) pe_str (nomark _)) (pss_one (ps_ret (pe_ifExp (PW.pt (pw_and (pt_cmpR op_eq (pe_call (ok__law_name_end T) (hr.mono (by decide)) (by rfl) T.g__law_name_end T.k__law_name_end T.b__law_name_end .nil pass0 (pa_cons (pv 0) (pa_cons (pv 1) pa_nil))) (pe_op op_sub (pv 4) pe_int) (nomark _)) (pw_and1 (pt_val (pe_call (ok__law_colon T) (hr.mono (by decide)) (by rfl) T.g__law_colon T.k__law_colon T.b__law_colon .nil pass0 (pa_cons (pv 0) (pa_cons (pe_op op_sub (pv 4) pe_int) pa_nil))))))) (pv 4) (pv 1)))) pss_nil)
    (pss_cons (ps_if (pt_cmpR op_eq (pv 2) pe_str (nomark _)) (pss_one (ps_ret (pe_ifExp (pt_cmpR op_eq (pe_callB (call_min2 (by rfl)) (by rfl) T.z_min (by decide +kernel) (pa_cons (pe_op op_add (pv 1) pe_int) (pa_cons (pe_call (ok__law_run T) (hr.mono (by decide)) (by rfl) T.g__law_run T.k__law_run T.b__law_run .nil pass0 (pa_cons (pv 0) (pa_cons (pv 1) (pa_cons pe_str pa_nil)))) pa_nil))) (pv 4) (nomark _)) (pv 4) (pv 1)))) pss_nil)
    (pss_cons (ps_if (PW.pt (pw_or (pt_cmpR op_ne (pv 2) pe_str (nomark _)) (pw_or1 (pt_cmpR op_notIn_seq (pv 3) (pe_lst (pa_cons pe_str (pa_cons pe_str (pa_cons pe_str (pa_cons pe_str (pa_cons pe_str (pa_cons pe_str (pa_cons pe_str (pa_cons pe_str (pa_cons pe_str pa_nil)))))))))) (by rfl))))) (pss_one (ps_ret (pv 1))) pss_nil)
    (pss_one (ps_ret (pe_ifExp (PW.pt (pw_and (pt_cmpR op_eq (pv 3) pe_str (nomark _)) (pw_and1 (pt_cmpR op_eq (pe_slice sl_str (pv 0) (po_some (pv 4)) (po_some (pe_op op_add (pv 4) pe_int))) pe_str (nomark _))))) (pv 1) (pv 4)))))))))))), ?_⟩
    obtain ⟨x, kd, v, n, k, rfl, hn, hx, htk, kk⟩ := h
    simp (config := { maxSteps := 4000000 }) only [tSeq, tNext, tDrop, tRet, tRetN, tIfS, tAsg, tTest, tAnd, tOr, tNot, tAndV, tOrV, tNotV, tIf, tOp, tUn, tVar, tC, tCB, tCons, tNil, tCall, tPart, tNoPart, tM0, tM1, tTup, tLst, tB, tIsN, tNotN, rI0, rI, rU, rEq, rNe, rAdd, gName, gTup, gCons, gNil, gSub, rSetL, rIxL, rIxT, rIxS, L2.start,
      List.map_cons, List.map_nil, List.cons_append, List.nil_append, List.append_nil, List.length_cons, List.length_nil, List.replicate, List.getElem?_cons_zero, List.getElem?_cons_succ, List.set_cons_zero, List.set_cons_succ, Nat.reduceAdd, Nat.reduceSub, Nat.sub_self, Nat.zero_add,
      Option.some.injEq, V.int.injEq, V.str.injEq, V.bl.injEq, V.ref.injEq, V.ty.injEq, List.cons.injEq, and_true, true_and, exists_eq_left, exists_eq_left', exists_eq_right, exists_and_left, exists_and_right, exists_const, decide_eq_true_eq, decide_eq_false_iff_not, if_true, if_false, reduceIte, Bool.false_eq_true, Bool.not_eq_true', sc_ii, sc_ss, sc_bb, str1, cx_K, lstAt, rIxM, rSetM, rLenM, atI_0, atI_1, atI_2, atI_3, setI_0, setI_1, setI_2, setI_3, upd_same, upd_upd, ite_true, ite_false, exists_eq', eq_self, and_assoc, rIsS, isTy_bb, isTy_bi, isTy_ib, isTy_ii, isTy_ss, isTy_nb, isTy_ni, Bool.not_true, Bool.not_false, not_true_eq_false, not_false_eq_true, tChain, tRz1, tRz2, rIsX, tFx, tMethE, tCallS, tCallZ, tMeth, tMake, tFld, sFld, HO.ins.injEq, HO.lst.injEq, HO.dK.injEq, HO.tup.injEq, dcAt, dcRd, rDInM, rDGetM, rDSetM, rDLenM, keyOf_int, keyOf_str, rIsBM, plainV_b, plainV_i, plainV_n, plainV_s, rInM, rListM, rSortM, rSumM, rIsD, tBMM, tBM0M, tSl, rSlM, rAppend, rPop, rClear, wAs, reduceCtorEq, false_implies, true_implies, implies_true, forall_const, cxH_K, clsV_ref, clsV_ty, HO.xd.injEq, Value.ref.injEq, lkc, lkn, pfn, pfc, List.map_nil, rExtend, rCat, rRep, tMethE0, rSortD, rPush, rPopH, tDGetM, gAll, iRev, tCB, sDDel, wPair, tBreak, tDelT, rDLenR, tMethN, tSl, tPart]
    have hl := len_cl x
    have hsz : x.length ≤ sizeLine := Nat.le_trans hx (by decide)
    have hd : (cl x).drop n = (cl x)[n] :: (cl x).drop (n + 1) := List.drop_eq_getElem_cons hn
    have htk0 := htk
    rw [hd] at htk
    have hv := tok_val htk
    have hks := tokL_le htk
    rcases tokL_cases htk with ⟨_, h1, h2, rfl, rfl, rfl⟩ | ⟨_, h1, h2, rfl, rfl, rfl⟩ | ⟨_, h1, h2, rfl, rfl, rfl⟩ | ⟨_, h1, rfl, rfl, _⟩ | ⟨_, q, h1, rfl, rfl, _⟩ | ⟨hs, rfl, rfl, rfl⟩ | ⟨h58, h1, rfl, rfl, hk⟩ | ⟨hno, hm, rfl, rfl, hk⟩
    · rw [← hd] at h1 h2 hks kk ⊢
      have hz : (mk (((cl x).drop n).take (nameLen ((cl x).drop n) + 1))).length = nameLen ((cl x).drop n) + 1 := by
        show (((cl x).drop n).take (nameLen ((cl x).drop n) + 1)).length = _
        rw [List.length_take]
        omega
      rw [List.length_drop] at hks
      have ec : cutS x (some ((n : Nat) : Int)) (some ((n : Int) + ((mk (((cl x).drop n).take (nameLen ((cl x).drop n) + 1))).length : Int))) = mk (((cl x).drop n).take (nameLen ((cl x).drop n) + 1)) := by
        rw [hz]
        exact cut_mk rfl (by omega)
      refine ite2 (fun h => absurd h (by decide)) (fun _ => ite2 (fun h => absurd h (by decide)) (fun _ => ⟨_, rfl, by omega, x, rfl, hsz, rfl, ite2 (fun h => absurd (congrArg V.str ec) h) (fun _ => ite2 (fun h => absurd h (by decide)) (fun _ => ite2 (fun _ => ?_) (fun h => absurd rfl h)))⟩))
      rw [hz, show (n : Int) + ((nameLen ((cl x).drop n) + 1 : Nat) : Int) - 1 = ((n + nameLen ((cl x).drop n) : Nat) : Int) by omega]
      refine ⟨x, n, rfl, Nat.le_of_lt hn, by omega, rfl, ite2 (fun _ => ?_) (fun h => absurd rfl h)⟩
      have hcol : colonB ((cl x).drop (n + nameLen ((cl x).drop n))) = true := by
        unfold kwLen at h2
        rw [List.drop_drop] at h2
        refine Classical.byContradiction fun z => ?_
        rw [if_neg fun y => z y.2] at h2
        exact h2 rfl
      exact ⟨x, n + nameLen ((cl x).drop n), rfl, by omega, _, rfl, ite2 (fun _ => kk H (Kp.refl H)) (fun h => absurd hcol h)⟩
    · rw [← hd] at h1 h2 hks kk ⊢
      have hz : (mk (((cl x).drop n).take (nameLen ((cl x).drop n)))).length = nameLen ((cl x).drop n) := by
        show (((cl x).drop n).take (nameLen ((cl x).drop n))).length = _
        rw [List.length_take]
        omega
      rw [List.length_drop] at hks
      have ec : cutS x (some ((n : Nat) : Int)) (some ((n : Int) + ((mk (((cl x).drop n).take (nameLen ((cl x).drop n)))).length : Int))) = mk (((cl x).drop n).take (nameLen ((cl x).drop n))) := by
        rw [hz]
        exact cut_mk rfl (by omega)
      refine ite2 (fun h => absurd h (by decide)) (fun _ => ite2 (fun h => absurd h (by decide)) (fun _ => ⟨_, rfl, by omega, x, rfl, hsz, rfl, ite2 (fun h => absurd (congrArg V.str ec) h) (fun _ => ite2 (fun _ => ?_) (fun h => absurd rfl h))⟩))
      rw [hz]
      refine ⟨x, n, rfl, Nat.le_of_lt hn, by omega, rfl, ite2 (fun _ => ?_) (fun h => absurd rfl h)⟩
      have hcol : colonB ((cl x).drop (n + nameLen ((cl x).drop n))) = false := by
        unfold kwLen at h2
        rw [List.drop_drop] at h2
        refine Bool.eq_false_iff.mpr fun z => ?_
        rw [if_pos ⟨h1, z⟩] at h2
        omega
      exact ⟨x, n + nameLen ((cl x).drop n), rfl, by omega, _, rfl, ite2 (fun _ => kk H (Kp.refl H)) (fun h => absurd hcol h)⟩
    · rw [← hd] at h2 hks kk hv ⊢
      have h2' := h2
      unfold numOk at h2'
      rw [Bool.and_eq_true, Bool.and_eq_true, decide_eq_true_eq, run_len] at h2'
      have hrD := runD _ h2'.1.1
      rw [List.length_drop] at hks
      have hne : ((cl x).drop n).take (run ((cl x).drop n)) ≠ [] := fun z => by
        have := run_len ((cl x).drop n)
        rw [z] at this
        have : (0 : Nat) = run ((cl x).drop n) := this
        omega
      have hnl : (match (cl x)[n + run ((cl x).drop n)]? with | some c => isL c | none => false) = false := by
        cases hg : (cl x)[n + run ((cl x).drop n)]? with
        | none => rfl
        | some c =>
          have := run_at ((cl x).drop n) (run ((cl x).drop n)) c (Nat.le_refl _) (by rw [List.getElem?_drop]; exact hg)
          refine Bool.eq_false_iff.mpr fun z => ?_
          have := this.mp (by unfold isLD; rw [show isL c = true from z]; rfl)
          omega
      have hlog : (numOf (((cl x).drop n).take (run ((cl x).drop n)))).natAbs.log2 < 1920 := by
        rcases hv with ⟨_, m, e, m0, m9⟩ | ⟨h, _⟩
        · rw [V.int.inj e]
          by_cases hz : m.natAbs = 0
          · rw [hz]
            decide
          · exact (Nat.log2_lt hz).mpr (Nat.lt_trans (show m.natAbs < 2 ^ 30 by omega) (Nat.pow_lt_pow_right (by decide) (by decide)))
        · exact absurd rfl h
      refine ite2 (fun h => absurd h (by decide)) (fun _ => ite2 (fun _ => ?_) (fun h => absurd rfl h))
      refine ⟨x, sD, n, rfl, Nat.le_of_lt hn, by omega, ?_⟩
      rw [hrD]
      refine ⟨x, n + run ((cl x).drop n), rfl, by omega, _, rfl, ite2 (fun h => absurd (h.symm.trans hnl) (by decide)) (fun _ => ⟨_, rfl, ite2 (fun h => absurd h (by omega)) (fun _ => ⟨_, rfl, hlog, _, rfl, x, rfl, hsz, rfl, ite2 (fun h => absurd ?_ h) (fun _ => kk H (Kp.refl H))⟩)⟩)⟩
      rw [num_text h2 hne, cut_mk (b := run ((cl x).drop n)) rfl rfl]
    · exact ite2 (fun _ => ⟨x, _, n, k, rfl, hn, hx, htk0, kk H (Kp.refl H)⟩) (fun h => absurd rfl h)
    · exact ite2 (fun _ => ⟨x, _, n, k, rfl, hn, hx, htk0, kk H (Kp.refl H)⟩) (fun h => absurd rfl h)
    · have hsr := sign_run ((cl x).drop (n + 1)) n hs
      rw [← hd] at hsr hks kk ⊢
      have hz : (mk (((cl x).drop n).take (signLen ((cl x).drop n)))).length = signLen ((cl x).drop n) := by
        show (((cl x).drop n).take (signLen ((cl x).drop n))).length = _
        rw [List.length_take]
        omega
      rw [List.length_drop] at hks
      have ec : cutS x (some ((n : Nat) : Int)) (some ((n : Int) + ((mk (((cl x).drop n).take (signLen ((cl x).drop n)))).length : Int))) = mk (((cl x).drop n).take (signLen ((cl x).drop n))) := by
        rw [hz]
        exact cut_mk rfl (by omega)
      refine ite2 (fun h => absurd h (by decide)) (fun _ => ite2 (fun h => absurd h (by decide)) (fun _ => ⟨_, rfl, by omega, x, rfl, hsz, rfl, ite2 (fun h => absurd (congrArg V.str ec) h) (fun _ => ite2 (fun h => absurd h (by decide)) (fun _ => ite2 (fun h => absurd h (by decide)) (fun _ => ite2 (fun _ => ?_) (fun h => absurd rfl h))))⟩))
      rw [hz]
      exact ⟨x, sS, n, rfl, Nat.le_of_lt hn, by omega, _, rfl, ite2 (fun _ => kk H (Kp.refl H)) (fun h => absurd hsr h)⟩
    · have ec : cutS x (some ((n : Nat) : Int)) (some ((n : Int) + ((Str.ofString ":=").length : Int))) = mk [58, 61] := (cut_two (a := n) rfl (by show (n : Int) + 2 = _; omega)).mpr ⟨by rw [List.getElem?_eq_getElem hn]; exact congrArg some h58, by
        rw [List.getElem?_drop, Nat.add_zero] at h1
        exact h1⟩
      rw [hk] at kk
      exact ite2 (fun h => absurd h (by decide)) (fun _ => ite2 (fun h => absurd h (by decide)) (fun _ => ⟨_, rfl, by decide, x, rfl, hsz, rfl, ite2 (fun h => absurd (congrArg V.str ec) h) (fun _ => ite2 (fun h => absurd h (by decide)) (fun _ => ite2 (fun h => absurd h (by decide)) (fun _ => ite2 (fun h => absurd h (by decide)) (fun _ => ite2 (fun h => absurd rfl h) (fun _ => ⟨by decide, fun p hp => ⟨p, markV, rfl, .inl (.inl (.inl upd_same)), rfl, rfl, _, rfl, ite2 (fun h => absurd h (by decide)) (fun _ => ⟨rfl, ite2 (fun h => absurd h (by decide)) (fun _ => kk _ (Kp.new hp))⟩)⟩⟩)))))⟩))
    · generalize (cl x)[n] = c at *
      have hl1 : (mk [c]).length = 1 := rfl
      have hget : (cl x)[n]? = some c := by
        have : ((cl x).drop n)[0]? = some c := by rw [hd]; rfl
        rw [List.getElem?_drop, Nat.add_zero] at this
        exact this
      have ec : cutS x (some ((n : Nat) : Int)) (some ((n : Int) + ((mk [c]).length : Int))) = mk [c] := (cut_one (a := n) rfl (by rw [hl1]; omega)).mpr hget
      rw [hk] at kk
      have fin : ∀ H', Kp H H' → Q (V.int ((n : Int) + ((mk [c]).length : Int))) H' := fun H' hK => by
        rw [hl1, show (n : Int) + ((1 : Nat) : Int) = ((n + 1 : Nat) : Int) by omega]
        exact kk H' hK
      refine ite2 (fun h => absurd h (by decide)) (fun _ => ite2 (fun h => absurd h (by decide)) (fun _ => ⟨_, rfl, by rw [hl1]; decide, x, rfl, hsz, rfl, ite2 (fun h => absurd (congrArg V.str ec) h) (fun _ => ite2 (fun h => absurd h (by decide)) (fun _ => ite2 (fun h => absurd h (by decide)) (fun _ => ite2 (fun h => absurd h (by decide)) (fun _ => ite2 (fun h => absurd rfl h) (fun _ => ⟨by decide, fun p hp => ⟨p, markV, rfl, .inl (.inl (.inl upd_same)), rfl, rfl, _, rfl, ite2 (fun h => absurd (show (!inV (V.str (mk [c])) markV) = true from h) (by rw [marks_in c hm]; decide)) (fun _ => ⟨rfl, ite2 (fun h => ⟨x, rfl, hsz, rfl, ite2 (fun h2 => ?_) (fun _ => fin _ (Kp.new hp))⟩) (fun _ => fin _ (Kp.new hp))⟩)⟩⟩)))))⟩))
      have h58 := marks_col c hm h
      rw [V.str.injEq, mk61c, cut_one (a := n + 1) (by rw [hl1]; omega) (by rw [hl1]; omega)] at h2
      exact absurd ⟨h58, by rw [List.getElem?_drop, Nat.add_zero]; exact h2⟩ hno
end

def sp_listok : Sp := fun vs H Q _ => ∃ (a : Addr) (n : Nat) (kd : Str) (v : V) (l : List Nat) (k : Nat), vs = [.ref a] ∧ H a = some (.tup [.int (n : Int), .str kd, v]) ∧ tokL l = some (kd, v, k) ∧ Q (.bl true) H
theorem sp_listok_len {vs H Q E} (h : sp_listok vs H Q E) : vs.length = (["token"] : List Str).length := by
  obtain ⟨_, _, _, _, _, _, rfl, _⟩ := h
  rfl
section
variable {P : Program} {w : World} {K : PySem.W.Frag} {mg : Str → Option Value} {base : Heap} {A : Ad}
theorem ok__law_is_token (T : Txt K mg A) : FnOk P w K mg base CX0 1 A.f__law_is_token A.d__law_is_token ["token"] (sp_listok) := by
  refine Fun.ok T.F__law_is_token sc__law_is_token (fun vs H Q E h => ?_) (fun cdv Ar outer s H vs Q E hr h => ?_)
  · exact sp_listok_len h
  · have hu := hu_of hr
    refine ⟨_, (pss_cons (ps_if (PW.pt (pw_or (pt_not (pt_val (pe_callB call_isT (by rfl) T.z_isinstance (by decide +kernel) (pa_cons (pv 0) (pa_cons (pe_bltn (v := .ty "tuple") (by rfl) T.z_tuple (by decide +kernel) rfl) pa_nil))))) (pw_or1 (pt_cmpR op_ne (pe_callB call_len_seq (by rfl) T.z_len PySem.boot_len (pa_cons (pv 0) pa_nil)) pe_int (nomark _))))) (pss_one (ps_ret pe_bl)) pss_nil)
    (pss_cons (ps_if (PW.pt (pw_or (pt_not (pt_val (pe_callB call_isS (by rfl) T.z_isinstance (by decide +kernel) (pa_cons (pe_ix ix_tup (pv 0) pe_int (fun _ _ => rfl)) (pa_cons (pe_bltn (v := .ty "int") (by rfl) T.z_int (by decide +kernel) rfl) pa_nil))))) (pw_or (pt_val (pe_callB call_isS (by rfl) T.z_isinstance (by decide +kernel) (pa_cons (pe_ix ix_tup (pv 0) pe_int (fun _ _ => rfl)) (pa_cons (pe_bltn (v := .ty "bool") (by rfl) T.z_bool (by decide +kernel) rfl) pa_nil)))) (pw_or1 (pt_not (pt_val (pe_callB call_isS (by rfl) T.z_isinstance (by decide +kernel) (pa_cons (pe_ix ix_tup (pv 0) pe_int (fun _ _ => rfl)) (pa_cons (pe_bltn (v := .ty "str") (by rfl) T.z_str (by decide +kernel) rfl) pa_nil))))))))) (pss_one (ps_ret pe_bl)) pss_nil)
    (pss_cons (ps_if (pt_cmpR op_eq (pe_ix ix_tup (pv 0) pe_int (fun _ _ => rfl)) pe_str (nomark _)) (pss_one (ps_ret (pe_and (pe_callB call_isS (by rfl) T.z_isinstance (by decide +kernel) (pa_cons (pe_ix ix_tup (pv 0) pe_int (fun _ _ => rfl)) (pa_cons (pe_bltn (v := .ty "int") (by rfl) T.z_int (by decide +kernel) rfl) pa_nil))) (pe_and (pe_not (pe_callB call_isS (by rfl) T.z_isinstance (by decide +kernel) (pa_cons (pe_ix ix_tup (pv 0) pe_int (fun _ _ => rfl)) (pa_cons (pe_bltn (v := .ty "bool") (by rfl) T.z_bool (by decide +kernel) rfl) pa_nil)))) (pe_one (pe_chain op_le op_lt pe_int (pe_ix ix_tup (pv 0) pe_int (fun _ _ => rfl)) (pe_op op_pow pe_int pe_int))))))) pss_nil)
    (pss_one (ps_ret (pe_and (pe_callB call_isS (by rfl) T.z_isinstance (by decide +kernel) (pa_cons (pe_ix ix_tup (pv 0) pe_int (fun _ _ => rfl)) (pa_cons (pe_bltn (v := .ty "str") (by rfl) T.z_str (by decide +kernel) rfl) pa_nil))) (pe_one (pe_or (pe_cmpR op_eq (pe_ix ix_tup (pv 0) pe_int (fun _ _ => rfl)) pe_str (nomark _)) (pe_one (pe_cmpR op_ne (pe_ix ix_tup (pv 0) pe_int (fun _ _ => rfl)) pe_str (nomark _))))))))))), ?_⟩
    obtain ⟨a, n, kd, v, l, k, rfl, ha, htk, kk⟩ := h
    simp (config := { maxSteps := 4000000 }) only [tSeq, tNext, tDrop, tRet, tRetN, tIfS, tAsg, tTest, tAnd, tOr, tNot, tAndV, tOrV, tNotV, tIf, tOp, tUn, tVar, tC, tCB, tCons, tNil, tCall, tPart, tNoPart, tM0, tM1, tTup, tLst, tB, tIsN, tNotN, rI0, rI, rU, rEq, rNe, rAdd, gName, gTup, gCons, gNil, gSub, rSetL, rIxL, rIxT, rIxS, L2.start,
      List.map_cons, List.map_nil, List.cons_append, List.nil_append, List.append_nil, List.length_cons, List.length_nil, List.replicate, List.getElem?_cons_zero, List.getElem?_cons_succ, List.set_cons_zero, List.set_cons_succ, Nat.reduceAdd, Nat.reduceSub, Nat.sub_self, Nat.zero_add,
      Option.some.injEq, V.int.injEq, V.str.injEq, V.bl.injEq, V.ref.injEq, V.ty.injEq, List.cons.injEq, and_true, true_and, exists_eq_left, exists_eq_left', exists_eq_right, exists_and_left, exists_and_right, exists_const, decide_eq_true_eq, decide_eq_false_iff_not, if_true, if_false, reduceIte, Bool.false_eq_true, Bool.not_eq_true', sc_ii, sc_ss, sc_bb, str1, cx_K, lstAt, rIxM, rSetM, rLenM, atI_0, atI_1, atI_2, atI_3, setI_0, setI_1, setI_2, setI_3, upd_same, upd_upd, ite_true, ite_false, exists_eq', eq_self, and_assoc, rIsS, isTy_bb, isTy_bi, isTy_ib, isTy_ii, isTy_ss, isTy_nb, isTy_ni, Bool.not_true, Bool.not_false, not_true_eq_false, not_false_eq_true, tChain, tRz1, tRz2, rIsX, tFx, tMethE, tCallS, tCallZ, tMeth, tMake, tFld, sFld, HO.ins.injEq, HO.lst.injEq, HO.dK.injEq, HO.tup.injEq, dcAt, dcRd, rDInM, rDGetM, rDSetM, rDLenM, keyOf_int, keyOf_str, rIsBM, plainV_b, plainV_i, plainV_n, plainV_s, rInM, rListM, rSortM, rSumM, rIsD, tBMM, tBM0M, tSl, rSlM, rAppend, rPop, rClear, wAs, reduceCtorEq, false_implies, true_implies, implies_true, forall_const, cxH_K, clsV_ref, clsV_ty, HO.xd.injEq, Value.ref.injEq, lkc, lkn, pfn, pfc, List.map_nil, rExtend, rCat, rRep, tMethE0, rSortD, rPush, rPopH, tDGetM, gAll, iRev, tCB, sDDel, wPair, tBreak, tDelT, rDLenR, tMethN, rIsT, ha]
    have hT : SqT K H a [.int (n : Int), .str kd, v] := .inl (.inl ha)
    refine ⟨_, .inr hT, ite2 (fun h => absurd rfl h) (fun _ => ⟨_, hT, _, rfl, _, rfl, ite2 (fun h => by cases h) (fun _ => ⟨_, hT, _, rfl, _, rfl, ite2 (fun h => by cases h) (fun _ => ⟨_, hT, _, rfl, _, rfl, ite2 (fun h => by cases h) (fun _ => ⟨_, hT, _, rfl, rfl, ?_⟩)⟩)⟩)⟩)⟩
    rcases tok_val htk with ⟨rfl, m, rfl, h0, h9⟩ | ⟨hne, y, rfl, hy⟩
    · refine ite2 (fun h => ⟨_, hT, _, rfl, _, rfl, ?_⟩) (fun h => absurd rfl h)
      refine ite2 (fun _ => ⟨_, hT, _, rfl, _, rfl, ite2 (fun _ => ⟨_, hT, _, rfl, _, rfl, ite2 (fun _ => ⟨⟨by decide, by decide, by decide⟩, _, rfl, ?_⟩) (fun h => absurd h0 h)⟩) (fun h => absurd rfl h)⟩) (fun h => absurd rfl h)
      rw [decide_eq_true (show m < (10 : Int) ^ Int.toNat 9 from h9)]
      exact kk
    · refine ite2 (fun h => absurd (V.str.inj h) hne) (fun h => ⟨_, hT, _, rfl, _, rfl, ?_⟩)
      refine ite2 (fun _ => ⟨_, hT, _, rfl, rfl, ite2 (fun _ => kk) (fun h2 => ⟨_, hT, _, rfl, rfl, ?_⟩)⟩) (fun h => absurd rfl h)
      have hy2 : y ≠ "" := hy.resolve_left fun z => h2 (by rw [z])
      rw [decide_eq_false (show ¬ V.str y = V.str (Str.ofString "") from fun z => hy2 (V.str.inj z))]
      exact kk
end

def sp_ltiles : Sp := fun vs H Q _ => ∃ (x : Str) (p : Addr) (ts : List (Nat × Str × V)) (b st : Nat), vs = [.str x, .ref p, .int st] ∧ TkAt H p ts ∧ Til (cl x) 0 ts b ∧ x.length ≤ 10000 ∧ b + (skip ((cl x).drop b)).1 = st ∧ st ≤ (cl x).length ∧ ∀ H', Kp H H' → Q (.bl true) H'
theorem sp_ltiles_len {vs H Q E} (h : sp_ltiles vs H Q E) : vs.length = (["source", "tokens", "stop"] : List Str).length := by
  obtain ⟨_, _, _, _, _, rfl, _⟩ := h
  rfl
section
variable {P : Program} {w : World} {K : PySem.W.Frag} {mg : Str → Option Value} {base : Heap} {A : Ad}
theorem ok__law_tiles (T : Txt K mg A) : FnOk P w K mg base CX0 6 A.f__law_tiles A.d__law_tiles ["source", "tokens", "stop"] (sp_ltiles) := by
  refine Fun.ok T.F__law_tiles sc__law_tiles (fun vs H Q E h => ?_) (fun cdv Ar outer s H vs Q E hr h => ?_)
  · exact sp_ltiles_len h
  · have hu := hu_of hr
    refine ⟨_, (pss_cons (ps_if (pt_not (pt_val (pe_callB call_isL (by rfl) T.z_isinstance (by decide +kernel) (pa_cons (pv 1) (pa_cons (pe_bltn (v := .ty "list") (by rfl) T.z_list (by decide +kernel) rfl) pa_nil))))) (pss_one (ps_ret pe_bl)) pss_nil)
    (pss_cons (ps_asg pe_int (pg_name (i := 3) sc__law_tiles.nd rfl (Or.inl rfl)))
    (pss_cons (ps_for PassesOwn.never rfl (pi_list (pv 1)) (pg_name (i := 4) sc__law_tiles.nd rfl (Or.inl rfl))
      (pss_cons (ps_if (pt_not (pt_val (pe_call (ok__law_is_token T) (hr.mono (by decide)) (by rfl) T.g__law_is_token T.k__law_is_token T.b__law_is_token .nil pass0 (pa_cons (pv 4) pa_nil)))) (pss_one (ps_ret pe_bl)) pss_nil)
    (pss_cons (ps_asg (pe_call (ok__law_skip T) (hr.mono (by decide)) (by rfl) T.g__law_skip T.k__law_skip T.b__law_skip .nil pass0 (pa_cons (pv 0) (pa_cons (pv 3) pa_nil))) (pg_name (i := 3) sc__law_tiles.nd rfl (Or.inl rfl)))
    (pss_cons (ps_if (PW.pt (pw_or (pt_cmpR op_ne (pe_ix ix_tup (pv 4) pe_int (fun _ _ => rfl)) (pv 3) (nomark _)) (pw_or1 (pt_cmpR op_ge (pv 3) (pv 2) (nomark _))))) (pss_one (ps_ret pe_bl)) pss_nil)
    (pss_cons (ps_asg (pe_call (ok__law_token_end T) (hr.mono (by decide)) (by rfl) T.g__law_token_end T.k__law_token_end T.b__law_token_end .nil pass0 (pa_cons (pv 0) (pa_cons (pv 3) (pa_cons (pe_ix ix_tup (pv 4) pe_int (fun _ _ => rfl)) (pa_cons (pe_ix ix_tup (pv 4) pe_int (fun _ _ => rfl)) pa_nil))))) (pg_name (i := 5) sc__law_tiles.nd rfl (Or.inl rfl)))
    (pss_cons (ps_if (pt_cmpR op_le (pv 5) (pv 3) (nomark _)) (pss_one (ps_ret pe_bl)) pss_nil)
    (pss_one (ps_asg (pv 5) (pg_name (i := 3) sc__law_tiles.nd rfl (Or.inl rfl))))))))))
    (pss_one (ps_ret (pe_cmpR op_eq (pe_call (ok__law_skip T) (hr.mono (by decide)) (by rfl) T.g__law_skip T.k__law_skip T.b__law_skip .nil pass0 (pa_cons (pv 0) (pa_cons (pv 3) pa_nil))) (pv 2) (nomark _))))))), ?_⟩
    obtain ⟨x, p, ts, b, st, rfl, ⟨vs, hv, hvl, hvt⟩, T0, hx, hst, hsl, kk⟩ := h
    have hl := len_cl x
    simp (config := { maxSteps := 4000000 }) only [tSeq, tNext, tDrop, tRet, tRetN, tIfS, tAsg, tTest, tAnd, tOr, tNot, tAndV, tOrV, tNotV, tIf, tOp, tUn, tVar, tC, tCB, tCons, tNil, tCall, tPart, tNoPart, tM0, tM1, tTup, tLst, tB, tIsN, tNotN, rI0, rI, rU, rEq, rNe, rAdd, gName, gTup, gCons, gNil, gSub, rSetL, rIxL, rIxT, rIxS, L2.start,
      List.map_cons, List.map_nil, List.cons_append, List.nil_append, List.append_nil, List.length_cons, List.length_nil, List.replicate, List.getElem?_cons_zero, List.getElem?_cons_succ, List.set_cons_zero, List.set_cons_succ, Nat.reduceAdd, Nat.reduceSub, Nat.sub_self, Nat.zero_add,
      Option.some.injEq, V.int.injEq, V.str.injEq, V.bl.injEq, V.ref.injEq, V.ty.injEq, List.cons.injEq, and_true, true_and, exists_eq_left, exists_eq_left', exists_eq_right, exists_and_left, exists_and_right, exists_const, decide_eq_true_eq, decide_eq_false_iff_not, if_true, if_false, reduceIte, Bool.false_eq_true, Bool.not_eq_true', sc_ii, sc_ss, sc_bb, str1, cx_K, lstAt, rIxM, rSetM, rLenM, atI_0, atI_1, atI_2, atI_3, setI_0, setI_1, setI_2, setI_3, upd_same, upd_upd, ite_true, ite_false, exists_eq', eq_self, and_assoc, rIsS, isTy_bb, isTy_bi, isTy_ib, isTy_ii, isTy_ss, isTy_nb, isTy_ni, Bool.not_true, Bool.not_false, not_true_eq_false, not_false_eq_true, tChain, tRz1, tRz2, rIsX, tFx, tMethE, tCallS, tCallZ, tMeth, tMake, tFld, sFld, HO.ins.injEq, HO.lst.injEq, HO.dK.injEq, HO.tup.injEq, dcAt, dcRd, rDInM, rDGetM, rDSetM, rDLenM, keyOf_int, keyOf_str, rIsBM, plainV_b, plainV_i, plainV_n, plainV_s, rInM, rListM, rSortM, rSumM, rIsD, tBMM, tBM0M, tSl, rSlM, rAppend, rPop, rClear, wAs, reduceCtorEq, false_implies, true_implies, implies_true, forall_const, cxH_K, clsV_ref, clsV_ty, HO.xd.injEq, Value.ref.injEq, lkc, lkn, pfn, pfc, List.map_nil, rExtend, rCat, rRep, tMethE0, rSortD, rPush, rPopH, tDGetM, gAll, iRev, tCB, sDDel, wPair, tBreak, tDelT, rDLenR, tMethN, hv, rIsL]
    refine for_lst (a := p) vs (fun R hR => ⟨_, rfl, hR⟩) (fun i σ' H' => ∃ (at_ : Nat) (c1 c2 : Option V), σ' = [some (.str x), some (.ref p), some (.int st), some (.int at_), c1, c2] ∧ Til (cl x) at_ (ts.drop i) b ∧ Kp H H') ⟨0, none, none, rfl, T0, Kp.refl H⟩ ?_ ?_ ?_
    · rintro i σ' H' hi ⟨at_, c1, c2, rfl, T1, K1⟩
      exact .inl (.inl (K1 _ _ hv))
    · rintro i v σ' H' hi ⟨at_, c1, c2, rfl, T1, K1⟩
      have hlt : i < ts.length := by
        rw [← hvl]
        exact (List.getElem?_eq_some_iff.mp hi).1
      obtain ⟨q, hq1, hq2⟩ := hvt i ts[i] (List.getElem?_eq_getElem hlt)
      rw [hi] at hq1
      cases hq1
      have hq := K1 _ _ hq2
      rw [List.drop_eq_getElem_cons hlt] at T1
      generalize ts[i] = t at *
      cases T1 with
      | @cons _ j kd v k _ _ h1 h2 h3 T2 =>
        have hle := T2.le
        have hk := tokL_le h3
        have h3' := h3
        have hT : ∀ H1, Kp H' H1 → SqT K H1 q [.int ((at_ + j : Nat) : Int), .str kd, v] := fun H1 K2 => .inl (.inl (K2 _ _ hq))
        simp (config := { maxSteps := 4000000 }) only [tSeq, tNext, tDrop, tRet, tRetN, tIfS, tAsg, tTest, tAnd, tOr, tNot, tAndV, tOrV, tNotV, tIf, tOp, tUn, tVar, tC, tCB, tCons, tNil, tCall, tPart, tNoPart, tM0, tM1, tTup, tLst, tB, tIsN, tNotN, rI0, rI, rU, rEq, rNe, rAdd, gName, gTup, gCons, gNil, gSub, rSetL, rIxL, rIxT, rIxS, L2.start,
      List.map_cons, List.map_nil, List.cons_append, List.nil_append, List.append_nil, List.length_cons, List.length_nil, List.replicate, List.getElem?_cons_zero, List.getElem?_cons_succ, List.set_cons_zero, List.set_cons_succ, Nat.reduceAdd, Nat.reduceSub, Nat.sub_self, Nat.zero_add,
      Option.some.injEq, V.int.injEq, V.str.injEq, V.bl.injEq, V.ref.injEq, V.ty.injEq, List.cons.injEq, and_true, true_and, exists_eq_left, exists_eq_left', exists_eq_right, exists_and_left, exists_and_right, exists_const, decide_eq_true_eq, decide_eq_false_iff_not, if_true, if_false, reduceIte, Bool.false_eq_true, Bool.not_eq_true', sc_ii, sc_ss, sc_bb, str1, cx_K, lstAt, rIxM, rSetM, rLenM, atI_0, atI_1, atI_2, atI_3, setI_0, setI_1, setI_2, setI_3, upd_same, upd_upd, ite_true, ite_false, exists_eq', eq_self, and_assoc, rIsS, isTy_bb, isTy_bi, isTy_ib, isTy_ii, isTy_ss, isTy_nb, isTy_ni, Bool.not_true, Bool.not_false, not_true_eq_false, not_false_eq_true, tChain, tRz1, tRz2, rIsX, tFx, tMethE, tCallS, tCallZ, tMeth, tMake, tFld, sFld, HO.ins.injEq, HO.lst.injEq, HO.dK.injEq, HO.tup.injEq, dcAt, dcRd, rDInM, rDGetM, rDSetM, rDLenM, keyOf_int, keyOf_str, rIsBM, plainV_b, plainV_i, plainV_n, plainV_s, rInM, rListM, rSortM, rSumM, rIsD, tBMM, tBM0M, tSl, rSlM, rAppend, rPop, rClear, wAs, reduceCtorEq, false_implies, true_implies, implies_true, forall_const, cxH_K, clsV_ref, clsV_ty, HO.xd.injEq, Value.ref.injEq, lkc, lkn, pfn, pfc, List.map_nil, rExtend, rCat, rRep, tMethE0, rSortD, rPush, rPopH, tDGetM, gAll, iRev, tCB, sDDel, wPair, tBreak, tDelT, rDLenR, tMethN, hq]
        refine ⟨q, at_ + j, kd, v, (cl x).drop (at_ + j), k, rfl, hq, h3', _, rfl, ite2 (fun h => absurd h (by decide)) (fun _ => ⟨x, at_, rfl, by omega, by omega, ?_⟩)⟩
        rw [h1]
        refine ⟨_, hT _ (Kp.refl _), _, rfl, rfl, ite2 (fun h => absurd rfl h) (fun _ => ⟨_, rfl, ite2 (fun h => absurd (show (st : Int) ≤ ((at_ + j : Nat) : Int) from h) (by omega)) (fun _ => ⟨_, hT _ (Kp.refl _), _, rfl, _, hT _ (Kp.refl _), _, rfl, x, kd, v, at_ + j, k, rfl, h2, hx, h3', fun H2 K2 => ⟨_, rfl, _, rfl, ite2 (fun h => absurd (show ((at_ + j + k : Nat) : Int) ≤ ((at_ + j : Nat) : Int) from h) (by omega)) (fun _ => ⟨at_ + j + k, rfl, T2, K1.trans K2⟩)⟩⟩)⟩)⟩
    · rintro σ' H' ⟨at_, c1, c2, rfl, T1, K1⟩
      rw [hvl, List.drop_length] at T1
      cases T1
      simp (config := { maxSteps := 4000000 }) only [tSeq, tNext, tDrop, tRet, tRetN, tIfS, tAsg, tTest, tAnd, tOr, tNot, tAndV, tOrV, tNotV, tIf, tOp, tUn, tVar, tC, tCB, tCons, tNil, tCall, tPart, tNoPart, tM0, tM1, tTup, tLst, tB, tIsN, tNotN, rI0, rI, rU, rEq, rNe, rAdd, gName, gTup, gCons, gNil, gSub, rSetL, rIxL, rIxT, rIxS, L2.start,
      List.map_cons, List.map_nil, List.cons_append, List.nil_append, List.append_nil, List.length_cons, List.length_nil, List.replicate, List.getElem?_cons_zero, List.getElem?_cons_succ, List.set_cons_zero, List.set_cons_succ, Nat.reduceAdd, Nat.reduceSub, Nat.sub_self, Nat.zero_add,
      Option.some.injEq, V.int.injEq, V.str.injEq, V.bl.injEq, V.ref.injEq, V.ty.injEq, List.cons.injEq, and_true, true_and, exists_eq_left, exists_eq_left', exists_eq_right, exists_and_left, exists_and_right, exists_const, decide_eq_true_eq, decide_eq_false_iff_not, if_true, if_false, reduceIte, Bool.false_eq_true, Bool.not_eq_true', sc_ii, sc_ss, sc_bb, str1, cx_K, lstAt, rIxM, rSetM, rLenM, atI_0, atI_1, atI_2, atI_3, setI_0, setI_1, setI_2, setI_3, upd_same, upd_upd, ite_true, ite_false, exists_eq', eq_self, and_assoc, rIsS, isTy_bb, isTy_bi, isTy_ib, isTy_ii, isTy_ss, isTy_nb, isTy_ni, Bool.not_true, Bool.not_false, not_true_eq_false, not_false_eq_true, tChain, tRz1, tRz2, rIsX, tFx, tMethE, tCallS, tCallZ, tMeth, tMake, tFld, sFld, HO.ins.injEq, HO.lst.injEq, HO.dK.injEq, HO.tup.injEq, dcAt, dcRd, rDInM, rDGetM, rDSetM, rDLenM, keyOf_int, keyOf_str, rIsBM, plainV_b, plainV_i, plainV_n, plainV_s, rInM, rListM, rSortM, rSumM, rIsD, tBMM, tBM0M, tSl, rSlM, rAppend, rPop, rClear, wAs, reduceCtorEq, false_implies, true_implies, implies_true, forall_const, cxH_K, clsV_ref, clsV_ty, HO.xd.injEq, Value.ref.injEq, lkc, lkn, pfn, pfc, List.map_nil, rExtend, rCat, rRep, tMethE0, rSortD, rPush, rPopH, tDGetM, gAll, iRev, tCB, sDDel, wPair, tBreak, tDelT, rDLenR, tMethN]
      refine ⟨x, b, rfl, by omega, by omega, rfl, ?_⟩
      rw [hst, decide_eq_true rfl]
      exact kk _ K1
end

def sp_lmisfit : Sp := fun vs H Q _ => ∃ (x : Str) (n : Nat), vs = [.str x, .int n] ∧ x.length ≤ 10000 ∧ Mis ((cl x).drop n) ∧ Q (.bl true) H
theorem sp_lmisfit_len {vs H Q E} (h : sp_lmisfit vs H Q E) : vs.length = (["source", "at"] : List Str).length := by
  obtain ⟨_, _, rfl, _⟩ := h
  rfl
section
variable {P : Program} {w : World} {K : PySem.W.Frag} {mg : Str → Option Value} {base : Heap} {A : Ad}
theorem ok__law_misfit (T : Txt K mg A) : FnOk P w K mg base CX0 4 A.f__law_misfit A.d__law_misfit ["source", "at"] (sp_lmisfit) := by
  refine Fun.ok T.F__law_misfit sc__law_misfit (fun vs H Q E h => ?_) (fun cdv Ar outer s H vs Q E hr h => ?_)
  · exact sp_lmisfit_len h
  · have hu := hu_of hr
    refine ⟨_, (pss_cons (ps_if (pt_cmpR op_ge (pv 1) (pe_callB call_len_str (by rfl) T.z_len PySem.boot_len (pa_cons (pv 0) pa_nil)) (nomark _)) (pss_one (ps_ret pe_bl)) pss_nil)
    (pss_cons (ps_asg (pe_item_str (pv 0) (pv 1) (fun _ _ => rfl)) (pg_name (i := 2) sc__law_misfit.nd rfl (Or.inl rfl)))
    (pss_cons (ps_if (pt_cmpR op_in_sign (pv 2) (pe_call0 (ok__law_letters T) (hr.mono (by decide)) (by rfl) T.g__law_letters T.k__law_letters T.b__law_letters .nil pass0) (by rfl)) (pss_one (ps_ret (pe_cmpR op_gt (pe_op op_sub (pe_call (ok__law_word_end T) (hr.mono (by decide)) (by rfl) T.g__law_word_end T.k__law_word_end T.b__law_word_end .nil pass0 (pa_cons (pv 0) (pa_cons (pv 1) pa_nil))) (pv 1)) pe_int (nomark _)))) pss_nil)
    (pss_cons (ps_if (pt_cmpR op_in_sign (pv 2) pe_str (by rfl)) (pss_cons (ps_asg (pe_call (ok__law_run T) (hr.mono (by decide)) (by rfl) T.g__law_run T.k__law_run T.b__law_run .nil pass0 (pa_cons (pv 0) (pa_cons (pv 1) (pa_cons pe_str pa_nil)))) (pg_name (i := 3) sc__law_misfit.nd rfl (Or.inl rfl)))
    (pss_one (ps_ret (pe_or (pe_cmpR op_gt (pe_op op_sub (pv 3) (pv 1)) pe_int (nomark _)) (pe_or (pe_call (ok__law_is_letter T) (hr.mono (by decide)) (by rfl) T.g__law_is_letter T.k__law_is_letter T.b__law_is_letter .nil pass0 (pa_cons (pv 0) (pa_cons (pv 3) pa_nil))) (pe_one (pe_and (pe_cmpR op_eq (pv 2) pe_str (nomark _)) (pe_one (pe_cmpR op_gt (pe_op op_sub (pv 3) (pv 1)) pe_int (nomark _)))))))))) pss_nil)
    (pss_cons (ps_if (pt_cmpR op_eq (pv 2) pe_str (nomark _)) (pss_one (ps_ret (pe_cmpR op_eq (pe_call (ok__law_name_end T) (hr.mono (by decide)) (by rfl) T.g__law_name_end T.k__law_name_end T.b__law_name_end .nil pass0 (pa_cons (pv 0) (pa_cons (pe_op op_add (pv 1) pe_int) pa_nil))) (pe_op op_add (pv 1) pe_int) (nomark _)))) pss_nil)
    (pss_cons (ps_if (pt_cmpR op_eq (pv 2) pe_str (nomark _)) (pss_one (ps_ret (pe_cmpR op_lt (pe_bm PySem.F.plainAttrs_str PySem.F.slot_str_find PySem.F.type_str_find mt_find3 (pv 0) (pa_cons pe_str (pa_cons (pe_op op_add (pv 1) pe_int) pa_nil))) pe_int (nomark _)))) pss_nil)
    (pss_cons (ps_ifC op_eq (pv 2) (nomark _) (psst_cons (pst_asg (CwR.pet_replC (pe_slice sl_str (pv 0) (po_some (pe_op op_add (pv 1) pe_int)) po_none)) (pg_name (i := 4) sc__law_misfit.nd rfl (Or.inl rfl))) (psst_cons (PST.of (ps_ret (pe_cmpR op_notIn_sign pe_str (pv 4) (by rfl)))) CwR.psst_nil)) CwR.psst_nil)
    (pss_one (ps_ret (pe_cmpR op_notIn_sign (pv 2) pe_str (by rfl))))))))))), ?_⟩
    obtain ⟨x, n, rfl, hx, ⟨c, r, hd, hm⟩, kk⟩ := h
    have hl := len_cl x
    simp (config := { maxSteps := 4000000 }) only [tSeq, tNext, tDrop, tRet, tRetN, tIfS, tAsg, tTest, tAnd, tOr, tNot, tAndV, tOrV, tNotV, tIf, tOp, tUn, tVar, tC, tCB, tCons, tNil, tCall, tPart, tNoPart, tM0, tM1, tTup, tLst, tB, tIsN, tNotN, rI0, rI, rU, rEq, rNe, rAdd, gName, gTup, gCons, gNil, gSub, rSetL, rIxL, rIxT, rIxS, L2.start,
      List.map_cons, List.map_nil, List.cons_append, List.nil_append, List.append_nil, List.length_cons, List.length_nil, List.replicate, List.getElem?_cons_zero, List.getElem?_cons_succ, List.set_cons_zero, List.set_cons_succ, Nat.reduceAdd, Nat.reduceSub, Nat.sub_self, Nat.zero_add,
      Option.some.injEq, V.int.injEq, V.str.injEq, V.bl.injEq, V.ref.injEq, V.ty.injEq, List.cons.injEq, and_true, true_and, exists_eq_left, exists_eq_left', exists_eq_right, exists_and_left, exists_and_right, exists_const, decide_eq_true_eq, decide_eq_false_iff_not, if_true, if_false, reduceIte, Bool.false_eq_true, Bool.not_eq_true', sc_ii, sc_ss, sc_bb, str1, cx_K, lstAt, rIxM, rSetM, rLenM, atI_0, atI_1, atI_2, atI_3, setI_0, setI_1, setI_2, setI_3, upd_same, upd_upd, ite_true, ite_false, exists_eq', eq_self, and_assoc, rIsS, isTy_bb, isTy_bi, isTy_ib, isTy_ii, isTy_ss, isTy_nb, isTy_ni, Bool.not_true, Bool.not_false, not_true_eq_false, not_false_eq_true, tChain, tRz1, tRz2, rIsX, tFx, tMethE, tCallS, tCallZ, tMeth, tMake, tFld, sFld, HO.ins.injEq, HO.lst.injEq, HO.dK.injEq, HO.tup.injEq, dcAt, dcRd, rDInM, rDGetM, rDSetM, rDLenM, keyOf_int, keyOf_str, rIsBM, plainV_b, plainV_i, plainV_n, plainV_s, rInM, rListM, rSortM, rSumM, rIsD, tBMM, tBM0M, tSl, rSlM, rAppend, rPop, rClear, wAs, reduceCtorEq, false_implies, true_implies, implies_true, forall_const, cxH_K, clsV_ref, clsV_ty, HO.xd.injEq, Value.ref.injEq, lkc, lkn, pfn, pfc, List.map_nil, rExtend, rCat, rRep, tMethE0, rSortD, rPush, rPopH, tDGetM, gAll, iRev, tCB, sDDel, wPair, tBreak, tDelT, rDLenR, tMethN, tSl, tPart, tBM, tyV, CwR.tReplC]
    have hsz : x.length ≤ sizeLine := Nat.le_trans hx (by decide)
    have hget : (cl x)[n]? = some c := by
      have : ((cl x).drop n)[0]? = some c := by rw [hd]; rfl
      rw [List.getElem?_drop, Nat.add_zero] at this
      exact this
    have hn := (List.getElem?_eq_some_iff.mp hget).1
    have hc : x.cps[((n : Nat) : Int).toNat]? = some c := by
      rw [Int.toNat_natCast, at_cl]
      exact hget
    have hr : (cl x).drop (n + 1) = r := by
      rw [List.drop_eq_getElem_cons hn] at hd
      exact (List.cons.inj hd).2
    have hin : ∀ s : Str, c ∈ s.cps.toList ↔ c ∈ cl s := fun _ => Iff.rfl
    refine ⟨hsz, ite2 (fun h => absurd h (by omega)) (fun _ => ⟨by omega, by omega, by omega, c, hc, rfl, sM, rfl, ?_⟩)⟩
    have okF : ∀ k : Bool, k = true → Q (.bl k) H := fun k e => by rw [e]; exact kk
    rcases hm with ⟨rfl, hf⟩ | ⟨n34, nb, ht⟩
    · refine ite2 (fun h => absurd ((hin sM).mp h) (by decide +kernel)) (fun _ => ite2 (fun h => absurd ((hin _).mp h) (by decide +kernel)) (fun _ => ite2 (fun h => absurd (one_iff.mp h) (by decide)) (fun _ => ite2 (fun _ => ?_) (fun h => absurd rfl h))))
      have ff := find_fi x 34 (n + 1)
      rw [hr, hf] at ff
      refine okF _ (decide_eq_true ?_)
      rw [show (n : Int) + 1 = ((n + 1 : Nat) : Int) by omega, show Str.ofString "\"" = ⟨#[34]⟩ from rfl, ff]
      show (-1 : Int) < 0
      decide
    · have hL : ∀ b, isL c = b → (c ∈ cl sM ↔ b = true) := fun b e => by
        rw [← e, isL_M, decide_eq_true_eq]
      rcases tokL_none ht with ⟨h1, h2⟩ | ⟨h1, h2, h3⟩ | ⟨rfl, h1⟩ | ⟨rfl, h1⟩ | ⟨h1, h2, h3, h4, h5, h6⟩
      · refine ite2 (fun _ => ⟨x, n, rfl, by omega, by omega, _, rfl, ?_⟩) (fun h => absurd ((hL _ h1).mpr rfl) h)
        rw [hd]
        exact okF _ (decide_eq_true (by omega))
      · refine ite2 (fun h => absurd ((hL _ h1).mp h) (by decide)) (fun _ => ite2 (fun _ => ⟨x, sD, n, rfl, by omega, by omega, ?_⟩) (fun h => absurd (of_decide_eq_true h2) h))
        rw [hd]
        refine ⟨_, rfl, ite2 (fun _ => kk) (fun h9 => ⟨x, n + runP (inC sD) (c :: r), rfl, by omega, ?_⟩)⟩
        rw [← hd, List.getElem?_drop, hd] at h3
        rcases h3 with h3 | ⟨z, h3, h4⟩ | ⟨h3, h4⟩
        · exact absurd (show (9 : Int) < ((n + runP (inC sD) (c :: r) : Nat) : Int) - n by omega) h9
        · rw [h3]
          exact ⟨_, rfl, ite2 (fun _ => kk) (fun h => absurd h4 h)⟩
        · refine ⟨_, rfl, ite2 (fun _ => kk) (fun _ => ite2 (fun _ => ⟨_, rfl, okF _ (decide_eq_true (by omega))⟩) (fun h => absurd (by rw [h3]; rfl) h))⟩
      · refine ite2 (fun h => absurd ((hin sM).mp h) (by decide +kernel)) (fun _ => ite2 (fun h => absurd ((hin _).mp h) (by decide +kernel)) (fun _ => ite2 (fun _ => ?_) (fun h => absurd rfl h)))
        refine ⟨x, n + 1, rfl, by omega, by omega, rfl, okF _ (decide_eq_true ?_)⟩
        rw [hr, h1]
        rfl
      · refine ite2 (fun h => absurd ((hin sM).mp h) (by decide +kernel)) (fun _ => ite2 (fun h => absurd ((hin _).mp h) (by decide +kernel)) (fun _ => ite2 (fun h => absurd (one_iff.mp h) (by decide)) (fun _ => ite2 (fun h => absurd (one_iff.mp h) (by decide)) (fun _ => ite2 (fun _ => ?_) (fun h => absurd rfl h)))))
        refine ⟨x, rfl, hsz, _, rfl, ?_, _, rfl, ?_⟩
        · have := cutS_length x (some ((n : Int) + 1)) none
          show _ + (_ + 1) * 0 ≤ _
          omega
        · refine okF _ ?_
          have e : cutS x (some ((n : Int) + 1)) none = mk r := by
            refine cl_inj ?_
            rw [show (n : Int) + 1 = ((n + 1 : Nat) : Int) by omega, cl_from, hr, cl_mk]
          rw [e, decide_eq_false fun h => ?_]
          · rfl
          · have h' : 39 ∈ StrLaws.replL [39, 39] [] r := by
              have e2 := StrLaws.replace_list (x := mk r) (y := Str.ofString "''") (z := Str.ofString "") (by decide)
              rw [e2] at h
              exact h
            exact q_misfit r h1 h'
      · refine ite2 (fun h => absurd ((hL _ h1).mp h) (by decide)) (fun _ => ite2 (fun h => absurd h2 (by rw [show isD c = true from decide_eq_true h]; decide)) (fun _ => ite2 (fun h => absurd (one_iff.mp h) h3) (fun _ => ite2 (fun h => absurd (one_iff.mp h) n34) (fun _ => ite2 (fun h => absurd (one_iff.mp h) h4) (fun _ => ?_)))))
        refine okF _ ?_
        rw [decide_eq_false fun h => ?_]
        · rfl
        · rcases misfit_signs c h with z | z | z | z
          · exact nb (.inl z)
          · exact nb (.inr z)
          · exact h5 z
          · exact h6 z
end

def sp_law (K : PySem.W.Frag) : Sp := fun vs H Q _ => ∃ (a : Addr) (ns : List Int), vs = [.ref a] ∧ SqL K H a (ns.map V.int) ∧ ns.length ≤ 63 ∧ ∀ H', Q (.bl true) H'
theorem sp_law_len {K vs H Q E} (h : sp_law K vs H Q E) : vs.length = (["script"] : List Str).length := by
  obtain ⟨_, _, rfl, _⟩ := h
  rfl
section
variable {P : Program} {w : World} {K : PySem.W.Frag} {mg : Str → Option Value} {base : Heap} {A : Ad}
theorem ok_law (T : Txt K mg A) : FnOk P w K mg base CX0 8 A.f_law A.d_law ["script"] (sp_law K) := by
  refine Fun.ok T.F_law sc_law (fun vs H Q E h => ?_) (fun cdv Ar outer s H vs Q E hr h => ?_)
  · exact sp_law_len h
  · have hu := hu_of hr
    refine ⟨_, (pss_cons (ps_asg (pe_call (ok__law_start T) (hr.mono (by decide)) (by rfl) T.g__law_start T.k__law_start T.b__law_start .nil pass0 (pa_cons (pv 0) pa_nil)) (pg_name (i := 1) sc_law.nd rfl (Or.inl rfl)))
    (pss_cons (ps_asg (pe_call (ok__law_source T) (hr.mono (by decide)) (by rfl) T.g__law_source T.k__law_source T.b__law_source .nil pass0 (pa_cons (pv 1) pa_nil)) (pg_name (i := 2) sc_law.nd rfl (Or.inl rfl)))
    (pss_cons (ps_asg (pe_un un_neg pe_int) (pg_name (i := 3) sc_law.nd rfl (Or.inl rfl)))
    (pss_cons (ps_asg pe_str (pg_name (i := 4) sc_law.nd rfl (Or.inl rfl)))
    (pss_cons (ps_asg (pe_lst pa_nil) (pg_name (i := 5) sc_law.nd rfl (Or.inl rfl)))
    (Evl.pss_cut (ps_try_manyAsR rfl rfl sc_law.nd (fun W pn xe tk _ => (pss_one (ps_asg (pe_callS (ok_tokens_of T) (hr.mono (by decide)) (by rfl) T.g_tokens_of T.k_tokens_of T.b_tokens_of (fun σ => L2N.passAt tk σ) (pa_cons (pv 2) pa_nil)) (pg_name (i := 5) sc_law.nd rfl (Or.inl rfl)))))
      (.cons (i := 6) rfl rfl ⟨rfl, by decide, Or.inl T.m_Malformed⟩
      (fun a oe cls d pn hz hf => (pss_one (ps_asg (pe_fxs hz hf (pv 6)) (pg_name (i := 3) sc_law.nd rfl (Or.inl rfl))))) (.cons (i := 6) rfl rfl ⟨rfl, by decide, Or.inl T.m_Oversized⟩
      (fun a oe cls d pn hz hf => (pss_one (ps_asg (pe_fxs hz hf (pv 6)) (pg_name (i := 4) sc_law.nd rfl (Or.inl rfl))))) .nil)))
    (pss_cons (ps_if (PW.pt (pw_or (pt_cmpR op_gt (pe_callB call_len_str (by rfl) T.z_len PySem.boot_len (pa_cons (pv 2) pa_nil)) pe_int (nomark _)) (pw_or1 (pt_cmpR op_ne (pv 4) pe_str (nomark _))))) (pss_one (ps_ret (pe_and (pe_cmpR op_gt (pe_callB call_len_str (by rfl) T.z_len PySem.boot_len (pa_cons (pv 2) pa_nil)) pe_int (nomark _)) (pe_one (pe_cmpR op_eq (pv 4) pe_str (nomark _)))))) pss_nil)
    (pss_cons (ps_if (pt_cmpR op_eq (pv 3) (pe_un un_neg pe_int) (nomark _)) (pss_one (ps_ret (pe_call (ok__law_tiles T) (hr.mono (by decide)) (by rfl) T.g__law_tiles T.k__law_tiles T.b__law_tiles .nil pass0 (pa_cons (pv 2) (pa_cons (pv 5) (pa_cons (pe_callB call_len_str (by rfl) T.z_len PySem.boot_len (pa_cons (pv 2) pa_nil)) pa_nil)))))) pss_nil)
    (pss_cons (ps_if (PW.pt (pw_or (pt_not (pt_val (pe_callB call_isS (by rfl) T.z_isinstance (by decide +kernel) (pa_cons (pv 3) (pa_cons (pe_bltn (v := .ty "int") (by rfl) T.z_int (by decide +kernel) rfl) pa_nil))))) (pw_or (pt_val (pe_callB call_isS (by rfl) T.z_isinstance (by decide +kernel) (pa_cons (pv 3) (pa_cons (pe_bltn (v := .ty "bool") (by rfl) T.z_bool (by decide +kernel) rfl) pa_nil)))) (pw_or (pt_cmpR op_lt (pv 3) pe_int (nomark _)) (pw_or1 (pt_not (pt_val (pe_call (ok__law_misfit T) (hr.mono (by decide)) (by rfl) T.g__law_misfit T.k__law_misfit T.b__law_misfit .nil pass0 (pa_cons (pv 2) (pa_cons (pv 3) pa_nil)))))))))) (pss_one (ps_ret pe_bl)) pss_nil)
    (pss_one (ps_ret (pe_call (ok__law_tiles T) (hr.mono (by decide)) (by rfl) T.g__law_tiles T.k__law_tiles T.b__law_tiles .nil pass0 (pa_cons (pv 2) (pa_cons (pe_call (ok_tokens_of T) (hr.mono (by decide)) (by rfl) T.g_tokens_of T.k_tokens_of T.b_tokens_of .nil passN0 (pa_cons (pe_slice sl_str (pv 2) po_none (po_some (pv 3))) pa_nil)) (pa_cons (pv 3) pa_nil))))))))))))))), ?_⟩
    obtain ⟨a, ns, rfl, ha, hlen, k⟩ := h
    simp (config := { maxSteps := 4000000 }) only [tSeq, tNext, tDrop, tRet, tRetN, tIfS, tAsg, tTest, tAnd, tOr, tNot, tAndV, tOrV, tNotV, tIf, tOp, tUn, tVar, tC, tCB, tCons, tNil, tCall, tPart, tNoPart, tM0, tM1, tTup, tLst, tB, tIsN, tNotN, rI0, rI, rU, rEq, rNe, rAdd, gName, gTup, gCons, gNil, gSub, rSetL, rIxL, rIxT, rIxS, L2.start,
      List.map_cons, List.map_nil, List.cons_append, List.nil_append, List.append_nil, List.length_cons, List.length_nil, List.replicate, List.getElem?_cons_zero, List.getElem?_cons_succ, List.set_cons_zero, List.set_cons_succ, Nat.reduceAdd, Nat.reduceSub, Nat.sub_self, Nat.zero_add,
      Option.some.injEq, V.int.injEq, V.str.injEq, V.bl.injEq, V.ref.injEq, V.ty.injEq, List.cons.injEq, and_true, true_and, exists_eq_left, exists_eq_left', exists_eq_right, exists_and_left, exists_and_right, exists_const, decide_eq_true_eq, decide_eq_false_iff_not, if_true, if_false, reduceIte, Bool.false_eq_true, Bool.not_eq_true', sc_ii, sc_ss, sc_bb, str1, cx_K, lstAt, rIxM, rSetM, rLenM, atI_0, atI_1, atI_2, atI_3, setI_0, setI_1, setI_2, setI_3, upd_same, upd_upd, ite_true, ite_false, exists_eq', eq_self, and_assoc, rIsS, isTy_bb, isTy_bi, isTy_ib, isTy_ii, isTy_ss, isTy_nb, isTy_ni, Bool.not_true, Bool.not_false, not_true_eq_false, not_false_eq_true, tChain, tRz1, tRz2, rIsX, tFx, tMethE, tCallS, tCallZ, tMeth, tMake, tFld, sFld, HO.ins.injEq, HO.lst.injEq, HO.dK.injEq, HO.tup.injEq, dcAt, dcRd, rDInM, rDGetM, rDSetM, rDLenM, keyOf_int, keyOf_str, rIsBM, plainV_b, plainV_i, plainV_n, plainV_s, rInM, rListM, rSortM, rSumM, rIsD, tBMM, tBM0M, tSl, rSlM, rAppend, rPop, rClear, wAs, reduceCtorEq, false_implies, true_implies, implies_true, forall_const, cxH_K, clsV_ref, clsV_ty, HO.xd.injEq, Value.ref.injEq, lkc, lkn, pfn, pfc, List.map_nil, rExtend, rCat, rRep, tMethE0, rSortD, rPush, rPopH, tDGetM, gAll, iRev, tCB, sDDel, wPair, tBreak, tDelT, rDLenR, tMethN]
    refine ⟨a, rfl, fun p hp => ?_⟩
    have st0 : StAt K (upd H p (.lst [.ref a, .int 0, .int 0, .int 7])) p := ⟨a, ns, 0, 0, 7, upd_same, (same_new hp).seq ha, by decide, by decide, by decide⟩
    refine ⟨p, rfl, st0, fun x H1 hx st1 hb1 => ⟨Nat.zero_le _, fun q hq => ?_⟩⟩
    have hl := len_cl x
    have hsz : x.length ≤ sizeLine := Nat.le_trans hx (by decide)
    refine ⟨fun σ' H' => ∃ (pl : Int) (lm : Str) (tk : Addr) (e : Option V), σ' = [some (.ref a), some (.ref p), some (.str x), some (.int pl), some (.str lm), some (.ref tk), e] ∧
      ((4000 < x.length ∧ lm = "source") ∨ (x.length ≤ 4000 ∧ lm = "" ∧ pl = -1 ∧ ∃ ts b, Til (cl x) 0 ts b ∧ Done (cl x) b ∧ b ≤ (cl x).length ∧ TkAt H' tk ts) ∨
       (x.length ≤ 4000 ∧ lm = "" ∧ ∃ ts b j, pl = ((b + j : Nat) : Int) ∧ Til (cl x) 0 ts b ∧ b + j ≤ (cl x).length ∧ Stuck (cl x) b j)), ?_, ?_⟩
    · simp (config := { maxSteps := 4000000 }) only [tSeq, tNext, tDrop, tRet, tRetN, tIfS, tAsg, tTest, tAnd, tOr, tNot, tAndV, tOrV, tNotV, tIf, tOp, tUn, tVar, tC, tCB, tCons, tNil, tCall, tPart, tNoPart, tM0, tM1, tTup, tLst, tB, tIsN, tNotN, rI0, rI, rU, rEq, rNe, rAdd, gName, gTup, gCons, gNil, gSub, rSetL, rIxL, rIxT, rIxS, L2.start,
      List.map_cons, List.map_nil, List.cons_append, List.nil_append, List.append_nil, List.length_cons, List.length_nil, List.replicate, List.getElem?_cons_zero, List.getElem?_cons_succ, List.set_cons_zero, List.set_cons_succ, Nat.reduceAdd, Nat.reduceSub, Nat.sub_self, Nat.zero_add,
      Option.some.injEq, V.int.injEq, V.str.injEq, V.bl.injEq, V.ref.injEq, V.ty.injEq, List.cons.injEq, and_true, true_and, exists_eq_left, exists_eq_left', exists_eq_right, exists_and_left, exists_and_right, exists_const, decide_eq_true_eq, decide_eq_false_iff_not, if_true, if_false, reduceIte, Bool.false_eq_true, Bool.not_eq_true', sc_ii, sc_ss, sc_bb, str1, cx_K, lstAt, rIxM, rSetM, rLenM, atI_0, atI_1, atI_2, atI_3, setI_0, setI_1, setI_2, setI_3, upd_same, upd_upd, ite_true, ite_false, exists_eq', eq_self, and_assoc, rIsS, isTy_bb, isTy_bi, isTy_ib, isTy_ii, isTy_ss, isTy_nb, isTy_ni, Bool.not_true, Bool.not_false, not_true_eq_false, not_false_eq_true, tChain, tRz1, tRz2, rIsX, tFx, tMethE, tCallS, tCallZ, tMeth, tMake, tFld, sFld, HO.ins.injEq, HO.lst.injEq, HO.dK.injEq, HO.tup.injEq, dcAt, dcRd, rDInM, rDGetM, rDSetM, rDLenM, keyOf_int, keyOf_str, rIsBM, plainV_b, plainV_i, plainV_n, plainV_s, rInM, rListM, rSortM, rSumM, rIsD, tBMM, tBM0M, tSl, rSlM, rAppend, rPop, rClear, wAs, reduceCtorEq, false_implies, true_implies, implies_true, forall_const, cxH_K, clsV_ref, clsV_ty, HO.xd.injEq, Value.ref.injEq, lkc, lkn, pfn, pfc, List.map_nil, rExtend, rCat, rRep, tMethE0, rSortD, rPush, rPopH, tDGetM, gAll, iRev, tCB, sDDel, wPair, tBreak, tDelT, rDLenR, tMethN]
      refine ⟨x, rfl, by omega, fun h dd hdd => ?_, fun h => ⟨fun ts b t H' T1 hs hb tk K1 => ?_, fun ts b j H' T1 hb hs K1 dd hdd => ?_⟩⟩
      · show wManyR K _ _ (.ref A.C_Oversized) (some dd) _ _
        unfold wManyR wAs
        refine ⟨false, T.ex_Oversized_Malformed, fun z => absurd z (by decide), fun _ => ?_⟩
        unfold wManyR wAs
        refine ⟨true, T.ex_Oversized_Oversized, fun _ e he => ?_, fun z => absurd z (by decide)⟩
        have gdd : (upd (upd H1 q (.lst [])) dd (HO.xd [("limit", V.str "source")])) dd = some (HO.xd [("limit", V.str "source")]) := upd_same
        generalize upd (upd H1 q (.lst [])) dd (HO.xd [("limit", V.str "source")]) = H2 at gdd he ⊢
        simp! only [gdd]
        exact .inl (by omega)
      · simp (config := { maxSteps := 4000000 }) only [tSeq, tNext, tDrop, tRet, tRetN, tIfS, tAsg, tTest, tAnd, tOr, tNot, tAndV, tOrV, tNotV, tIf, tOp, tUn, tVar, tC, tCB, tCons, tNil, tCall, tPart, tNoPart, tM0, tM1, tTup, tLst, tB, tIsN, tNotN, rI0, rI, rU, rEq, rNe, rAdd, gName, gTup, gCons, gNil, gSub, rSetL, rIxL, rIxT, rIxS, L2.start,
      List.map_cons, List.map_nil, List.cons_append, List.nil_append, List.append_nil, List.length_cons, List.length_nil, List.replicate, List.getElem?_cons_zero, List.getElem?_cons_succ, List.set_cons_zero, List.set_cons_succ, Nat.reduceAdd, Nat.reduceSub, Nat.sub_self, Nat.zero_add,
      Option.some.injEq, V.int.injEq, V.str.injEq, V.bl.injEq, V.ref.injEq, V.ty.injEq, List.cons.injEq, and_true, true_and, exists_eq_left, exists_eq_left', exists_eq_right, exists_and_left, exists_and_right, exists_const, decide_eq_true_eq, decide_eq_false_iff_not, if_true, if_false, reduceIte, Bool.false_eq_true, Bool.not_eq_true', sc_ii, sc_ss, sc_bb, str1, cx_K, lstAt, rIxM, rSetM, rLenM, atI_0, atI_1, atI_2, atI_3, setI_0, setI_1, setI_2, setI_3, upd_same, upd_upd, ite_true, ite_false, exists_eq', eq_self, and_assoc, rIsS, isTy_bb, isTy_bi, isTy_ib, isTy_ii, isTy_ss, isTy_nb, isTy_ni, Bool.not_true, Bool.not_false, not_true_eq_false, not_false_eq_true, tChain, tRz1, tRz2, rIsX, tFx, tMethE, tCallS, tCallZ, tMeth, tMake, tFld, sFld, HO.ins.injEq, HO.lst.injEq, HO.dK.injEq, HO.tup.injEq, dcAt, dcRd, rDInM, rDGetM, rDSetM, rDLenM, keyOf_int, keyOf_str, rIsBM, plainV_b, plainV_i, plainV_n, plainV_s, rInM, rListM, rSortM, rSumM, rIsD, tBMM, tBM0M, tSl, rSlM, rAppend, rPop, rClear, wAs, reduceCtorEq, false_implies, true_implies, implies_true, forall_const, cxH_K, clsV_ref, clsV_ty, HO.xd.injEq, Value.ref.injEq, lkc, lkn, pfn, pfc, List.map_nil, rExtend, rCat, rRep, tMethE0, rSortD, rPush, rPopH, tDGetM, gAll, iRev, tCB, sDDel, wPair, tBreak, tDelT, rDLenR, tMethN]
        exact .inr (.inl ⟨h, ts, b, T1, hs, hb, tk⟩)
      · show wManyR K _ _ (.ref A.C_Malformed) (some dd) _ _
        unfold wManyR wAs
        refine ⟨true, T.ex_Malformed_Malformed, fun _ e he => ?_, fun z => absurd z (by decide)⟩
        have gdd : (upd H' dd (HO.xd [("at", V.int ((b + j : Nat) : Int))])) dd = some (HO.xd [("at", V.int ((b + j : Nat) : Int))]) := upd_same
        generalize upd H' dd (HO.xd [("at", V.int ((b + j : Nat) : Int))]) = H2 at gdd he ⊢
        simp! only [gdd]
        exact .inr (.inr ⟨h, ts, b, j, rfl, T1, hb, hs⟩)
    · rintro σ' H2 ⟨pl, lm, tk, e, rfl, hcase⟩
      simp (config := { maxSteps := 4000000 }) only [tSeq, tNext, tDrop, tRet, tRetN, tIfS, tAsg, tTest, tAnd, tOr, tNot, tAndV, tOrV, tNotV, tIf, tOp, tUn, tVar, tC, tCB, tCons, tNil, tCall, tPart, tNoPart, tM0, tM1, tTup, tLst, tB, tIsN, tNotN, rI0, rI, rU, rEq, rNe, rAdd, gName, gTup, gCons, gNil, gSub, rSetL, rIxL, rIxT, rIxS, L2.start,
      List.map_cons, List.map_nil, List.cons_append, List.nil_append, List.append_nil, List.length_cons, List.length_nil, List.replicate, List.getElem?_cons_zero, List.getElem?_cons_succ, List.set_cons_zero, List.set_cons_succ, Nat.reduceAdd, Nat.reduceSub, Nat.sub_self, Nat.zero_add,
      Option.some.injEq, V.int.injEq, V.str.injEq, V.bl.injEq, V.ref.injEq, V.ty.injEq, List.cons.injEq, and_true, true_and, exists_eq_left, exists_eq_left', exists_eq_right, exists_and_left, exists_and_right, exists_const, decide_eq_true_eq, decide_eq_false_iff_not, if_true, if_false, reduceIte, Bool.false_eq_true, Bool.not_eq_true', sc_ii, sc_ss, sc_bb, str1, cx_K, lstAt, rIxM, rSetM, rLenM, atI_0, atI_1, atI_2, atI_3, setI_0, setI_1, setI_2, setI_3, upd_same, upd_upd, ite_true, ite_false, exists_eq', eq_self, and_assoc, rIsS, isTy_bb, isTy_bi, isTy_ib, isTy_ii, isTy_ss, isTy_nb, isTy_ni, Bool.not_true, Bool.not_false, not_true_eq_false, not_false_eq_true, tChain, tRz1, tRz2, rIsX, tFx, tMethE, tCallS, tCallZ, tMeth, tMake, tFld, sFld, HO.ins.injEq, HO.lst.injEq, HO.dK.injEq, HO.tup.injEq, dcAt, dcRd, rDInM, rDGetM, rDSetM, rDLenM, keyOf_int, keyOf_str, rIsBM, plainV_b, plainV_i, plainV_n, plainV_s, rInM, rListM, rSortM, rSumM, rIsD, tBMM, tBM0M, tSl, rSlM, rAppend, rPop, rClear, wAs, reduceCtorEq, false_implies, true_implies, implies_true, forall_const, cxH_K, clsV_ref, clsV_ty, HO.xd.injEq, Value.ref.injEq, lkc, lkn, pfn, pfc, List.map_nil, rExtend, rCat, rRep, tMethE0, rSortD, rPush, rPopH, tDGetM, gAll, iRev, tCB, sDDel, wPair, tBreak, tDelT, rDLenR, tMethN]
      have okF : ∀ kb : Bool, kb = true → Q (.bl kb) H2 := fun kb e => by rw [e]; exact k _
      refine ⟨hsz, ?_⟩
      rcases hcase with ⟨h4, rfl⟩ | ⟨h4, rfl, rfl, ts, b, T1, dn, hb, tk1⟩ | ⟨h4, rfl, ts, b, j, rfl, T1, hb, hs⟩
      · exact ite2 (fun h => ⟨hsz, ite2 (fun _ => okF _ (decide_eq_true rfl)) (fun h2 => absurd h h2)⟩) (fun h => absurd (show (4000 : Int) < (x.length : Int) by omega) h)
      · refine ite2 (fun h => absurd h (by omega)) (fun _ => ite2 (fun h => absurd rfl h) (fun _ => ite2 (fun _ => ⟨hsz, x, tk, ts, b, x.length, rfl, tk1, T1, hx, ?_, by omega, fun H' _ => k H'⟩) (fun h => absurd rfl h)))
        have e : (skip ((cl x).drop b)).1 = (cl x).length - b := by
          rw [dn]
        rw [e]
        omega
      · have hu : cl (cutS x none (some ((b + j : Nat) : Int))) = (cl x).take (b + j) := cl_upto
        have hul : (cutS x none (some ((b + j : Nat) : Int))).length = b + j := by
          rw [len_cl, hu, List.length_take]
          omega
        have hbef := Stuck.before T1 hb hs
        refine ite2 (fun h => absurd h (by omega)) (fun _ => ite2 (fun h => absurd rfl h) (fun _ => ite2 (fun h => absurd h (by omega)) (fun _ => ite2 (fun h => absurd h (by omega)) (fun _ => ⟨x, b + j, rfl, hx, hs.mis, _, rfl, ite2 (fun h => absurd h (by decide)) (fun _ => ?_)⟩))))
        refine ⟨x, rfl, hsz, _, rfl, by omega, fun h => absurd h (by omega), fun _ => ⟨fun ts2 b2 t2 H3 T2 d2 hb2 tk2 K2 => ?_, fun ts2 b2 j2 H3 T2 hb2 s2 K2 dd hdd => ?_⟩⟩
        · rw [hu] at T2 d2
          obtain ⟨e1, e2⟩ := (Til.one T2 hbef.1 hbef.2).2 d2
          subst e1
          subst e2
          obtain ⟨f, hf⟩ := hs.skip
          exact ⟨x, t2, ts2, b2, b2 + j, rfl, tk2, T1, hx, by rw [hf], hb, fun H' _ => k H'⟩
        · rw [hu] at T2 s2
          exact ((Til.one T2 hbef.1 hbef.2).1 j2 s2).elim
end

theorem all_mk {l : PySem.W.OpenLaw} {w : World} {K : PySem.W.Frag} {h : Heap} {mg : Str → Option Value} {fa : Addr} (X : K.In h) (G : h.Ns mainGlobals mg) (hfa : mg "law" = some (.ref fa))
    {f29 : Addr} {od29 an29 : Option Addr} {sl29 : Array (Option Value)} {oc29 kV29 dc29 pm29 cd29 ct29 : Value}
    {f28 : Addr} {od28 an28 : Option Addr} {sl28 : Array (Option Value)} {oc28 kV28 dc28 pm28 cd28 ct28 : Value}
    {f27 : Addr} {od27 an27 : Option Addr} {sl27 : Array (Option Value)} {oc27 kV27 dc27 pm27 cd27 ct27 : Value}
    {f26 : Addr} {od26 an26 : Option Addr} {sl26 : Array (Option Value)} {oc26 kV26 dc26 pm26 cd26 ct26 : Value}
    {f25 : Addr} {od25 an25 : Option Addr} {sl25 : Array (Option Value)} {oc25 kV25 dc25 pm25 cd25 ct25 : Value}
    {f24 : Addr} {od24 an24 : Option Addr} {sl24 : Array (Option Value)} {oc24 kV24 dc24 pm24 cd24 ct24 : Value}
    {f23 : Addr} {od23 an23 : Option Addr} {sl23 : Array (Option Value)} {oc23 kV23 dc23 pm23 cd23 ct23 : Value}
    {f22 : Addr} {od22 an22 : Option Addr} {sl22 : Array (Option Value)} {oc22 kV22 dc22 pm22 cd22 ct22 : Value}
    {f21 : Addr} {od21 an21 : Option Addr} {sl21 : Array (Option Value)} {oc21 kV21 dc21 pm21 cd21 ct21 : Value}
    {f20 : Addr} {od20 an20 : Option Addr} {sl20 : Array (Option Value)} {oc20 kV20 dc20 pm20 cd20 ct20 : Value}
    {f19 : Addr} {od19 an19 : Option Addr} {sl19 : Array (Option Value)} {oc19 kV19 dc19 pm19 cd19 ct19 : Value}
    {f18 : Addr} {od18 an18 : Option Addr} {sl18 : Array (Option Value)} {oc18 kV18 dc18 pm18 cd18 ct18 : Value}
    {f17 : Addr} {od17 an17 : Option Addr} {sl17 : Array (Option Value)} {oc17 kV17 dc17 pm17 cd17 ct17 : Value}
    {f16 : Addr} {od16 an16 : Option Addr} {sl16 : Array (Option Value)} {oc16 kV16 dc16 pm16 cd16 ct16 : Value}
    {f15 : Addr} {od15 an15 : Option Addr} {sl15 : Array (Option Value)} {oc15 kV15 dc15 pm15 cd15 ct15 : Value}
    {f14 : Addr} {od14 an14 : Option Addr} {sl14 : Array (Option Value)} {oc14 kV14 dc14 pm14 cd14 ct14 : Value}
    {f13 : Addr} {od13 an13 : Option Addr} {sl13 : Array (Option Value)} {oc13 kV13 dc13 pm13 cd13 ct13 : Value}
    {f12 : Addr} {od12 an12 : Option Addr} {sl12 : Array (Option Value)} {oc12 kV12 dc12 pm12 cd12 ct12 : Value}
    {f11 : Addr} {od11 an11 : Option Addr} {sl11 : Array (Option Value)} {oc11 kV11 dc11 pm11 cd11 ct11 : Value}
    {f10 : Addr} {od10 an10 : Option Addr} {sl10 : Array (Option Value)} {oc10 kV10 dc10 pm10 cd10 ct10 : Value}
    {f9 : Addr} {od9 an9 : Option Addr} {sl9 : Array (Option Value)} {oc9 kV9 dc9 pm9 cd9 ct9 : Value}
    {f8 : Addr} {od8 an8 : Option Addr} {sl8 : Array (Option Value)} {oc8 kV8 dc8 pm8 cd8 ct8 : Value}
    {f7 : Addr} {od7 an7 : Option Addr} {sl7 : Array (Option Value)} {oc7 kV7 dc7 pm7 cd7 ct7 : Value}
    {f6 : Addr} {od6 an6 : Option Addr} {sl6 : Array (Option Value)} {oc6 kV6 dc6 pm6 cd6 ct6 : Value}
    {f5 : Addr} {od5 an5 : Option Addr} {sl5 : Array (Option Value)} {oc5 kV5 dc5 pm5 cd5 ct5 : Value}
    {f4 : Addr} {od4 an4 : Option Addr} {sl4 : Array (Option Value)} {oc4 kV4 dc4 pm4 cd4 ct4 : Value}
    {f3 : Addr} {od3 an3 : Option Addr} {sl3 : Array (Option Value)} {oc3 kV3 dc3 pm3 cd3 ct3 : Value}
    {f2 : Addr} {od2 an2 : Option Addr} {sl2 : Array (Option Value)} {oc2 kV2 dc2 pm2 cd2 ct2 : Value}
    {f1 : Addr} {od1 an1 : Option Addr} {sl1 : Array (Option Value)} {oc1 kV1 dc1 pm1 cd1 ct1 : Value}
    {f0 : Addr} {od0 an0 : Option Addr} {sl0 : Array (Option Value)} {oc0 kV0 dc0 pm0 cd0 ct0 : Value}
    {C_SaggarError : Addr}
    {C_Malformed : Addr}
    {C_Oversized : Addr}
    {nm_Malformed q_Malformed : Str} {N_Malformed : Addr} {bs_Malformed : List Value} {sn_Malformed : List Str} {sub_Malformed : List Value} {ab_Malformed : Bool} {col_Malformed : Option Bool} {dd_Malformed : Option Addr} {m0_Malformed m1_Malformed m2_Malformed m3_Malformed m5_Malformed : Option Value}
    {nm_Oversized q_Oversized : Str} {N_Oversized : Addr} {bs_Oversized : List Value} {sn_Oversized : List Str} {sub_Oversized : List Value} {ab_Oversized : Bool} {col_Oversized : Option Bool} {dd_Oversized : Option Addr} {m0_Oversized m1_Oversized m2_Oversized m3_Oversized m5_Oversized : Option Value}
    {t_LONGEST_SOURCE : Tok}
    {t_LONGEST_NAME : Tok}
    {t_MOST_DIGITS : Tok}
    {t_BLANKS : Tok}
    {t_LETTERS : Tok}
    {t_DIGITS : Tok}
    {t_SIGNS : Tok}
    {t_MARKS : Tok}
    (m_SaggarError : PySem.W.nsIn K mainGlobals "SaggarError" = some (some (.ref C_SaggarError)))
    (m_Malformed : PySem.W.nsIn K mainGlobals "Malformed" = some (some (.ref C_Malformed)))
    (m_Oversized : PySem.W.nsIn K mainGlobals "Oversized" = some (some (.ref C_Oversized)))
    (xl_Malformed : K.lookup C_Malformed = some (excClassObj nm_Malformed q_Malformed C_Malformed N_Malformed bs_Malformed [.ref C_SaggarError, .type "ValueError", .type "Exception", .type "BaseException", .type "object"] true sn_Malformed sub_Malformed ab_Malformed col_Malformed dd_Malformed m0_Malformed m1_Malformed m2_Malformed m3_Malformed m5_Malformed "ValueError.__new__"))
    (sa_Malformed : PySem.W.findIn K (.ref C_Malformed) "__setattr__" = some (some (.builtin "object.__setattr__"))) (ga_Malformed : PySem.W.findIn K (.ref C_Malformed) "__getattribute__" = some (some (.builtin "BaseException.__getattribute__"))) (gg_Malformed : PySem.W.findIn K (.ref C_Malformed) "__getattr__" = some none) (ic_Malformed : PySem.W.findIn K (.ref C_Malformed) "__init__" = some (some (.ref f0))) (ti_Malformed : PySem.W.typeIn K (.ref f0) = some (.type "function"))
    (kc_Malformed : PySem.W.keepIn K (.ref C_Malformed) = true) (ec_Malformed : PySem.W.subIn K (.ref C_Malformed) (.type "BaseException") = some true) (tc_Malformed : PySem.W.typeIn K (.ref C_Malformed) = some (.type "type")) (hc_Malformed : PySem.W.hasDictIn K C_Malformed = true)
    (ha_Malformed : PySem.W.findIn K (.ref C_Malformed) "__class__" = some (some (.builtin "object.__class__"))) (hn_Malformed : PySem.W.specialIn K (.builtin "object.__class__") "__get__" = some (some (.builtin "getset_descriptor.__get__"))) (ht_Malformed : PySem.W.takesIn K (.builtin "object.__class__") = some true) (hm_Malformed : PySem.W.mroIn K C_Malformed (.type "object") = some true)
    (no_Malformed_at : PySem.W.findIn K (.ref C_Malformed) "at" = some none)
    (ex_Malformed_Malformed : PySem.W.exmOne K (.ref C_Malformed) (.ref C_Malformed) = some true)
    (ex_Malformed_Oversized : PySem.W.exmOne K (.ref C_Malformed) (.ref C_Oversized) = some false)
    (ex_Malformed_SaggarError : PySem.W.exmOne K (.ref C_Malformed) (.ref C_SaggarError) = some true)
    (xl_Oversized : K.lookup C_Oversized = some (excClassObj nm_Oversized q_Oversized C_Oversized N_Oversized bs_Oversized [.ref C_SaggarError, .type "ValueError", .type "Exception", .type "BaseException", .type "object"] true sn_Oversized sub_Oversized ab_Oversized col_Oversized dd_Oversized m0_Oversized m1_Oversized m2_Oversized m3_Oversized m5_Oversized "ValueError.__new__"))
    (sa_Oversized : PySem.W.findIn K (.ref C_Oversized) "__setattr__" = some (some (.builtin "object.__setattr__"))) (ga_Oversized : PySem.W.findIn K (.ref C_Oversized) "__getattribute__" = some (some (.builtin "BaseException.__getattribute__"))) (gg_Oversized : PySem.W.findIn K (.ref C_Oversized) "__getattr__" = some none) (ic_Oversized : PySem.W.findIn K (.ref C_Oversized) "__init__" = some (some (.ref f1))) (ti_Oversized : PySem.W.typeIn K (.ref f1) = some (.type "function"))
    (kc_Oversized : PySem.W.keepIn K (.ref C_Oversized) = true) (ec_Oversized : PySem.W.subIn K (.ref C_Oversized) (.type "BaseException") = some true) (tc_Oversized : PySem.W.typeIn K (.ref C_Oversized) = some (.type "type")) (hc_Oversized : PySem.W.hasDictIn K C_Oversized = true)
    (ha_Oversized : PySem.W.findIn K (.ref C_Oversized) "__class__" = some (some (.builtin "object.__class__"))) (hn_Oversized : PySem.W.specialIn K (.builtin "object.__class__") "__get__" = some (some (.builtin "getset_descriptor.__get__"))) (ht_Oversized : PySem.W.takesIn K (.builtin "object.__class__") = some true) (hm_Oversized : PySem.W.mroIn K C_Oversized (.type "object") = some true)
    (no_Oversized_limit : PySem.W.findIn K (.ref C_Oversized) "limit" = some none)
    (ex_Oversized_Malformed : PySem.W.exmOne K (.ref C_Oversized) (.ref C_Malformed) = some false)
    (ex_Oversized_Oversized : PySem.W.exmOne K (.ref C_Oversized) (.ref C_Oversized) = some true)
    (ex_Oversized_SaggarError : PySem.W.exmOne K (.ref C_Oversized) (.ref C_SaggarError) = some true)
    (l0 : K.lookup f0 = some ⟨oc0, od0, .func (PySem.W.fnOf "__init__" "Malformed.__init__" (defArgs s_Malformed___init__) (defBody s_Malformed___init__) (defScope s_Malformed___init__) .none kV0 dc0 pm0 an0 cd0 ct0), sl0⟩) (c0 : PySem.W.codeIn K cd0 "Malformed.__init__" = true) (k0 : PySem.W.keepIn K (.ref f0) = true)
    (l1 : K.lookup f1 = some ⟨oc1, od1, .func (PySem.W.fnOf "__init__" "Oversized.__init__" (defArgs s_Oversized___init__) (defBody s_Oversized___init__) (defScope s_Oversized___init__) .none kV1 dc1 pm1 an1 cd1 ct1), sl1⟩) (c1 : PySem.W.codeIn K cd1 "Oversized.__init__" = true) (k1 : PySem.W.keepIn K (.ref f1) = true)
    (a2 : PySem.W.nsIn K mainGlobals "tokens_of" = some (some (.ref f2)))
    (l2 : K.lookup f2 = some ⟨oc2, od2, .func (PySem.W.fnOf "tokens_of" "tokens_of" (defArgs s_tokens_of) (defBody s_tokens_of) (defScope s_tokens_of) .none kV2 dc2 pm2 an2 cd2 ct2), sl2⟩) (c2 : PySem.W.codeIn K cd2 "tokens_of" = true) (k2 : PySem.W.keepIn K (.ref f2) = true)
    (a3 : PySem.W.nsIn K mainGlobals "skipped" = some (some (.ref f3)))
    (l3 : K.lookup f3 = some ⟨oc3, od3, .func (PySem.W.fnOf "skipped" "skipped" (defArgs s_skipped) (defBody s_skipped) (defScope s_skipped) .none kV3 dc3 pm3 an3 cd3 ct3), sl3⟩) (c3 : PySem.W.codeIn K cd3 "skipped" = true) (k3 : PySem.W.keepIn K (.ref f3) = true)
    (a4 : PySem.W.nsIn K mainGlobals "token_at" = some (some (.ref f4)))
    (l4 : K.lookup f4 = some ⟨oc4, od4, .func (PySem.W.fnOf "token_at" "token_at" (defArgs s_token_at) (defBody s_token_at) (defScope s_token_at) .none kV4 dc4 pm4 an4 cd4 ct4), sl4⟩) (c4 : PySem.W.codeIn K cd4 "token_at" = true) (k4 : PySem.W.keepIn K (.ref f4) = true)
    (a5 : PySem.W.nsIn K mainGlobals "named" = some (some (.ref f5)))
    (l5 : K.lookup f5 = some ⟨oc5, od5, .func (PySem.W.fnOf "named" "named" (defArgs s_named) (defBody s_named) (defScope s_named) .none kV5 dc5 pm5 an5 cd5 ct5), sl5⟩) (c5 : PySem.W.codeIn K cd5 "named" = true) (k5 : PySem.W.keepIn K (.ref f5) = true)
    (a6 : PySem.W.nsIn K mainGlobals "numbered" = some (some (.ref f6)))
    (l6 : K.lookup f6 = some ⟨oc6, od6, .func (PySem.W.fnOf "numbered" "numbered" (defArgs s_numbered) (defBody s_numbered) (defScope s_numbered) .none kV6 dc6 pm6 an6 cd6 ct6), sl6⟩) (c6 : PySem.W.codeIn K cd6 "numbered" = true) (k6 : PySem.W.keepIn K (.ref f6) = true)
    (a7 : PySem.W.nsIn K mainGlobals "hashed" = some (some (.ref f7)))
    (l7 : K.lookup f7 = some ⟨oc7, od7, .func (PySem.W.fnOf "hashed" "hashed" (defArgs s_hashed) (defBody s_hashed) (defScope s_hashed) .none kV7 dc7 pm7 an7 cd7 ct7), sl7⟩) (c7 : PySem.W.codeIn K cd7 "hashed" = true) (k7 : PySem.W.keepIn K (.ref f7) = true)
    (a8 : PySem.W.nsIn K mainGlobals "quoted" = some (some (.ref f8)))
    (l8 : K.lookup f8 = some ⟨oc8, od8, .func (PySem.W.fnOf "quoted" "quoted" (defArgs s_quoted) (defBody s_quoted) (defScope s_quoted) .none kV8 dc8 pm8 an8 cd8 ct8), sl8⟩) (c8 : PySem.W.codeIn K cd8 "quoted" = true) (k8 : PySem.W.keepIn K (.ref f8) = true)
    (a9 : PySem.W.nsIn K mainGlobals "signed" = some (some (.ref f9)))
    (l9 : K.lookup f9 = some ⟨oc9, od9, .func (PySem.W.fnOf "signed" "signed" (defArgs s_signed) (defBody s_signed) (defScope s_signed) .none kV9 dc9 pm9 an9 cd9 ct9), sl9⟩) (c9 : PySem.W.codeIn K cd9 "signed" = true) (k9 : PySem.W.keepIn K (.ref f9) = true)
    (a10 : PySem.W.nsIn K mainGlobals "letters_end" = some (some (.ref f10)))
    (l10 : K.lookup f10 = some ⟨oc10, od10, .func (PySem.W.fnOf "letters_end" "letters_end" (defArgs s_letters_end) (defBody s_letters_end) (defScope s_letters_end) .none kV10 dc10 pm10 an10 cd10 ct10), sl10⟩) (c10 : PySem.W.codeIn K cd10 "letters_end" = true) (k10 : PySem.W.keepIn K (.ref f10) = true)
    (a11 : PySem.W.nsIn K mainGlobals "name_end" = some (some (.ref f11)))
    (l11 : K.lookup f11 = some ⟨oc11, od11, .func (PySem.W.fnOf "name_end" "name_end" (defArgs s_name_end) (defBody s_name_end) (defScope s_name_end) .none kV11 dc11 pm11 an11 cd11 ct11), sl11⟩) (c11 : PySem.W.codeIn K cd11 "name_end" = true) (k11 : PySem.W.keepIn K (.ref f11) = true)
    (a12 : PySem.W.nsIn K mainGlobals "keyword_end" = some (some (.ref f12)))
    (l12 : K.lookup f12 = some ⟨oc12, od12, .func (PySem.W.fnOf "keyword_end" "keyword_end" (defArgs s_keyword_end) (defBody s_keyword_end) (defScope s_keyword_end) .none kV12 dc12 pm12 an12 cd12 ct12), sl12⟩) (c12 : PySem.W.codeIn K cd12 "keyword_end" = true) (k12 : PySem.W.keepIn K (.ref f12) = true)
    (a13 : PySem.W.nsIn K mainGlobals "keywords_end" = some (some (.ref f13)))
    (l13 : K.lookup f13 = some ⟨oc13, od13, .func (PySem.W.fnOf "keywords_end" "keywords_end" (defArgs s_keywords_end) (defBody s_keywords_end) (defScope s_keywords_end) .none kV13 dc13 pm13 an13 cd13 ct13), sl13⟩) (c13 : PySem.W.codeIn K cd13 "keywords_end" = true) (k13 : PySem.W.keepIn K (.ref f13) = true)
    (a14 : PySem.W.nsIn K mainGlobals "_law_start" = some (some (.ref f14)))
    (l14 : K.lookup f14 = some ⟨oc14, od14, .func (PySem.W.fnOf "_law_start" "_law_start" (defArgs s__law_start) (defBody s__law_start) (defScope s__law_start) .none kV14 dc14 pm14 an14 cd14 ct14), sl14⟩) (c14 : PySem.W.codeIn K cd14 "_law_start" = true) (k14 : PySem.W.keepIn K (.ref f14) = true)
    (a15 : PySem.W.nsIn K mainGlobals "_law_pick" = some (some (.ref f15)))
    (l15 : K.lookup f15 = some ⟨oc15, od15, .func (PySem.W.fnOf "_law_pick" "_law_pick" (defArgs s__law_pick) (defBody s__law_pick) (defScope s__law_pick) .none kV15 dc15 pm15 an15 cd15 ct15), sl15⟩) (c15 : PySem.W.codeIn K cd15 "_law_pick" = true) (k15 : PySem.W.keepIn K (.ref f15) = true)
    (a16 : PySem.W.nsIn K mainGlobals "_law_letters" = some (some (.ref f16)))
    (l16 : K.lookup f16 = some ⟨oc16, od16, .func (PySem.W.fnOf "_law_letters" "_law_letters" (defArgs s__law_letters) (defBody s__law_letters) (defScope s__law_letters) .none kV16 dc16 pm16 an16 cd16 ct16), sl16⟩) (c16 : PySem.W.codeIn K cd16 "_law_letters" = true) (k16 : PySem.W.keepIn K (.ref f16) = true)
    (a17 : PySem.W.nsIn K mainGlobals "_law_source" = some (some (.ref f17)))
    (l17 : K.lookup f17 = some ⟨oc17, od17, .func (PySem.W.fnOf "_law_source" "_law_source" (defArgs s__law_source) (defBody s__law_source) (defScope s__law_source) .none kV17 dc17 pm17 an17 cd17 ct17), sl17⟩) (c17 : PySem.W.codeIn K cd17 "_law_source" = true) (k17 : PySem.W.keepIn K (.ref f17) = true)
    (a18 : PySem.W.nsIn K mainGlobals "_law_run" = some (some (.ref f18)))
    (l18 : K.lookup f18 = some ⟨oc18, od18, .func (PySem.W.fnOf "_law_run" "_law_run" (defArgs s__law_run) (defBody s__law_run) (defScope s__law_run) .none kV18 dc18 pm18 an18 cd18 ct18), sl18⟩) (c18 : PySem.W.codeIn K cd18 "_law_run" = true) (k18 : PySem.W.keepIn K (.ref f18) = true)
    (a19 : PySem.W.nsIn K mainGlobals "_law_word_end" = some (some (.ref f19)))
    (l19 : K.lookup f19 = some ⟨oc19, od19, .func (PySem.W.fnOf "_law_word_end" "_law_word_end" (defArgs s__law_word_end) (defBody s__law_word_end) (defScope s__law_word_end) .none kV19 dc19 pm19 an19 cd19 ct19), sl19⟩) (c19 : PySem.W.codeIn K cd19 "_law_word_end" = true) (k19 : PySem.W.keepIn K (.ref f19) = true)
    (a20 : PySem.W.nsIn K mainGlobals "_law_is_letter" = some (some (.ref f20)))
    (l20 : K.lookup f20 = some ⟨oc20, od20, .func (PySem.W.fnOf "_law_is_letter" "_law_is_letter" (defArgs s__law_is_letter) (defBody s__law_is_letter) (defScope s__law_is_letter) .none kV20 dc20 pm20 an20 cd20 ct20), sl20⟩) (c20 : PySem.W.codeIn K cd20 "_law_is_letter" = true) (k20 : PySem.W.keepIn K (.ref f20) = true)
    (a21 : PySem.W.nsIn K mainGlobals "_law_name_end" = some (some (.ref f21)))
    (l21 : K.lookup f21 = some ⟨oc21, od21, .func (PySem.W.fnOf "_law_name_end" "_law_name_end" (defArgs s__law_name_end) (defBody s__law_name_end) (defScope s__law_name_end) .none kV21 dc21 pm21 an21 cd21 ct21), sl21⟩) (c21 : PySem.W.codeIn K cd21 "_law_name_end" = true) (k21 : PySem.W.keepIn K (.ref f21) = true)
    (a22 : PySem.W.nsIn K mainGlobals "_law_colon" = some (some (.ref f22)))
    (l22 : K.lookup f22 = some ⟨oc22, od22, .func (PySem.W.fnOf "_law_colon" "_law_colon" (defArgs s__law_colon) (defBody s__law_colon) (defScope s__law_colon) .none kV22 dc22 pm22 an22 cd22 ct22), sl22⟩) (c22 : PySem.W.codeIn K cd22 "_law_colon" = true) (k22 : PySem.W.keepIn K (.ref f22) = true)
    (a23 : PySem.W.nsIn K mainGlobals "_law_skip" = some (some (.ref f23)))
    (l23 : K.lookup f23 = some ⟨oc23, od23, .func (PySem.W.fnOf "_law_skip" "_law_skip" (defArgs s__law_skip) (defBody s__law_skip) (defScope s__law_skip) .none kV23 dc23 pm23 an23 cd23 ct23), sl23⟩) (c23 : PySem.W.codeIn K cd23 "_law_skip" = true) (k23 : PySem.W.keepIn K (.ref f23) = true)
    (a24 : PySem.W.nsIn K mainGlobals "_law_symbol_end" = some (some (.ref f24)))
    (l24 : K.lookup f24 = some ⟨oc24, od24, .func (PySem.W.fnOf "_law_symbol_end" "_law_symbol_end" (defArgs s__law_symbol_end) (defBody s__law_symbol_end) (defScope s__law_symbol_end) .none kV24 dc24 pm24 an24 cd24 ct24), sl24⟩) (c24 : PySem.W.codeIn K cd24 "_law_symbol_end" = true) (k24 : PySem.W.keepIn K (.ref f24) = true)
    (a25 : PySem.W.nsIn K mainGlobals "_law_token_end" = some (some (.ref f25)))
    (l25 : K.lookup f25 = some ⟨oc25, od25, .func (PySem.W.fnOf "_law_token_end" "_law_token_end" (defArgs s__law_token_end) (defBody s__law_token_end) (defScope s__law_token_end) .none kV25 dc25 pm25 an25 cd25 ct25), sl25⟩) (c25 : PySem.W.codeIn K cd25 "_law_token_end" = true) (k25 : PySem.W.keepIn K (.ref f25) = true)
    (a26 : PySem.W.nsIn K mainGlobals "_law_is_token" = some (some (.ref f26)))
    (l26 : K.lookup f26 = some ⟨oc26, od26, .func (PySem.W.fnOf "_law_is_token" "_law_is_token" (defArgs s__law_is_token) (defBody s__law_is_token) (defScope s__law_is_token) .none kV26 dc26 pm26 an26 cd26 ct26), sl26⟩) (c26 : PySem.W.codeIn K cd26 "_law_is_token" = true) (k26 : PySem.W.keepIn K (.ref f26) = true)
    (a27 : PySem.W.nsIn K mainGlobals "_law_tiles" = some (some (.ref f27)))
    (l27 : K.lookup f27 = some ⟨oc27, od27, .func (PySem.W.fnOf "_law_tiles" "_law_tiles" (defArgs s__law_tiles) (defBody s__law_tiles) (defScope s__law_tiles) .none kV27 dc27 pm27 an27 cd27 ct27), sl27⟩) (c27 : PySem.W.codeIn K cd27 "_law_tiles" = true) (k27 : PySem.W.keepIn K (.ref f27) = true)
    (a28 : PySem.W.nsIn K mainGlobals "_law_misfit" = some (some (.ref f28)))
    (l28 : K.lookup f28 = some ⟨oc28, od28, .func (PySem.W.fnOf "_law_misfit" "_law_misfit" (defArgs s__law_misfit) (defBody s__law_misfit) (defScope s__law_misfit) .none kV28 dc28 pm28 an28 cd28 ct28), sl28⟩) (c28 : PySem.W.codeIn K cd28 "_law_misfit" = true) (k28 : PySem.W.keepIn K (.ref f28) = true)
    (a29 : PySem.W.nsIn K mainGlobals "law" = some (some (.ref f29)))
    (l29 : K.lookup f29 = some ⟨oc29, od29, .func (PySem.W.fnOf "law" "law" (defArgs s_law) (defBody s_law) (defScope s_law) .none kV29 dc29 pm29 an29 cd29 ct29), sl29⟩) (c29 : PySem.W.codeIn K cd29 "law" = true) (k29 : PySem.W.keepIn K (.ref f29) = true)
    (q_LONGEST_SOURCE : PySem.W.nsIn K mainGlobals "LONGEST_SOURCE" = some (some (.int (4000) t_LONGEST_SOURCE)))
    (q_LONGEST_NAME : PySem.W.nsIn K mainGlobals "LONGEST_NAME" = some (some (.int (32) t_LONGEST_NAME)))
    (q_MOST_DIGITS : PySem.W.nsIn K mainGlobals "MOST_DIGITS" = some (some (.int (9) t_MOST_DIGITS)))
    (q_BLANKS : PySem.W.nsIn K mainGlobals "BLANKS" = some (some (.str " \n" t_BLANKS)))
    (q_LETTERS : PySem.W.nsIn K mainGlobals "LETTERS" = some (some (.str "abcdefghijklmnopqrstuvwxyzABCDEFGHIJKLMNOPQRSTUVWXYZ" t_LETTERS)))
    (q_DIGITS : PySem.W.nsIn K mainGlobals "DIGITS" = some (some (.str "0123456789" t_DIGITS)))
    (q_SIGNS : PySem.W.nsIn K mainGlobals "SIGNS" = some (some (.str "+-*/<>=~&,@" t_SIGNS)))
    (q_MARKS : PySem.W.nsIn K mainGlobals "MARKS" = some (some (.str ":^.|()[]" t_MARKS)))
    (z_ValueError : PySem.W.nsIn K mainGlobals "ValueError" = some none)
    (z_abs : PySem.W.nsIn K mainGlobals "abs" = some none)
    (z_bool : PySem.W.nsIn K mainGlobals "bool" = some none)
    (z_int : PySem.W.nsIn K mainGlobals "int" = some none)
    (z_isinstance : PySem.W.nsIn K mainGlobals "isinstance" = some none)
    (z_len : PySem.W.nsIn K mainGlobals "len" = some none)
    (z_list : PySem.W.nsIn K mainGlobals "list" = some none)
    (z_min : PySem.W.nsIn K mainGlobals "min" = some none)
    (z_range : PySem.W.nsIn K mainGlobals "range" = some none)
    (z_str : PySem.W.nsIn K mainGlobals "str" = some none)
    (z_tuple : PySem.W.nsIn K mainGlobals "tuple" = some none) :
    ∃ fd : FuncData, (∀ (s : Shared) (v : Value), BindsTo s fd ⟨[v], []⟩ [("script", v)]) ∧ ∀ base : Heap, K.In base → base.Ns mainGlobals mg → FnOk l.prog w K mg base CX0 8 fa fd ["script"] (sp_law K) := by
  have e : fa = f29 := Value.ref.inj (Option.some.inj (hfa.symm.trans (PySem.W.mg_of X G a29)))
  rw [e]
  have T : Txt K mg { C_SaggarError := C_SaggarError, C_Malformed := C_Malformed, C_Oversized := C_Oversized, f_Malformed___init__ := f0, d_Malformed___init__ := _, f_Oversized___init__ := f1, d_Oversized___init__ := _, f_tokens_of := f2, d_tokens_of := _, f_skipped := f3, d_skipped := _, f_token_at := f4, d_token_at := _, f_named := f5, d_named := _, f_numbered := f6, d_numbered := _, f_hashed := f7, d_hashed := _, f_quoted := f8, d_quoted := _, f_signed := f9, d_signed := _, f_letters_end := f10, d_letters_end := _, f_name_end := f11, d_name_end := _, f_keyword_end := f12, d_keyword_end := _, f_keywords_end := f13, d_keywords_end := _, f__law_start := f14, d__law_start := _, f__law_pick := f15, d__law_pick := _, f__law_letters := f16, d__law_letters := _, f__law_source := f17, d__law_source := _, f__law_run := f18, d__law_run := _, f__law_word_end := f19, d__law_word_end := _, f__law_is_letter := f20, d__law_is_letter := _, f__law_name_end := f21, d__law_name_end := _, f__law_colon := f22, d__law_colon := _, f__law_skip := f23, d__law_skip := _, f__law_symbol_end := f24, d__law_symbol_end := _, f__law_token_end := f25, d__law_token_end := _, f__law_is_token := f26, d__law_is_token := _, f__law_tiles := f27, d__law_tiles := _, f__law_misfit := f28, d__law_misfit := _, f_law := f29, d_law := _, t_LONGEST_SOURCE := t_LONGEST_SOURCE, t_LONGEST_NAME := t_LONGEST_NAME, t_MOST_DIGITS := t_MOST_DIGITS, t_BLANKS := t_BLANKS, t_LETTERS := t_LETTERS, t_DIGITS := t_DIGITS, t_SIGNS := t_SIGNS, t_MARKS := t_MARKS } := {
      m_SaggarError := PySem.W.mg_of X G m_SaggarError,
      m_Malformed := PySem.W.mg_of X G m_Malformed,
      m_Oversized := PySem.W.mg_of X G m_Oversized,
      x_Malformed := ⟨⟨⟨_, _, _, _, _, _, _, _, _, _, _, _, _, _, _, xl_Malformed, by rfl⟩, sa_Malformed, ec_Malformed, tc_Malformed, kc_Malformed⟩, ⟨ga_Malformed, gg_Malformed, ec_Malformed, hc_Malformed⟩, ic_Malformed, ti_Malformed, ha_Malformed, hn_Malformed, ht_Malformed, hm_Malformed⟩,
      no_Malformed_at := no_Malformed_at,
      ex_Malformed_Malformed := ex_Malformed_Malformed,
      ex_Malformed_Oversized := ex_Malformed_Oversized,
      ex_Malformed_SaggarError := ex_Malformed_SaggarError,
      x_Oversized := ⟨⟨⟨_, _, _, _, _, _, _, _, _, _, _, _, _, _, _, xl_Oversized, by rfl⟩, sa_Oversized, ec_Oversized, tc_Oversized, kc_Oversized⟩, ⟨ga_Oversized, gg_Oversized, ec_Oversized, hc_Oversized⟩, ic_Oversized, ti_Oversized, ha_Oversized, hn_Oversized, ht_Oversized, hm_Oversized⟩,
      no_Oversized_limit := no_Oversized_limit,
      ex_Oversized_Malformed := ex_Oversized_Malformed,
      ex_Oversized_Oversized := ex_Oversized_Oversized,
      ex_Oversized_SaggarError := ex_Oversized_SaggarError,
      k_Malformed___init__ := k0,
      F_Malformed___init__ := fun_mk (st := s_Malformed___init__) l0 c0 k0,
      b_Malformed___init__ := (fun_mk (st := s_Malformed___init__) l0 c0 k0).binds (fun _ _ _ _ _ _ us hl => match us, hl with | [_, _], _ => rfl),
      k_Oversized___init__ := k1,
      F_Oversized___init__ := fun_mk (st := s_Oversized___init__) l1 c1 k1,
      b_Oversized___init__ := (fun_mk (st := s_Oversized___init__) l1 c1 k1).binds (fun _ _ _ _ _ _ us hl => match us, hl with | [_, _], _ => rfl),
      g_tokens_of := PySem.W.mg_of X G a2,
      k_tokens_of := k2,
      F_tokens_of := fun_mk (st := s_tokens_of) l2 c2 k2,
      b_tokens_of := (fun_mk (st := s_tokens_of) l2 c2 k2).binds (fun _ _ _ _ _ _ us hl => match us, hl with | [_], _ => rfl),
      g_skipped := PySem.W.mg_of X G a3,
      k_skipped := k3,
      F_skipped := fun_mk (st := s_skipped) l3 c3 k3,
      b_skipped := (fun_mk (st := s_skipped) l3 c3 k3).binds (fun _ _ _ _ _ _ us hl => match us, hl with | [_, _], _ => rfl),
      g_token_at := PySem.W.mg_of X G a4,
      k_token_at := k4,
      F_token_at := fun_mk (st := s_token_at) l4 c4 k4,
      b_token_at := (fun_mk (st := s_token_at) l4 c4 k4).binds (fun _ _ _ _ _ _ us hl => match us, hl with | [_, _], _ => rfl),
      g_named := PySem.W.mg_of X G a5,
      k_named := k5,
      F_named := fun_mk (st := s_named) l5 c5 k5,
      b_named := (fun_mk (st := s_named) l5 c5 k5).binds (fun _ _ _ _ _ _ us hl => match us, hl with | [_, _], _ => rfl),
      g_numbered := PySem.W.mg_of X G a6,
      k_numbered := k6,
      F_numbered := fun_mk (st := s_numbered) l6 c6 k6,
      b_numbered := (fun_mk (st := s_numbered) l6 c6 k6).binds (fun _ _ _ _ _ _ us hl => match us, hl with | [_, _], _ => rfl),
      g_hashed := PySem.W.mg_of X G a7,
      k_hashed := k7,
      F_hashed := fun_mk (st := s_hashed) l7 c7 k7,
      b_hashed := (fun_mk (st := s_hashed) l7 c7 k7).binds (fun _ _ _ _ _ _ us hl => match us, hl with | [_, _], _ => rfl),
      g_quoted := PySem.W.mg_of X G a8,
      k_quoted := k8,
      F_quoted := fun_mk (st := s_quoted) l8 c8 k8,
      b_quoted := (fun_mk (st := s_quoted) l8 c8 k8).binds (fun _ _ _ _ _ _ us hl => match us, hl with | [_, _], _ => rfl),
      g_signed := PySem.W.mg_of X G a9,
      k_signed := k9,
      F_signed := fun_mk (st := s_signed) l9 c9 k9,
      b_signed := (fun_mk (st := s_signed) l9 c9 k9).binds (fun _ _ _ _ _ _ us hl => match us, hl with | [_, _], _ => rfl),
      g_letters_end := PySem.W.mg_of X G a10,
      k_letters_end := k10,
      F_letters_end := fun_mk (st := s_letters_end) l10 c10 k10,
      b_letters_end := (fun_mk (st := s_letters_end) l10 c10 k10).binds (fun _ _ _ _ _ _ us hl => match us, hl with | [_, _], _ => rfl),
      g_name_end := PySem.W.mg_of X G a11,
      k_name_end := k11,
      F_name_end := fun_mk (st := s_name_end) l11 c11 k11,
      b_name_end := (fun_mk (st := s_name_end) l11 c11 k11).binds (fun _ _ _ _ _ _ us hl => match us, hl with | [_, _], _ => rfl),
      g_keyword_end := PySem.W.mg_of X G a12,
      k_keyword_end := k12,
      F_keyword_end := fun_mk (st := s_keyword_end) l12 c12 k12,
      b_keyword_end := (fun_mk (st := s_keyword_end) l12 c12 k12).binds (fun _ _ _ _ _ _ us hl => match us, hl with | [_, _], _ => rfl),
      g_keywords_end := PySem.W.mg_of X G a13,
      k_keywords_end := k13,
      F_keywords_end := fun_mk (st := s_keywords_end) l13 c13 k13,
      b_keywords_end := (fun_mk (st := s_keywords_end) l13 c13 k13).binds (fun _ _ _ _ _ _ us hl => match us, hl with | [_, _], _ => rfl),
      g__law_start := PySem.W.mg_of X G a14,
      k__law_start := k14,
      F__law_start := fun_mk (st := s__law_start) l14 c14 k14,
      b__law_start := (fun_mk (st := s__law_start) l14 c14 k14).binds (fun _ _ _ _ _ _ us hl => match us, hl with | [_], _ => rfl),
      g__law_pick := PySem.W.mg_of X G a15,
      k__law_pick := k15,
      F__law_pick := fun_mk (st := s__law_pick) l15 c15 k15,
      b__law_pick := (fun_mk (st := s__law_pick) l15 c15 k15).binds (fun _ _ _ _ _ _ us hl => match us, hl with | [_, _], _ => rfl),
      g__law_letters := PySem.W.mg_of X G a16,
      k__law_letters := k16,
      F__law_letters := fun_mk (st := s__law_letters) l16 c16 k16,
      b__law_letters := (fun_mk (st := s__law_letters) l16 c16 k16).binds (fun _ _ _ _ _ _ us hl => match us, hl with | [], _ => rfl),
      g__law_source := PySem.W.mg_of X G a17,
      k__law_source := k17,
      F__law_source := fun_mk (st := s__law_source) l17 c17 k17,
      b__law_source := (fun_mk (st := s__law_source) l17 c17 k17).binds (fun _ _ _ _ _ _ us hl => match us, hl with | [_], _ => rfl),
      g__law_run := PySem.W.mg_of X G a18,
      k__law_run := k18,
      F__law_run := fun_mk (st := s__law_run) l18 c18 k18,
      b__law_run := (fun_mk (st := s__law_run) l18 c18 k18).binds (fun _ _ _ _ _ _ us hl => match us, hl with | [_, _, _], _ => rfl),
      g__law_word_end := PySem.W.mg_of X G a19,
      k__law_word_end := k19,
      F__law_word_end := fun_mk (st := s__law_word_end) l19 c19 k19,
      b__law_word_end := (fun_mk (st := s__law_word_end) l19 c19 k19).binds (fun _ _ _ _ _ _ us hl => match us, hl with | [_, _], _ => rfl),
      g__law_is_letter := PySem.W.mg_of X G a20,
      k__law_is_letter := k20,
      F__law_is_letter := fun_mk (st := s__law_is_letter) l20 c20 k20,
      b__law_is_letter := (fun_mk (st := s__law_is_letter) l20 c20 k20).binds (fun _ _ _ _ _ _ us hl => match us, hl with | [_, _], _ => rfl),
      g__law_name_end := PySem.W.mg_of X G a21,
      k__law_name_end := k21,
      F__law_name_end := fun_mk (st := s__law_name_end) l21 c21 k21,
      b__law_name_end := (fun_mk (st := s__law_name_end) l21 c21 k21).binds (fun _ _ _ _ _ _ us hl => match us, hl with | [_, _], _ => rfl),
      g__law_colon := PySem.W.mg_of X G a22,
      k__law_colon := k22,
      F__law_colon := fun_mk (st := s__law_colon) l22 c22 k22,
      b__law_colon := (fun_mk (st := s__law_colon) l22 c22 k22).binds (fun _ _ _ _ _ _ us hl => match us, hl with | [_, _], _ => rfl),
      g__law_skip := PySem.W.mg_of X G a23,
      k__law_skip := k23,
      F__law_skip := fun_mk (st := s__law_skip) l23 c23 k23,
      b__law_skip := (fun_mk (st := s__law_skip) l23 c23 k23).binds (fun _ _ _ _ _ _ us hl => match us, hl with | [_, _], _ => rfl),
      g__law_symbol_end := PySem.W.mg_of X G a24,
      k__law_symbol_end := k24,
      F__law_symbol_end := fun_mk (st := s__law_symbol_end) l24 c24 k24,
      b__law_symbol_end := (fun_mk (st := s__law_symbol_end) l24 c24 k24).binds (fun _ _ _ _ _ _ us hl => match us, hl with | [_, _, _], _ => rfl),
      g__law_token_end := PySem.W.mg_of X G a25,
      k__law_token_end := k25,
      F__law_token_end := fun_mk (st := s__law_token_end) l25 c25 k25,
      b__law_token_end := (fun_mk (st := s__law_token_end) l25 c25 k25).binds (fun _ _ _ _ _ _ us hl => match us, hl with | [_, _, _, _], _ => rfl),
      g__law_is_token := PySem.W.mg_of X G a26,
      k__law_is_token := k26,
      F__law_is_token := fun_mk (st := s__law_is_token) l26 c26 k26,
      b__law_is_token := (fun_mk (st := s__law_is_token) l26 c26 k26).binds (fun _ _ _ _ _ _ us hl => match us, hl with | [_], _ => rfl),
      g__law_tiles := PySem.W.mg_of X G a27,
      k__law_tiles := k27,
      F__law_tiles := fun_mk (st := s__law_tiles) l27 c27 k27,
      b__law_tiles := (fun_mk (st := s__law_tiles) l27 c27 k27).binds (fun _ _ _ _ _ _ us hl => match us, hl with | [_, _, _], _ => rfl),
      g__law_misfit := PySem.W.mg_of X G a28,
      k__law_misfit := k28,
      F__law_misfit := fun_mk (st := s__law_misfit) l28 c28 k28,
      b__law_misfit := (fun_mk (st := s__law_misfit) l28 c28 k28).binds (fun _ _ _ _ _ _ us hl => match us, hl with | [_, _], _ => rfl),
      g_law := PySem.W.mg_of X G a29,
      k_law := k29,
      F_law := fun_mk (st := s_law) l29 c29 k29,
      b_law := (fun_mk (st := s_law) l29 c29 k29).binds (fun _ _ _ _ _ _ us hl => match us, hl with | [_], _ => rfl),
      c_LONGEST_SOURCE := PySem.W.mg_of X G q_LONGEST_SOURCE,
      c_LONGEST_NAME := PySem.W.mg_of X G q_LONGEST_NAME,
      c_MOST_DIGITS := PySem.W.mg_of X G q_MOST_DIGITS,
      c_BLANKS := PySem.W.mg_of X G q_BLANKS,
      c_LETTERS := PySem.W.mg_of X G q_LETTERS,
      c_DIGITS := PySem.W.mg_of X G q_DIGITS,
      c_SIGNS := PySem.W.mg_of X G q_SIGNS,
      c_MARKS := PySem.W.mg_of X G q_MARKS,
      z_ValueError := PySem.W.mg_none_of X G z_ValueError,
      z_abs := PySem.W.mg_none_of X G z_abs,
      z_bool := PySem.W.mg_none_of X G z_bool,
      z_int := PySem.W.mg_none_of X G z_int,
      z_isinstance := PySem.W.mg_none_of X G z_isinstance,
      z_len := PySem.W.mg_none_of X G z_len,
      z_list := PySem.W.mg_none_of X G z_list,
      z_min := PySem.W.mg_none_of X G z_min,
      z_range := PySem.W.mg_none_of X G z_range,
      z_str := PySem.W.mg_none_of X G z_str,
      z_tuple := PySem.W.mg_none_of X G z_tuple }
  exact ⟨_, fun s v => .of_eq rfl, fun base _ _ => ok_law T⟩
theorem walk {l : PySem.W.OpenLaw} {q : Program} {loose : List Str} {XP : (Str → Option Value) → Heap → Prop} {YP : World → Heap → Prop} {d : DefRec} {K : Params → PySem.W.Frag} (hn : l.most = some 63) (hdf : d.params.defaults = [])
    (hY : ∀ (w : World) (h : Heap), YP w h → (K w.params).In h)
    (F : ∀ (w : World) (mg : Str → Option Value) (fa : Addr) (h : Heap), (K w.params).In h → h.Ns mainGlobals mg → mg d.name = some (.ref fa) →
      ∃ fd : FuncData, (∀ (s : Shared) (u : Value), BindsTo s fd ⟨[u], []⟩ [("script", u)]) ∧ ∀ base : Heap, (K w.params).In base → base.Ns mainGlobals mg → FnOk l.prog w (K w.params) mg base CX0 8 fa fd ["script"] (sp_law (K w.params))) :
    PySem.W.WalkO q loose XP YP l.row.toRowW d [] (fun f vs => PySem.call f vs) :=
  L2.walk_of (n := 63) (k := 8) (x := "script") (CX := fun _ => CX0) (sp := fun w => sp_law (K w.params)) hn (by decide) hdf ⟨rfl, by decide, by decide⟩ hY F (fun _ _ a ns hl _ hS => ⟨a, ns, rfl, hS, hl, fun _ => rfl⟩) fun _ _ _ _ _ z => z

end My
open PySem PySem.W PyProof.Rows
set_option maxRecDepth 100000 in
set_option maxHeartbeats 0 in
theorem PySem.Challenge.cw_saggar_k11_whole_texts_split_into_tokens_holds : PySem.Challenge.rw_saggar_k11_whole_texts_split_into_tokens.Holds := by
  w_on; o_law; k_head; (case hw => w_witness2)
  k_fill
  refine My.walk (l := PySem.Challenge.rw_saggar_k11_whole_texts_split_into_tokens) rfl rfl (fun w h Y => PySem.W.kIn_of Y) ?F
  case F =>
    intro w mg fa h KX G hmg
    refine' My.all_mk KX G hmg ?m_SaggarError ?m_Malformed ?m_Oversized ?xl_Malformed ?sa_Malformed ?ga_Malformed ?gg_Malformed ?ic_Malformed ?ti_Malformed ?kc_Malformed ?ec_Malformed ?tc_Malformed ?hc_Malformed ?ha_Malformed ?hn_Malformed ?ht_Malformed ?hm_Malformed ?no_Malformed_at ?ex_Malformed_Malformed ?ex_Malformed_Oversized ?ex_Malformed_SaggarError ?xl_Oversized ?sa_Oversized ?ga_Oversized ?gg_Oversized ?ic_Oversized ?ti_Oversized ?kc_Oversized ?ec_Oversized ?tc_Oversized ?hc_Oversized ?ha_Oversized ?hn_Oversized ?ht_Oversized ?hm_Oversized ?no_Oversized_limit ?ex_Oversized_Malformed ?ex_Oversized_Oversized ?ex_Oversized_SaggarError ?l0 ?c0 ?k0 ?l1 ?c1 ?k1 ?a2 ?l2 ?c2 ?k2 ?a3 ?l3 ?c3 ?k3 ?a4 ?l4 ?c4 ?k4 ?a5 ?l5 ?c5 ?k5 ?a6 ?l6 ?c6 ?k6 ?a7 ?l7 ?c7 ?k7 ?a8 ?l8 ?c8 ?k8 ?a9 ?l9 ?c9 ?k9 ?a10 ?l10 ?c10 ?k10 ?a11 ?l11 ?c11 ?k11 ?a12 ?l12 ?c12 ?k12 ?a13 ?l13 ?c13 ?k13 ?a14 ?l14 ?c14 ?k14 ?a15 ?l15 ?c15 ?k15 ?a16 ?l16 ?c16 ?k16 ?a17 ?l17 ?c17 ?k17 ?a18 ?l18 ?c18 ?k18 ?a19 ?l19 ?c19 ?k19 ?a20 ?l20 ?c20 ?k20 ?a21 ?l21 ?c21 ?k21 ?a22 ?l22 ?c22 ?k22 ?a23 ?l23 ?c23 ?k23 ?a24 ?l24 ?c24 ?k24 ?a25 ?l25 ?c25 ?k25 ?a26 ?l26 ?c26 ?k26 ?a27 ?l27 ?c27 ?k27 ?a28 ?l28 ?c28 ?k28 ?a29 ?l29 ?c29 ?k29 ?q_LONGEST_SOURCE ?q_LONGEST_NAME ?q_MOST_DIGITS ?q_BLANKS ?q_LETTERS ?q_DIGITS ?q_SIGNS ?q_MARKS ?z_ValueError ?z_abs ?z_bool ?z_int ?z_isinstance ?z_len ?z_list ?z_min ?z_range ?z_str ?z_tuple
    (case m_SaggarError => first | k_is | kit_is | kts_exm)
    (case m_Malformed => first | k_is | kit_is | kts_exm)
    (case m_Oversized => first | k_is | kit_is | kts_exm)
    (case xl_Malformed => first | k_is | kit_is | kts_exm)
    (case sa_Malformed => first | k_is | kit_is | kts_exm)
    (case ga_Malformed => first | k_is | kit_is | kts_exm)
    (case gg_Malformed => first | k_is | kit_is | kts_exm)
    (case ic_Malformed => first | k_is | kit_is | kts_exm)
    (case ti_Malformed => first | k_is | kit_is | kts_exm)
    (case kc_Malformed => first | k_is | kit_is | kts_exm)
    (case ec_Malformed => first | k_is | kit_is | kts_exm)
    (case tc_Malformed => first | k_is | kit_is | kts_exm)
    (case hc_Malformed => first | k_is | kit_is | kts_exm)
    (case ha_Malformed => first | k_is | kit_is | kts_exm)
    (case hn_Malformed => first | k_is | kit_is | kts_exm)
    (case ht_Malformed => first | k_is | kit_is | kts_exm)
    (case hm_Malformed => first | k_is | kit_is | kts_exm)
    (case no_Malformed_at => first | k_is | kit_is | kts_exm)
    (case ex_Malformed_Malformed => first | k_is | kit_is | kts_exm)
    (case ex_Malformed_Oversized => first | k_is | kit_is | kts_exm)
    (case ex_Malformed_SaggarError => first | k_is | kit_is | kts_exm)
    (case xl_Oversized => first | k_is | kit_is | kts_exm)
    (case sa_Oversized => first | k_is | kit_is | kts_exm)
    (case ga_Oversized => first | k_is | kit_is | kts_exm)
    (case gg_Oversized => first | k_is | kit_is | kts_exm)
    (case ic_Oversized => first | k_is | kit_is | kts_exm)
    (case ti_Oversized => first | k_is | kit_is | kts_exm)
    (case kc_Oversized => first | k_is | kit_is | kts_exm)
    (case ec_Oversized => first | k_is | kit_is | kts_exm)
    (case tc_Oversized => first | k_is | kit_is | kts_exm)
    (case hc_Oversized => first | k_is | kit_is | kts_exm)
    (case ha_Oversized => first | k_is | kit_is | kts_exm)
    (case hn_Oversized => first | k_is | kit_is | kts_exm)
    (case ht_Oversized => first | k_is | kit_is | kts_exm)
    (case hm_Oversized => first | k_is | kit_is | kts_exm)
    (case no_Oversized_limit => first | k_is | kit_is | kts_exm)
    (case ex_Oversized_Malformed => first | k_is | kit_is | kts_exm)
    (case ex_Oversized_Oversized => first | k_is | kit_is | kts_exm)
    (case ex_Oversized_SaggarError => first | k_is | kit_is | kts_exm)
    (case l0 => first | k_is | kit_is | kts_exm)
    (case c0 => first | k_is | kit_is | kts_exm)
    (case k0 => first | k_is | kit_is | kts_exm)
    (case l1 => first | k_is | kit_is | kts_exm)
    (case c1 => first | k_is | kit_is | kts_exm)
    (case k1 => first | k_is | kit_is | kts_exm)
    (case a2 => first | k_is | kit_is | kts_exm)
    (case l2 => first | k_is | kit_is | kts_exm)
    (case c2 => first | k_is | kit_is | kts_exm)
    (case k2 => first | k_is | kit_is | kts_exm)
    (case a3 => first | k_is | kit_is | kts_exm)
    (case l3 => first | k_is | kit_is | kts_exm)
    (case c3 => first | k_is | kit_is | kts_exm)
    (case k3 => first | k_is | kit_is | kts_exm)
    (case a4 => first | k_is | kit_is | kts_exm)
    (case l4 => first | k_is | kit_is | kts_exm)
    (case c4 => first | k_is | kit_is | kts_exm)
    (case k4 => first | k_is | kit_is | kts_exm)
    (case a5 => first | k_is | kit_is | kts_exm)
    (case l5 => first | k_is | kit_is | kts_exm)
    (case c5 => first | k_is | kit_is | kts_exm)
    (case k5 => first | k_is | kit_is | kts_exm)
    (case a6 => first | k_is | kit_is | kts_exm)
    (case l6 => first | k_is | kit_is | kts_exm)
    (case c6 => first | k_is | kit_is | kts_exm)
    (case k6 => first | k_is | kit_is | kts_exm)
    (case a7 => first | k_is | kit_is | kts_exm)
    (case l7 => first | k_is | kit_is | kts_exm)
    (case c7 => first | k_is | kit_is | kts_exm)
    (case k7 => first | k_is | kit_is | kts_exm)
    (case a8 => first | k_is | kit_is | kts_exm)
    (case l8 => first | k_is | kit_is | kts_exm)
    (case c8 => first | k_is | kit_is | kts_exm)
    (case k8 => first | k_is | kit_is | kts_exm)
    (case a9 => first | k_is | kit_is | kts_exm)
    (case l9 => first | k_is | kit_is | kts_exm)
    (case c9 => first | k_is | kit_is | kts_exm)
    (case k9 => first | k_is | kit_is | kts_exm)
    (case a10 => first | k_is | kit_is | kts_exm)
    (case l10 => first | k_is | kit_is | kts_exm)
    (case c10 => first | k_is | kit_is | kts_exm)
    (case k10 => first | k_is | kit_is | kts_exm)
    (case a11 => first | k_is | kit_is | kts_exm)
    (case l11 => first | k_is | kit_is | kts_exm)
    (case c11 => first | k_is | kit_is | kts_exm)
    (case k11 => first | k_is | kit_is | kts_exm)
    (case a12 => first | k_is | kit_is | kts_exm)
    (case l12 => first | k_is | kit_is | kts_exm)
    (case c12 => first | k_is | kit_is | kts_exm)
    (case k12 => first | k_is | kit_is | kts_exm)
    (case a13 => first | k_is | kit_is | kts_exm)
    (case l13 => first | k_is | kit_is | kts_exm)
    (case c13 => first | k_is | kit_is | kts_exm)
    (case k13 => first | k_is | kit_is | kts_exm)
    (case a14 => first | k_is | kit_is | kts_exm)
    (case l14 => first | k_is | kit_is | kts_exm)
    (case c14 => first | k_is | kit_is | kts_exm)
    (case k14 => first | k_is | kit_is | kts_exm)
    (case a15 => first | k_is | kit_is | kts_exm)
    (case l15 => first | k_is | kit_is | kts_exm)
    (case c15 => first | k_is | kit_is | kts_exm)
    (case k15 => first | k_is | kit_is | kts_exm)
    (case a16 => first | k_is | kit_is | kts_exm)
    (case l16 => first | k_is | kit_is | kts_exm)
    (case c16 => first | k_is | kit_is | kts_exm)
    (case k16 => first | k_is | kit_is | kts_exm)
    (case a17 => first | k_is | kit_is | kts_exm)
    (case l17 => first | k_is | kit_is | kts_exm)
    (case c17 => first | k_is | kit_is | kts_exm)
    (case k17 => first | k_is | kit_is | kts_exm)
    (case a18 => first | k_is | kit_is | kts_exm)
    (case l18 => first | k_is | kit_is | kts_exm)
    (case c18 => first | k_is | kit_is | kts_exm)
    (case k18 => first | k_is | kit_is | kts_exm)
    (case a19 => first | k_is | kit_is | kts_exm)
    (case l19 => first | k_is | kit_is | kts_exm)
    (case c19 => first | k_is | kit_is | kts_exm)
    (case k19 => first | k_is | kit_is | kts_exm)
    (case a20 => first | k_is | kit_is | kts_exm)
    (case l20 => first | k_is | kit_is | kts_exm)
    (case c20 => first | k_is | kit_is | kts_exm)
    (case k20 => first | k_is | kit_is | kts_exm)
    (case a21 => first | k_is | kit_is | kts_exm)
    (case l21 => first | k_is | kit_is | kts_exm)
    (case c21 => first | k_is | kit_is | kts_exm)
    (case k21 => first | k_is | kit_is | kts_exm)
    (case a22 => first | k_is | kit_is | kts_exm)
    (case l22 => first | k_is | kit_is | kts_exm)
    (case c22 => first | k_is | kit_is | kts_exm)
    (case k22 => first | k_is | kit_is | kts_exm)
    (case a23 => first | k_is | kit_is | kts_exm)
    (case l23 => first | k_is | kit_is | kts_exm)
    (case c23 => first | k_is | kit_is | kts_exm)
    (case k23 => first | k_is | kit_is | kts_exm)
    (case a24 => first | k_is | kit_is | kts_exm)
    (case l24 => first | k_is | kit_is | kts_exm)
    (case c24 => first | k_is | kit_is | kts_exm)
    (case k24 => first | k_is | kit_is | kts_exm)
    (case a25 => first | k_is | kit_is | kts_exm)
    (case l25 => first | k_is | kit_is | kts_exm)
    (case c25 => first | k_is | kit_is | kts_exm)
    (case k25 => first | k_is | kit_is | kts_exm)
    (case a26 => first | k_is | kit_is | kts_exm)
    (case l26 => first | k_is | kit_is | kts_exm)
    (case c26 => first | k_is | kit_is | kts_exm)
    (case k26 => first | k_is | kit_is | kts_exm)
    (case a27 => first | k_is | kit_is | kts_exm)
    (case l27 => first | k_is | kit_is | kts_exm)
    (case c27 => first | k_is | kit_is | kts_exm)
    (case k27 => first | k_is | kit_is | kts_exm)
    (case a28 => first | k_is | kit_is | kts_exm)
    (case l28 => first | k_is | kit_is | kts_exm)
    (case c28 => first | k_is | kit_is | kts_exm)
    (case k28 => first | k_is | kit_is | kts_exm)
    (case a29 => first | k_is | kit_is | kts_exm)
    (case l29 => first | k_is | kit_is | kts_exm)
    (case c29 => first | k_is | kit_is | kts_exm)
    (case k29 => first | k_is | kit_is | kts_exm)
    (case q_LONGEST_SOURCE => first | k_is | kit_is | kts_exm)
    (case q_LONGEST_NAME => first | k_is | kit_is | kts_exm)
    (case q_MOST_DIGITS => first | k_is | kit_is | kts_exm)
    (case q_BLANKS => first | k_is | kit_is | kts_exm)
    (case q_LETTERS => first | k_is | kit_is | kts_exm)
    (case q_DIGITS => first | k_is | kit_is | kts_exm)
    (case q_SIGNS => first | k_is | kit_is | kts_exm)
    (case q_MARKS => first | k_is | kit_is | kts_exm)
    (case z_ValueError => first | k_is | kit_is | kts_exm)
    (case z_abs => first | k_is | kit_is | kts_exm)
    (case z_bool => first | k_is | kit_is | kts_exm)
    (case z_int => first | k_is | kit_is | kts_exm)
    (case z_isinstance => first | k_is | kit_is | kts_exm)
    (case z_len => first | k_is | kit_is | kts_exm)
    (case z_list => first | k_is | kit_is | kts_exm)
    (case z_min => first | k_is | kit_is | kts_exm)
    (case z_range => first | k_is | kit_is | kts_exm)
    (case z_str => first | k_is | kit_is | kts_exm)
    (case z_tuple => first | k_is | kit_is | kts_exm)
#print axioms PySem.Challenge.cw_saggar_k11_whole_texts_split_into_tokens_holds
