import PyProof.Rows.All
import Wide.All
import OpenK.AllK
import Wide.FinOn
import HandS.ForMost
import HandS.More
import HandS.IsInst
import HandS.Bytes
import HandS.Walk
import HandS.TupAny
import HandS.Style
import HandS.SortKw
import KE.GoesEnum
import KE.KMinKey
import HandS.Text
import HandS.Star
import HandS.RaiseMore
import HandS.More
import HandS.TupAny
import HandS.Steps
import HandS.ToBytes
import HandS.Exc
import HandS.ExcIs
import HandS.ExcField
import HandS.TryOnly
import HandS.Lambda
import HandS.EndTab
import HandS.FStr
import HandS.WordsExc
import KE.KExcSuper
import KE.KExcIs
import PySem.Challenge.RW_patchover_k62_patch_texts_refused
set_option Elab.async false
set_option linter.all false
set_option maxRecDepth 100000
set_option maxHeartbeats 4000000
namespace My
open PySem PySem.Spec PyProof.Rows L2
/-! ### the text by places -/
def top (i : Nat) : Stmt := PySem.Challenge.pw_patchover_k62_patch_texts_refused.main.body.getD i (.Pass ⟨0, 0, 0, 0⟩)
abbrev s_bytes_of : Stmt := top 21
theorem sc_bytes_of : FnScope ["numbers", "number"] ["numbers"] (defScope s_bytes_of) := ⟨rfl, rfl, rfl, by decide +kernel, rfl, by decide +kernel, by decide +kernel⟩
abbrev s_is_number : Stmt := top 22
theorem sc_is_number : FnScope ["what", "least", "most"] ["what", "least", "most"] (defScope s_is_number) := ⟨rfl, rfl, rfl, by decide +kernel, rfl, by decide +kernel, by decide +kernel⟩
abbrev s_can_be : Stmt := top 23
theorem sc_can_be : FnScope ["piece", "word", "some", "first", "many"] ["piece"] (defScope s_can_be) := ⟨rfl, rfl, rfl, by decide +kernel, rfl, by decide +kernel, by decide +kernel⟩
abbrev s_length_of : Stmt := top 24
theorem sc_length_of : FnScope ["piece"] ["piece"] (defScope s_length_of) := ⟨rfl, rfl, rfl, by decide +kernel, rfl, by decide +kernel, by decide +kernel⟩
abbrev s_check_patch : Stmt := top 25
theorem sc_check_patch : FnScope ["patch", "total", "at", "piece"] ["patch"] (defScope s_check_patch) := ⟨rfl, rfl, rfl, by decide +kernel, rfl, by decide +kernel, by decide +kernel⟩
abbrev s_written : Stmt := top 29
theorem sc_written : FnScope ["patch", "piece"] ["patch"] (defScope s_written) := ⟨rfl, rfl, rfl, by decide +kernel, rfl, by decide +kernel, by decide +kernel⟩
abbrev s_read : Stmt := top 30
theorem sc_read : FnScope ["text", "pieces", "row"] ["text"] (defScope s_read) := ⟨rfl, rfl, rfl, by decide +kernel, rfl, by decide +kernel, by decide +kernel⟩
abbrev s_rows_of : Stmt := top 31
theorem sc_rows_of : FnScope ["text"] ["text"] (defScope s_rows_of) := ⟨rfl, rfl, rfl, by decide +kernel, rfl, by decide +kernel, by decide +kernel⟩
abbrev s_row_of : Stmt := top 32
theorem sc_row_of : FnScope ["things", "words", "thing", "byte"] ["things"] (defScope s_row_of) := ⟨rfl, rfl, rfl, by decide +kernel, rfl, by decide +kernel, by decide +kernel⟩
abbrev s_piece_of : Stmt := top 33
theorem sc_piece_of : FnScope ["words", "word"] ["words"] (defScope s_piece_of) := ⟨rfl, rfl, rfl, by decide +kernel, rfl, by decide +kernel, by decide +kernel⟩
abbrev s_with_things : Stmt := top 34
theorem sc_with_things : FnScope ["first", "things"] ["first", "things"] (defScope s_with_things) := ⟨rfl, rfl, rfl, by decide +kernel, rfl, by decide +kernel, by decide +kernel⟩
abbrev s_with_bytes : Stmt := top 35
theorem sc_with_bytes : FnScope ["ahead", "words", "figures", "numbers", "word", "number"] ["ahead", "words", "figures"] (defScope s_with_bytes) := ⟨rfl, rfl, rfl, by decide +kernel, rfl, by decide +kernel, by decide +kernel⟩
abbrev s_number_of : Stmt := top 36
theorem sc_number_of : FnScope ["word", "figures", "sign"] ["word", "figures"] (defScope s_number_of) := ⟨rfl, rfl, rfl, by decide +kernel, rfl, by decide +kernel, by decide +kernel⟩
abbrev s_makes : Stmt := top 38
theorem sc_makes : FnScope ["patch", "piece"] ["patch"] (defScope s_makes) := ⟨rfl, rfl, rfl, by decide +kernel, rfl, by decide +kernel, by decide +kernel⟩
abbrev s_law_taken : Stmt := top 40
theorem sc_law_taken : FnScope ["_law_row", "_law_many", "_law_found", "_law_cell"] ["_law_row", "_law_many"] (defScope s_law_taken) := ⟨rfl, rfl, rfl, by decide +kernel, rfl, by decide +kernel, by decide +kernel⟩
abbrev s_law_word : Stmt := top 41
theorem sc_law_word : FnScope ["_law_work", "e", "_law_kinds", "_law_at", "_law_words"] ["_law_work"] (defScope s_law_word) := ⟨rfl, rfl, rfl, by decide +kernel, rfl, by decide +kernel, by decide +kernel⟩
abbrev s_law_patch : Stmt := top 42
theorem sc_law_patch : FnScope ["_law_row", "_law_most", "_law_pieces", "_law_total", "_law_k", "_law_way_on", "_law_long", "_law_some", "_law_j", "_law_begin"] ["_law_row", "_law_most"] (defScope s_law_patch) := ⟨rfl, rfl, rfl, by decide +kernel, rfl, by decide +kernel, by decide +kernel⟩
abbrev s_law_number : Stmt := top 43
theorem sc_law_number : FnScope ["_law_word_here", "_law_sign"] ["_law_word_here"] (defScope s_law_number) := ⟨rfl, rfl, rfl, by decide +kernel, rfl, by decide +kernel, by decide +kernel⟩
abbrev s_law_due : Stmt := top 44
theorem sc_law_due : FnScope ["_law_text", "_law_pieces", "_law_lines", "_law_k", "_law_words", "_law_numbers", "_law_word_here"] ["_law_text"] (defScope s_law_due) := ⟨rfl, rfl, rfl, by decide +kernel, rfl, by decide +kernel, by decide +kernel⟩
abbrev s_law_changed : Stmt := top 45
theorem sc_law_changed : FnScope ["_law_row", "_law_text", "_law_at", "_law_way_on", "_law_sign", "_law_lines", "_law_k", "_law_odd", "_law_twice"] ["_law_row", "_law_text"] (defScope s_law_changed) := ⟨rfl, rfl, rfl, by decide +kernel, rfl, by decide +kernel, by decide +kernel⟩
abbrev s_law : Stmt := top 46
theorem sc_law : FnScope ["_law_script", "_law_row", "_law_turn", "_law_text", "_law_change", "_law_one", "_law_due_here", "_law_word_here"] ["_law_script"] (defScope s_law) := ⟨rfl, rfl, rfl, by decide +kernel, rfl, by decide +kernel, by decide +kernel⟩
structure Df (K : PySem.W.Frag) (mg : Str → Option Value) (x : Str) (st : Stmt) (ps : List Str) where
  f : Addr
  fd : FuncData
  F : Fun K x x st f fd
  m : mg x = some (.ref f)
  b : Binds K fd ps []
structure All (K : PySem.W.Frag) (mg : Str → Option Value) where
  d_bytes_of : Df K mg "bytes_of" s_bytes_of ["numbers"]
  d_is_number : Df K mg "is_number" s_is_number ["what", "least", "most"]
  d_can_be : Df K mg "can_be" s_can_be ["piece"]
  d_length_of : Df K mg "length_of" s_length_of ["piece"]
  d_check_patch : Df K mg "check_patch" s_check_patch ["patch"]
  d_written : Df K mg "written" s_written ["patch"]
  d_read : Df K mg "read" s_read ["text"]
  d_rows_of : Df K mg "rows_of" s_rows_of ["text"]
  d_row_of : Df K mg "row_of" s_row_of ["things"]
  d_piece_of : Df K mg "piece_of" s_piece_of ["words"]
  d_with_things : Df K mg "with_things" s_with_things ["first", "things"]
  d_with_bytes : Df K mg "with_bytes" s_with_bytes ["ahead", "words", "figures"]
  d_number_of : Df K mg "number_of" s_number_of ["word", "figures"]
  d_makes : Df K mg "makes" s_makes ["patch"]
  d_law_taken : Df K mg "_law_taken" s_law_taken ["_law_row", "_law_many"]
  d_law_word : Df K mg "_law_word" s_law_word ["_law_work"]
  d_law_patch : Df K mg "_law_patch" s_law_patch ["_law_row", "_law_most"]
  d_law_number : Df K mg "_law_number" s_law_number ["_law_word_here"]
  d_law_due : Df K mg "_law_due" s_law_due ["_law_text"]
  d_law_changed : Df K mg "_law_changed" s_law_changed ["_law_row", "_law_text"]
  t_MOST : Tok
  c_MOST : mg "MOST" = some (.int 200 t_MOST)
  t_LAST_BYTE : Tok
  c_LAST_BYTE : mg "LAST_BYTE" = some (.int 255 t_LAST_BYTE)
  t_FIGURES : Tok
  c_FIGURES : mg "FIGURES" = some (.str "0123456789" t_FIGURES)
  t_FEW : Tok
  c_FEW : mg "FEW" = some (.int 3 t_FEW)
  k_PatchError : Addr
  m_PatchError : mg "PatchError" = some (.ref k_PatchError)
  k_BadEdition : Addr
  m_BadEdition : mg "BadEdition" = some (.ref k_BadEdition)
  k_BadPatch : Addr
  m_BadPatch : mg "BadPatch" = some (.ref k_BadPatch)
  k_BadCount : Addr
  m_BadCount : mg "BadCount" = some (.ref k_BadCount)
  k_TooMany : Addr
  m_TooMany : mg "TooMany" = some (.ref k_TooMany)
  k_Asleep : Addr
  m_Asleep : mg "Asleep" = some (.ref k_Asleep)
  k_Awake : Addr
  m_Awake : mg "Awake" = some (.ref k_Awake)
  k_BadName : Addr
  m_BadName : mg "BadName" = some (.ref k_BadName)
  k_Known : Addr
  m_Known : mg "Known" = some (.ref k_Known)
  k_NoName : Addr
  m_NoName : mg "NoName" = some (.ref k_NoName)
  k_Around : Addr
  m_Around : mg "Around" = some (.ref k_Around)
  k_InUse : Addr
  m_InUse : mg "InUse" = some (.ref k_InUse)
  k_NoDevice : Addr
  m_NoDevice : mg "NoDevice" = some (.ref k_NoDevice)
  k_BadDeed : Addr
  m_BadDeed : mg "BadDeed" = some (.ref k_BadDeed)
  k_BadImage : Addr
  m_BadImage : mg "BadImage" = some (.ref k_BadImage)
  k_BadText : Addr
  m_BadText : mg "BadText" = some (.ref k_BadText)
  k_Halted : Addr
  m_Halted : mg "Halted" = some (.ref k_Halted)
  b_ValueError : mg "ValueError" = none
  b_all : mg "all" = none
  b_bool : mg "bool" = none
  b_bytes : mg "bytes" = none
  b_enumerate : mg "enumerate" = none
  b_int : mg "int" = none
  b_isinstance : mg "isinstance" = none
  b_len : mg "len" = none
  b_max : mg "max" = none
  b_min : mg "min" = none
  b_range : mg "range" = none
  b_str : mg "str" = none
  b_sum : mg "sum" = none
  b_tuple : mg "tuple" = none
/-! ### rules within a comprehension's block -/
theorem ixlK {X : Cx} {K : PySem.W.Frag} (h : X.K = K) : IxR X (rIxL K) := by subst h; exact ix_list
theorem ixtK {X : Cx} {K : PySem.W.Frag} (h : X.K = K) : IxR X (rIxT K) := by subst h; exact ix_tup
theorem ixsK {X : Cx} {K : PySem.W.Frag} (h : X.K = K) : IxR X (rIx K) := by subst h; exact ix_seq
theorem lenK {X : Cx} {K : PySem.W.Frag} (h : X.K = K) : CallR X (.builtin "len") (fun xs H Q => ∃ x n, xs = [x] ∧ LenV K x H n ∧ Q (.int n) H) := by subst h; exact call_len
theorem pg_tupK {X : Cx} {K : PySem.W.Frag} {es : List Expr} {k : Nat} {t : TGs} {n : Nat} {pos : Pos} (hK : X.K = K) (hc : X.calm = true) (h : PGs X es t)
    (hn : (assignEach es X.env).length = n := by rfl) (hst : (assignEach es X.env).findIdx? (·.1) = none := by rfl) : PG X (.Tuple es k pos) (gTup K n t) := by subst hK; exact pg_tup hc h hn hst
/-! ### heaps -/
/-- all but d is as it was -/
def But (d : Addr) (H H' : Hp) : Prop := ∀ b o, b ≠ d → H b = some o → H' b = some o
theorem But.refl (d : Addr) (H : Hp) : But d H H := fun _ _ _ h => h
theorem But.trans {d : Addr} {H H1 H2 : Hp} (a : But d H H1) (b : But d H1 H2) : But d H H2 := fun c o n h => b c o n (a c o n h)
theorem Same.but {d : Addr} {H H' : Hp} (a : Same H H') : But d H H' := fun c o _ h => a c o h
theorem But.put {d : Addr} {H : Hp} {o : HO} : But d H (upd H d o) := fun c u n h => by rw [upd_ne n]; exact h
theorem Same.new {p : Addr} {H : Hp} {o : HO} (n : H p = none) : Same H (upd H p o) := fun c u h => by rw [upd_ne (ne_of_none h n)]; exact h
theorem But.new {d p : Addr} {H : Hp} {o : HO} (n : H p = none) : But d H (upd H p o) := Same.but (Same.new n)
theorem But.at {d p : Addr} {H H' : Hp} {o u : HO} (b : But d H H') (hd : H d = some u) (h : H p = some o) (hn : o ≠ u) : H' p = some o := b p o (ne_of h hd hn) h
theorem But.free {d p : Addr} {H H' : Hp} {u : HO} (b : But d H H') (hd : H d = some u) (h : H' d = some u ∨ ∃ u', H' d = some u') (n : H' p = none) : H p = none := by
  cases e : H p with
  | none => rfl
  | some o =>
    by_cases hp : p = d
    · subst hp
      rcases h with h | ⟨_, h⟩ <;> (rw [n] at h; cases h)
    · rw [b p o hp e] at n; cases n
theorem tup_lst {xs ys : List V} : HO.tup xs ≠ HO.lst ys := by intro z; cases z
theorem sizeS {n : Nat} (h : n ≤ 100000) : n ≤ sizeLine := by rw [sizeLine_eq]; omega
theorem sizeL {n : Nat} (h : n ≤ 100000) : n < sizeLine := by rw [sizeLine_eq]; omega
/-! ### the dice -/
structure Dice (K : PySem.W.Frag) (a : Addr) (ns : List Int) (H : Hp) (d : Addr) : Prop where
  sq : SqL K H a (ns.map V.int)
  len : ns.length ≤ 63
  ex : ∃ p m g : Int, 0 ≤ p ∧ H d = some (.lst [.ref a, .int p, .int m, .int g])
theorem sq_but {K : PySem.W.Frag} {H H' : Hp} {a d : Addr} {ns : List Int} {x : Addr} {xs : List V} (b : But d H H') (hd : H d = some (.lst (.ref x :: xs))) (h : SqL K H a (ns.map V.int)) : SqL K H' a (ns.map V.int) := by
  rcases h with (h | ⟨o, h⟩) | h
  · refine .inl (.inl (b.at hd h ?_))
    intro z
    cases ns with
    | nil => cases z
    | cons n r => cases z
  · exact .inl (.inr ⟨o, b.at hd h (by intro z; cases z)⟩)
  · exact .inr h
section
variable {K : PySem.W.Frag} {a : Addr} {ns : List Int} {d : Addr}
theorem Dice.same {H H' : Hp} (D : Dice K a ns H d) (s : Same H H') : Dice K a ns H' d := by
  obtain ⟨h1, h2, p, m, g, h3, h4⟩ := D
  exact ⟨s.seq h1, h2, p, m, g, h3, s _ _ h4⟩
/-- the dice's list is no tuple, no list of ints -/
theorem Dice.is {H : Hp} (D : Dice K a ns H d) : ∃ xs, H d = some (.lst (.ref a :: xs)) := by
  obtain ⟨h1, h2, p, m, g, h3, h4⟩ := D
  exact ⟨_, h4⟩
theorem Dice.put {H : Hp} {p m g p' m' g' : Int} (h1 : SqL K H a (ns.map V.int)) (h2 : ns.length ≤ 63) (h3 : 0 ≤ p') (h4 : H d = some (.lst [.ref a, .int p, .int m, .int g])) :
    Dice K a ns (upd H d (.lst [.ref a, .int p', .int m', .int g'])) d :=
  ⟨sq_but But.put h4 h1, h2, p', m', g', h3, upd_same⟩
theorem tup_but {H H' : Hp} {p : Addr} {xs : List V} (D : Dice K a ns H d) (b : But d H H') (h : H p = some (.tup xs)) : H' p = some (.tup xs) := by
  obtain ⟨ys, e⟩ := D.is
  exact b.at e h tup_lst
theorem ints_but {H H' : Hp} {p : Addr} {ms : List Int} (D : Dice K a ns H d) (b : But d H H') (h : H p = some (.lst (ms.map V.int))) : H' p = some (.lst (ms.map V.int)) := by
  obtain ⟨ys, e⟩ := D.is
  refine b.at e h ?_
  intro z
  cases ms with
  | nil => cases z
  | cons n r => cases z
theorem none_but {H H' : Hp} {p : Addr} (D : Dice K a ns H d) (D' : Dice K a ns H' d) (b : But d H H') (h : H' p = none) : H p = none := by
  obtain ⟨ys, e⟩ := D.is
  obtain ⟨ys', e'⟩ := D'.is
  exact b.free e (.inr ⟨_, e'⟩) h
theorem Dice.ne {H : Hp} {p : Addr} (D : Dice K a ns H d) (h : H p = none) : p ≠ d := by
  obtain ⟨ys, e⟩ := D.is
  exact (ne_of_none e h).symm
/-- what was made since H0 may be changed -/
theorem But.fresh {H0 H : Hp} {p : Addr} {o : HO} (b : But d H0 H) (h : H0 p = none) : But d H0 (upd H p o) := fun c u n e => by rw [upd_ne (ne_of_none e h)]; exact b c u n e
theorem Dice.fresh {H0 H : Hp} {p : Addr} {o : HO} (D0 : Dice K a ns H0 d) (b : But d H0 H) (h : H0 p = none) (D : Dice K a ns H d) : Dice K a ns (upd H p o) d := by
  obtain ⟨ys, e⟩ := D0.is
  obtain ⟨h1, h2, q, m, g, h3, h4⟩ := D
  exact ⟨sq_but (But.fresh b h) e D0.sq, h2, q, m, g, h3, by rw [upd_ne (D0.ne h).symm]; exact h4⟩
end
/-- _law_dice(script) -/
def spDice (K : PySem.W.Frag) : Sp := fun vs H Q _ => ∃ (a : Addr) (ns : List Int), vs = [.ref a] ∧ SqL K H a (ns.map V.int) ∧ ns.length ≤ 63 ∧ ∀ H' d, Same H H' → H d = none → Dice K a ns H' d → Q (.ref d) H'
/-- _law_next(d, n): any number below n -/
def spNext (K : PySem.W.Frag) : Sp := fun vs H Q _ => ∃ (a : Addr) (ns : List Int) (d : Addr) (n : Int), vs = [.ref d, .int n] ∧ Dice K a ns H d ∧ 1 ≤ n ∧ n < 1073741824 ∧ ∀ H' r, But d H H' → Dice K a ns H' d → 0 ≤ r → r < n → Q (.int r) H'
section
variable {P : Program} {w : World} {K : PySem.W.Frag} {mg : Str → Option Value} {base : Heap}
theorem at_map {ns : List Int} {i : Nat} {x : V} (h : (ns.map V.int)[i]? = some x) : ∃ z, x = V.int z ∧ ns[i]? = some z := by
  rw [List.getElem?_map] at h
  cases e : ns[i]? with
  | none => rw [e] at h; cases h
  | some z => rw [e] at h; exact ⟨z, (Option.some.inj h).symm, rfl⟩
end
/-! ### enumerate(tuple) -/
open AutoSeq1 (wpAny_loadPart') in
set_option maxHeartbeats 1000000 in
theorem meets_enumT (t : Addr) (items : Array Value) :
    Meets (Builtin.«enumerate.__new__» ⟨[.type "enumerate", .ref t], []⟩) (fun _ R s => s.heap.IsTuple t items ∧
      R (.ok (.ret (.ref (s.heap.push { cls := .type "tuple_iterator", data := .fields #[.ref t, .int 0 0] }).objs.size)))
        { s with heap := (s.heap.push { cls := .type "tuple_iterator", data := .fields #[.ref t, .int 0 0] }).push { cls := .type "enumerate", data := .fields #[.none, .bool false, .ref s.heap.objs.size, rawInt 0, .none, .none] } }) :=
  .of_wp fun prog w A R s h => by
    obtain ⟨hp, g, d, tk, os⟩ := s; obtain ⟨hl, h⟩ := h
    have hsub := sub_enumerate
    have q1 : ∀ {A' : Around} {E : Value → Shared → Prop} {Q : Value → Shared → Prop}, Q (.ref hp.objs.size) ⟨hp.push { cls := .type "tuple_iterator", data := .fields #[.ref t, .int 0 0] }, g, d, tk, os⟩ → wpAny (model prog w) A' (pyIter (.ref t)) Q E ⟨hp, g, d, tk, os⟩ :=
      fun q => (begins_tuple t items).iter prog w _ _ ⟨hp, g, d, tk, os⟩ _ hl q
    wp_walk using q1
    refine wpAny_stack_any fun st => wpAny_pure ?_
    split
    · rename_i c _ _ _ _ _
      cases (c == Value.type "enumerate")
      · wp_walk using q1
        exact ⟨_, rfl, h⟩
      · wp_walk using q1
        exact ⟨_, rfl, h⟩
    · wp_walk using q1
      exact ⟨_, rfl, h⟩
theorem call_enumT {prog : Program} {w : World} {A : Around} {E : Value → Shared → Prop} {s : Shared} {t : Addr} {items : Array Value} {Q : Value → Shared → Prop} (ht : s.heap.IsTuple t items)
    (h : ∀ h', IsEnum h' (s.heap.objs.size + 1) s.heap.objs.size 0 .none → h'.IsTupleIter s.heap.objs.size t 0 → h'.objs.size = s.heap.objs.size + 2 →
      (∀ b o, s.heap.get? b = some o → h'.get? b = some o) → Q (.ref (s.heap.objs.size + 1)) { s with heap := h' }) :
    wpAny (model prog w) A (call (.type "enumerate") [.ref t]) Q E s := by
  refine callType_new F.called_enumerate (by decide) (F.typeCall_enumerate_1 _) (F.newCall_enumerate_1 _) (fun obj => F.args_object_init_2 obj _) F.entry_enumerate_new
    (meets_enumT t items) ⟨ht, ?_⟩
  have hz : (s.heap.push { cls := .type "tuple_iterator", data := .fields #[.ref t, .int 0 0] }).objs.size = s.heap.objs.size + 1 := Heap.size_push ..
  show _ ∧ _
  rw [hz]
  have he : IsEnum ((s.heap.push { cls := .type "tuple_iterator", data := .fields #[.ref t, .int 0 0] }).push
      { cls := .type "enumerate", data := .fields #[.none, .bool false, .ref s.heap.objs.size, rawInt 0, .none, .none] }) (s.heap.objs.size + 1) s.heap.objs.size 0 .none := by
    have := Heap.get?_push_size (s.heap.push { cls := .type "tuple_iterator", data := .fields #[.ref t, .int 0 0] })
      (o := { cls := .type "enumerate", data := .fields #[.none, .bool false, .ref s.heap.objs.size, rawInt 0, .none, .none] }) rfl
    rw [hz] at this; exact this
  refine ⟨⟨_, he, rfl⟩, h _ he ⟨_, Heap.get?_push_of_some _ (Heap.get?_push_size _ rfl), rfl, rfl⟩ (by rw [Heap.size_push, hz]) fun b o x => Heap.get?_push_of_some _ (Heap.get?_push_of_some _ x)⟩
theorem pyNext_enumT_end {prog : Program} {w : World} {A : Around} {E : Value → Shared → Prop} {s : Shared} {e it t : Addr} {i : Nat} {c : Int} {items : Array Value} {old : Value} {Q : Option Value → Shared → Prop} (hh : A.handled = none)
    (he : IsEnum s.heap e it c old) (hit : s.heap.IsTupleIter it t i) (ht : s.heap.IsTuple t items) (hx : items[i]? = none)
    (hQ : ∀ h', Heap.ExtBut it s.heap h' → Q none { s with heap := h' }) : wpAny (model prog w) A (pyNext (.ref e)) Q E s := by
  have hT : s.TypeIs (.ref e) "enumerate" := ⟨_, he, rfl⟩
  unfold pyNext
  refine wpAny_bind (wpAny_attempt (wpAny_callSpecial?_slot (name := Str.ofString "__next__") hT F.slot_enumerate_next
    (wpAny_call_entry F.slot_enumerate_next hT F.entry_enumerate_next ?_ (F.args_enumerate_next_1 _))))
  show wpAny _ _ (field (.ref e) 2 >>= _) _ _ _
  refine wpAny_bind (wpAny_field he rfl (x := .ref it) rfl ?_)
  refine wpAny_bind (wpAny_nextOf_tuple_end (by exact hh) hit ht hx fun h' x he' hx' => ?_)
  obtain ⟨o, ho, hc⟩ := hx'
  refine wpAny_bind (wpAny_isInstance (T := "StopIteration") (b := true) ⟨o, ho, hc⟩ isSubtype_stop ?_)
  exact wpAny_pure (hQ _ he')
/-- the tuple at a, each item in a new pair -/
def Itet (K : PySem.W.Frag) (a : Addr) : It :=
  ⟨fun i H => ∃ (xs : List V) (x : V), SqT K H a xs ∧ xs[i]? = some x, fun i H v H' => ∃ T x, v = .ref T ∧ H T = none ∧ H' = upd H T (.tup [.int (i : Nat), x]) ∧ ∀ xs, SqT K H a xs → xs[i]? = some x, fun i H => ∃ xs : List V, SqT K H a xs ∧ xs.length ≤ i⟩
theorem turn_enumT {P : Program} {w : World} {K : PySem.W.Frag} {elts : List Expr} {kk : Nat} {tpos : Pos} (a e it : Addr) :
    Turn P w K (.Tuple elts kk tpos) (Itet K a) [e, it] e (fun i h => (∃ old, IsEnum h e it ((i : Nat) : Int) old) ∧ h.IsTupleIter it a i ∧ e ≠ it ∧ a ≠ it ∧ e ≠ a) where
  mem := by simp
  obj := fun i h st b hb => by
    obtain ⟨⟨old, he⟩, ⟨o, ho, hc, hd⟩, _⟩ := st
    have e' : b = e ∨ b = it := by simpa using hb
    rcases e' with z | z
    · rw [z]; exact ⟨_, he, fun v q => nomatch q⟩
    · rw [z]; exact ⟨o, ho, fun v q => by rw [hd] at q; cases q⟩
  keep := fun i h h' st k => let ⟨⟨old, he⟩, hi, hne⟩ := st; ⟨⟨old, k e (by simp) _ he⟩, hi.at fun o q => k it (by simp) o q, hne⟩
  item := by
    intro X hP hw hK hc i pins s σ H E I hf st hg
    subst hP hw hK
    obtain ⟨⟨old, he⟩, hit, hne, hne2, hne3⟩ := st
    obtain ⟨xs, x, hq, hx⟩ := hg
    obtain ⟨its, rv, p, hz⟩ := I.tuple hq
    obtain ⟨u, hu, ru⟩ := rv.get hx
    have hel : e < s.heap.objs.size := Heap.lt_size he
    have hil : it < s.heap.objs.size := by obtain ⟨_, q, _⟩ := hit; exact Heap.lt_size q
    have ht : s.heap.IsTuple a its.toArray := p
    have hlt : i < its.toArray.size := by
      have := (List.getElem?_eq_some_iff.mp hu).1
      simpa using this
    refine wpAny_pyNext_enum_itemD (Draws.tuple (A := X.A.in1) (by exact I.ok.hd hc) it a hne2 its.toArray) he ⟨hit, ht⟩ hlt hne (by simp; exact ⟨hne, hne3⟩) fun y h' tk hPy ho hst' hT hsz hk => ?_
    have ey : y = u := by
      have z : its[i]? = some y := by simpa using hPy
      rw [hu] at z; exact (Option.some.inj z).symm
    subst ey
    refine ⟨_, rfl, wpAny_letOwnedTupleGo_enum (s := { s with heap := h', toks := tk + 1 }) ho fun h'' he' sb => ?_⟩
    have hT2 : h''.get? s.heap.objs.size = some { cls := .type "tuple", data := .seq #[.int i tk, y] } := (sb.2 _ (Nat.ne_of_gt hel)).trans hT
    have new : ObjOk X.prog X.w (upd H s.heap.objs.size (.tup [.int (i : Nat), x])) h'' s.heap.objs.size (.tup [.int (i : Nat), x]) :=
      ⟨by show 2 ≤ sizeLine; decide, [.int i tk, y], .cons ⟨_, rfl⟩ (.cons ru .nil), ⟨_, hT2, rfl, _, rfl⟩⟩
    have I1 : Inv X pins σ (upd H s.heap.objs.size (.tup [.int (i : Nat), x])) { s with heap := h'', toks := tk + 1 } :=
      I.turnedNew (ch := [e, it]) (fun b ob hb q => (sb.2 b (fun z => hb (by simp [z]))).trans (hk b ob (fun z => hb (by simp [z])) (fun z => hb (by simp [z])) q)) hf (Nat.le_refl _) new
    refine ⟨.ref s.heap.objs.size, _, I1, rfl, ⟨_, x, rfl, I.hok.fresh (Nat.le_refl _), rfl, fun ys hy => by rw [I.tuple_inj hy hq]; exact hx⟩, ⟨⟨y, ?_⟩, hst'.1.at fun o q => (sb.2 it (Ne.symm hne)).trans q, hne, hne2, hne3⟩, fun b hb => ?_⟩
    · have e1 : ((i + 1 : Nat) : Int) = (i : Int) + 1 := by omega
      rw [e1]; exact he'
    · have hb' : b < s.heap.objs.size := by
        have e' : b = e ∨ b = it := by simpa using hb
        rcases e' with z | z
        · rw [z]; exact hel
        · rw [z]; exact hil
      rw [upd_ne (Nat.ne_of_lt hb')]
      exact (hf b hb).1
  done := by
    intro X hP hw hK hc i pins s σ H E I hf st hg
    subst hP hw hK
    obtain ⟨⟨old, he⟩, hit, hne, hne2, hne3⟩ := st
    obtain ⟨xs, hq, hx⟩ := hg
    obtain ⟨its, rv, p, hz⟩ := I.tuple hq
    obtain ⟨f0, f1, f2, f3, f4, f5⟩ := hf it (by simp)
    have hl := rv.length
    have ht : s.heap.IsTuple a its.toArray := p
    exact pyNext_enumT_end (I.ok.hd hc) he hit ht (by simp; omega) fun h' eb => ⟨rfl, I.turned (t' := s.toks) (fun b o hb q => eb b o hb q) f0 f1 f3 f4 f5⟩
  self := fun A i s Q E st h => let ⟨⟨_, he⟩, _⟩ := st; wpAny_pyIter_enum he h
def iEnumT (K : PySem.W.Frag) (ta : TA) : TI := fun σ H R => ta σ H fun vs H1 => ∃ a xs, vs = [.ref a] ∧ SqT K H1 a xs ∧ R (Itet K a) H1
theorem pi_enumT {X : Cx} {e : Expr} {ta : TA} {p pos tpos : Pos} {elts : List Expr} {kk : Nat} (hg : Gl X "enumerate") (hm : X.mg "enumerate" = none) (ha : PA X [e] ta) (hs : starEach [e] X.env = [(false, eval e X.env)] := by rfl) :
    PI X (.Tuple elts kk tpos) (.Call (.Name "enumerate" p) [e] [] pos) (iEnumT X.K ta) := by
  refine ⟨fun pins s σ H R I h => ?_⟩
  refine Call_ (ld_blt I hg hm boot_enumerate (PyProof.Rows.callWith_type1 (thn (ha.run pos pins s σ H _ I h) fun us s1 ⟨vs, H1, I1, r1, q1⟩ => ?_) hs rfl))
  obtain ⟨a, xs, ex, hq, q⟩ := q1
  subst ex
  cases r1 with
  | cons r rr =>
    cases rr
    cases r
    obtain ⟨its, rv, p', hz⟩ := I1.tuple hq
    have ht : s1.heap.IsTuple a its.toArray := p'
    have hal : a < s1.heap.objs.size := by obtain ⟨_, q', _⟩ := id ht; exact Heap.lt_size q'
    refine call_enumT ht fun h' he hit hsz hk => wpAny_pyIter_enum he ?_
    have I2 : Inv X pins σ H1 { s1 with heap := h' } := I1.kept (t' := s1.toks) hk
    refine ⟨s1.heap.objs.size + 1, [s1.heap.objs.size + 1, s1.heap.objs.size], _, _, H1, rfl, I2, turn_enumT a (s1.heap.objs.size + 1) s1.heap.objs.size, ⟨⟨.none, he⟩, hit, Nat.succ_ne_self _, Nat.ne_of_lt hal, Nat.ne_of_gt (Nat.lt_succ_of_lt hal)⟩, fun b hb => ?_, q⟩
    have e' : b = s1.heap.objs.size + 1 ∨ b = s1.heap.objs.size := by simpa using hb
    have hle : s1.heap.objs.size ≤ b := by
      rcases e' with z | z
      · rw [z]; exact Nat.le_add_right _ _
      · rw [z]; exact Nat.le_refl _
    exact I1.fpOk hle (I1.hok.fresh hle)
theorem walk_enumT {K : PySem.W.Frag} {a : Addr} {xs : List V} : Walk (Itet K a) xs.length (fun H => SqT K H a xs) (YPair (fun i => some (.int (i : Nat))) (fun i => xs[i]?)) := by
  refine ⟨fun i _ hi q => ⟨xs, xs[i], q, by simp [hi]⟩, fun _ q => ⟨xs, q, Nat.le_refl _⟩, fun i H v H' _ q y => ?_⟩
  obtain ⟨T, x, h1, h2, h3, h4⟩ := y
  exact ⟨T, .int (i : Nat), x, h1, h2, h3, rfl, h4 xs q⟩
theorem walk_byt {x : Array UInt8} : Walk (Itb x) x.size (fun _ => True) (fun i H v H' => H' = H ∧ ∃ c, x[i]? = some c ∧ v = .int ((c.toNat : Nat) : Int)) :=
  ⟨fun _ _ hi _ => hi, fun _ _ => Nat.le_refl _, fun _ _ _ _ _ _ y => y⟩
/-- the i-th byte -/
theorem byt_at {bs : List Int} {i : Nat} {c : UInt8} (hb : B8 bs) (h : (byteArr bs)[i]? = some c) : bs[i]? = some ((c.toNat : Nat) : Int) := by
  have h1 : (bs.map fun n : Int => n.toNat.toUInt8)[i]? = some c := by
    have : (byteArr bs)[i]? = (bs.map fun n : Int => n.toNat.toUInt8)[i]? := by unfold byteArr; simp
    rw [← this]; exact h
  have hl : i < bs.length := by
    have := (List.getElem?_eq_some_iff.mp h1).1
    simpa using this
  have h2 := byte_at (j := i) hb (List.getElem?_eq_getElem hl)
  rw [List.getD_eq_getElem?_getD, h1] at h2
  rw [List.getElem?_eq_getElem hl, ← h2]
  rfl
/-! ### max(list of ints, default=int) -/
theorem args_maxD (a v : Value) : argsOk "max" ⟨[a], [(Str.ofString "default", v)]⟩ := by unfold argsOk; kernel_rfl
section
variable {prog : Program} {w : World} {A : Around} {R : Result → Shared → Prop} {I S : Addr} {fp wr : List Addr} {n : Nat} {P : Nat → Value → Prop} {St : Nat → Heap → Prop} {f : Nat → Int} {kw : List (Str × Value)}
theorem maxD_turns (W : Walks prog w A.in1 I fp wr n P St) (num : ∀ i v, P i v → ∃ t, v = Value.int (f i) t) (apart : S ∉ fp) : ∀ (left j b : Nat) (s : Shared) (best : Value) (c : Nat), n = j + 1 + left → St (j + 1) s.heap → P b best → b ≤ j → (∀ i, i ≤ j → f i ≤ f b) →
    s.heap.get? S = some { cls := .type "list", dict := none, data := .seq #[best, best] c, slots := #[] } →
    (∀ b v h' tk, b < n → P b v → (∀ i, i < n → f i ≤ f b) → (∀ a o, a ∉ wr → a ≠ S → s.heap.get? a = some o → h'.get? a = some o) → R (.ok (.ret v)) { s with heap := h', toks := tk }) →
    codeAny (model prog w) A (.builtin "max.loop" ⟨[.ref I, .none, .ref S], kw⟩) R s := by
  have outside : S ∉ wr := fun z => apart (W.sub _ z)
  have nm : (toString "max" ++ toString ".loop" : String) = "max.loop" := by decide
  intro left
  induction left with
  | zero =>
    intro j b s best c en st hb bj top hS fin
    refine codeAny_builtin F.entry_max_loop ?_
    rw [Around.under_plainId F.plain_max_loop _]
    refine wpAny_bind (wpAny_seqItems hS rfl (wpAny_bind (wpAny_tryCatch (W.done s _ _ (by rw [en]; exact st) fun h' tk kept => ?_))))
    refine wpAny_bind (wpAny_updateSeq (kept S _ outside hS) rfl (wpAny_bind (wpAny_letGo (wpAny_pure ?_))))
    exact fin b best _ tk (by omega) hb (fun i hi => top i (by omega)) fun a o ha hs e => (Heap.get?_update_other _ _ (Ne.symm hs)).trans (kept a o ha e)
  | succ left ih =>
    intro j b s best c en st hb bj top hS fin
    refine codeAny_builtin F.entry_max_loop ?_
    rw [Around.under_plainId F.plain_max_loop _]
    refine wpAny_bind (wpAny_seqItems hS rfl (wpAny_bind (wpAny_tryCatch (W.item (j + 1) s _ _ (by omega) st fun v h' tk hv st' kept => ?_))))
    have hS1 := kept S _ outside hS
    refine wpAny_bind (wpAny_pure ?_)
    refine wpAny_bind (wpAny_tryCatch (wpAny_holding (wpAny_bind (CmpOf.ints_gt f num (j + 1) b v best _ _ _ hv hb ?_))))
    refine wpAny_bind (wpAny_holding (wpAny_truthy_bool (wpAny_bind (wpAny_letGo (wpAny_pure ?_)))))
    by_cases gt : f (j + 1) > f b
    · rw [if_pos (by exact decide_eq_true gt)]
      refine wpAny_bind ?_
      refine wpAny_updateSeq hS1 rfl (wpAny_bind (wpAny_letGo ?_))
      rw [nm]
      refine wpAny_pure ⟨plainId_quiet F.plain_max_loop _, ?_⟩
      refine ih (j + 1) (j + 1) _ v c (by omega) (W.frame _ _ _ st' fun a ha o e => ?_) hv (Nat.le_refl _) (fun i hi => ?_) (Heap.get?_update_self _ hS1 rfl) fun b' v' h2 tk2 lt hv' top' kept' => ?_
      · exact (Heap.get?_update_other _ _ (fun z : S = a => apart (by rw [z]; exact ha))).trans e
      · by_cases e : i = j + 1
        · rw [e]; omega
        · have := top i (by omega)
          omega
      · exact fin b' v' h2 tk2 lt hv' top' fun a o ha hs e => kept' a o ha hs ((Heap.get?_update_other _ _ (Ne.symm hs)).trans (kept a o ha e))
    · rw [if_neg (by intro z; exact gt (of_decide_eq_true z))]
      refine wpAny_bind (wpAny_letGo ?_)
      rw [nm]
      refine wpAny_pure ⟨plainId_quiet F.plain_max_loop _, ?_⟩
      refine ih (j + 1) b _ best c (by omega) st' hb (by omega) (fun i hi => ?_) hS1 fun b' v' h2 tk2 lt hv' top' kept' => ?_
      · by_cases e : i = j + 1
        · rw [e]; omega
        · exact top i (by omega)
      · exact fin b' v' h2 tk2 lt hv' top' fun a o ha hs e => kept' a o ha hs (kept a o ha e)
end
theorem call_maxD {prog : Program} {w : World} {A : Around} {E : Value → Shared → Prop} {s : Shared} {l : Addr} {its : List Value} {ns : List Int} {d : Value} {Q : Value → Shared → Prop} (hh : A.handled = none) (hl : s.heap.IsList l its.toArray) (hi : ∀ i v, its[i]? = some v → ∃ t, v = Value.int (ns.getD i 0) t) (len : its.length = ns.length)
    (h0 : ns = [] → ∀ h' tk, (∀ b o, s.heap.get? b = some o → h'.get? b = some o) → Q d { s with heap := h', toks := tk })
    (h1 : ∀ m t h' tk, m ∈ ns → (∀ y, y ∈ ns → y ≤ m) → (∀ b o, s.heap.get? b = some o → h'.get? b = some o) → Q (Value.int m t) { s with heap := h', toks := tk }) :
    wpAny (model prog w) A (call (.builtin "max") [.ref l] [(Str.ofString "default", d)]) Q E s := by
  have nm : (toString "max" ++ toString ".loop" : String) = "max.loop" := by decide
  have below : l < s.heap.objs.size := by obtain ⟨_, q, _⟩ := id hl; exact Heap.lt_size q
  refine PyProof.Rows.kmk_tree F.kind_max F.plain_max F.entry_max (args_maxD _ _) ?_
  refine wpAny_bind (wpAny_of_eq (show Builtin.Builtins.bindParams "max" ["key", "default"] 0 ⟨[], [(Str.ofString "default", d)]⟩ = pure [none, some d] from rfl) (wpAny_bind (wpAny_pure ?_)))
  refine wpAny_bind (wpAny_pyIter_list hl (wpAny_bind (wpAny_newList ?_ (Nat.zero_le _))))
  rw [nm]
  have sz : (s.heap.push { cls := .type "list_iterator", data := .fields #[.ref l, .int 0 0] }).objs.size = s.heap.objs.size + 1 := Heap.size_push ..
  refine wpAny_pure ⟨plainId_quiet F.plain_max_loop _, ?_⟩
  have W := Walks.list (prog := prog) (w := w) (A := A.in1) hh s.heap.objs.size l (Nat.ne_of_lt below) its.toArray
  have hn : its.toArray.size = ns.length := by rw [List.size_toArray]; exact len
  have gI : ((s.heap.push { cls := .type "list_iterator", data := .fields #[.ref l, .int 0 0] }).push (PyProof.Rows.seqObj "list" #[] 0)).IsListIter s.heap.objs.size l 0 := ⟨_, Heap.get?_push_of_some _ (Heap.get?_push_size _ rfl), rfl, rfl⟩
  have gS : ((s.heap.push { cls := .type "list_iterator", data := .fields #[.ref l, .int 0 0] }).push (PyProof.Rows.seqObj "list" #[] 0)).get? (s.heap.push { cls := .type "list_iterator", data := .fields #[.ref l, .int 0 0] }).objs.size = some (PyProof.Rows.seqObj "list" #[] 0) := Heap.get?_push_size _ rfl
  have nS : (s.heap.push { cls := .type "list_iterator", data := .fields #[.ref l, .int 0 0] }).objs.size ≠ s.heap.objs.size := by rw [sz]; exact Nat.succ_ne_self _
  have old : ∀ b o, s.heap.get? b = some o → ((s.heap.push { cls := .type "list_iterator", data := .fields #[.ref l, .int 0 0] }).push (PyProof.Rows.seqObj "list" #[] 0)).get? b = some o := fun b o e => Heap.get?_push_of_some _ (Heap.get?_push_of_some _ e)
  have gl := hl.at fun o e => old l o e
  have away : ∀ b o, s.heap.get? b = some o → b ∉ [s.heap.objs.size] ∧ b ≠ (s.heap.push { cls := .type "list_iterator", data := .fields #[.ref l, .int 0 0] }).objs.size := fun b o e => by
    have := Heap.lt_size e
    constructor
    · intro hm; rw [List.mem_singleton.mp hm] at this; exact Nat.lt_irrefl _ this
    · rw [sz]; exact Nat.ne_of_lt (Nat.lt_succ_of_lt this)
  refine codeAny_builtin F.entry_max_loop ?_
  rw [Around.under_plainId F.plain_max_loop _]
  refine wpAny_bind (wpAny_seqItems gS rfl ?_)
  cases e : ns with
  | nil =>
    have z : its.toArray.size = 0 := by rw [hn, e]; rfl
    refine wpAny_bind (wpAny_tryCatch (W.done _ _ _ (by rw [z]; exact ⟨gI, gl⟩) fun h' tk kept => ?_))
    refine wpAny_bind (wpAny_rule (wpAny_pure ?_))
    exact h0 e _ tk fun b o q => kept b o (away b o q).1 (old b o q)
  | cons y r =>
    have pos : 0 < its.toArray.size := by rw [hn, e]; exact Nat.succ_pos _
    refine wpAny_bind (wpAny_tryCatch (W.item 0 _ _ _ pos ⟨gI, gl⟩ fun v h' tk hv st' kept => ?_))
    have hS1 := kept _ _ (by simpa using nS) gS
    refine wpAny_bind (wpAny_pure ?_)
    refine wpAny_bind ?_
    refine wpAny_updateSeq hS1 rfl ?_
    rw [nm]
    refine wpAny_pure ⟨plainId_quiet F.plain_max_loop _, ?_⟩
    have ap : (s.heap.push { cls := .type "list_iterator", data := .fields #[.ref l, .int 0 0] }).objs.size ∉ [s.heap.objs.size, l] := by
      intro hm
      rcases List.mem_cons.mp hm with hm | hm
      · exact nS hm
      · have q := List.mem_singleton.mp hm
        rw [sz] at q
        rw [← q] at below
        exact absurd below (by simp [Nat.not_lt])
    refine maxD_turns (f := fun i => ns.getD i 0) W (fun i v h => hi i v (by simpa using h)) ap (its.toArray.size - 1) 0 0 _ v _ (by omega) (W.frame _ _ _ st' fun a ha o q => ?_) hv (Nat.le_refl _) (fun i hi => by rw [Nat.le_zero.mp hi]; exact Int.le_refl _) (Heap.get?_update_self _ hS1 rfl) fun b v' h2 tk2 lt hv' top kept' => ?_
    · exact (Heap.get?_update_other _ _ (fun z => ap (by rw [z]; exact ha))).trans q
    · obtain ⟨t, ev⟩ := hi b v' (by simpa using hv')
      subst ev
      refine h1 _ t h2 tk2 ?_ (fun x hx => ?_) fun a o q => kept' a o (away a o q).1 (away a o q).2 ((Heap.get?_update_other _ _ (Ne.symm (away a o q).2)).trans (kept a o (away a o q).1 (old a o q)))
      · have lb : b < ns.length := by rw [← hn]; exact lt
        show ns.getD b 0 ∈ ns
        rw [List.getD_eq_getElem?_getD, List.getElem?_eq_getElem lb]
        exact List.getElem_mem lb
      · obtain ⟨i, hi', rfl⟩ := List.mem_iff_getElem.mp hx
        have := top i (by rw [hn]; exact hi')
        rw [List.getD_eq_getElem?_getD, List.getElem?_eq_getElem hi'] at this
        exact this
/-- max(xs, default=z) of a list of ints -/
def rMaxDf (K : PySem.W.Frag) : List V → List V → Hp → VK → Prop := fun vs zs H Q => ∃ (a : Addr) (ns : List Int) (z : Int), vs = [.ref a] ∧ zs = [.int z] ∧ SqL K H a (ns.map V.int) ∧ (ns = [] → Q (.int z) H) ∧ ∀ m, m ∈ ns → (∀ y, y ∈ ns → y ≤ m) → Q (.int m) H
theorem cr_maxDf {X : Cx} (hc : X.calm = true) : CallRK X (.builtin "max") [Str.ofString "default"] (rMaxDf X.K) := by
  intro pins s σ H vs zs us ws Q I r rz h
  obtain ⟨a, ns, z, rfl, rfl, hs, q0, q1⟩ := h
  obtain ⟨its, rv, hl, _⟩ := I.list hs
  obtain rfl := Vals.ref1 r
  obtain ⟨w1, rfl, e1⟩ := vals1 rz
  have len : its.length = ns.length := by rw [← rv.length, List.length_map]
  refine call_maxD (ns := ns) (I.ok.hd hc) hl.isList (fun i v hv => ?_) len (fun e h' tk hk => ⟨.int z, H, I.kept hk, e1, q0 e⟩) fun m t h' tk hm top hk => ⟨.int m, H, I.kept hk, ⟨t, rfl⟩, q1 m hm top⟩
  have lt : i < ns.length := by rw [← len]; exact (List.getElem?_eq_some_iff.mp hv).1
  obtain ⟨u, hu, ru⟩ := rv.get (i := i) (x := V.int ns[i]) (by rw [List.getElem?_map, List.getElem?_eq_getElem lt]; rfl)
  rw [hv] at hu
  cases hu
  obtain ⟨t, rfl⟩ := ru
  exact ⟨t, by rw [List.getD_eq_getElem?_getD, List.getElem?_eq_getElem lt]; rfl⟩
/-! ### rows, pieces, cells -/
inductive Cell where
  | old (k : Int) | new (b : Int)
  deriving DecidableEq
inductive Row where
  | copy (b n : Int) | run (b n : Int) | bring (bs : List Int)
  deriving DecidableEq
def Cell.tup : Cell → List V
  | .old k => [.str "old", .int k]
  | .new b => [.str "new", .int b]
def Row.tup : Row → List V
  | .copy b n => [.str "copy", .int b, .int n]
  | .run b n => [.str "run", .int b, .int n]
  | .bring bs => [.str "bring", .byt (byteArr bs)]
def Row.len : Row → Int
  | .copy _ n => n
  | .run _ n => n
  | .bring bs => bs.length
def Row.ok (c : Int) : Row → Prop
  | .copy b n => 0 ≤ b ∧ 1 ≤ n ∧ b + n ≤ c
  | .run b n => 0 ≤ b ∧ b < 256 ∧ 1 ≤ n
  | .bring bs => 1 ≤ (bs.length : Int) ∧ B8 bs
def total : List Row → Int
  | [] => 0
  | r :: l => r.len + total l
theorem total_app : ∀ (a b : List Row), total (a ++ b) = total a + total b
  | [], b => by show total b = 0 + total b; omega
  | r :: a, b => by
    have := total_app a b
    show r.len + total (a ++ b) = r.len + total a + total b
    omega
theorem Row.len_pos {c : Int} : ∀ {r : Row}, r.ok c → 1 ≤ r.len
  | .copy _ _, h => h.2.1
  | .run _ _, h => h.2.2
  | .bring _, h => h.1
theorem total_nn {c : Int} : ∀ {l : List Row}, (∀ r ∈ l, r.ok c) → 0 ≤ total l
  | [], _ => by show (0 : Int) ≤ 0; decide
  | r :: l, h => by
    have a := Row.len_pos (h r List.mem_cons_self)
    have b := total_nn (l := l) fun x hx => h x (List.mem_cons_of_mem _ hx)
    show 0 ≤ r.len + total l
    omega
theorem len_le_total {c : Int} : ∀ {l : List Row}, (∀ r ∈ l, r.ok c) → (l.length : Int) ≤ total l
  | [], _ => by show (0 : Int) ≤ 0; decide
  | r :: l, h => by
    have a := Row.len_pos (h r List.mem_cons_self)
    have b := len_le_total (l := l) fun x hx => h x (List.mem_cons_of_mem _ hx)
    show ((l.length + 1 : Nat) : Int) ≤ r.len + total l
    omega
def CellV (H : Hp) (v : V) (c : Cell) : Prop := ∃ p, v = .ref p ∧ H p = some (.tup c.tup)
def PieceV (H : Hp) (v : V) (r : Row) : Prop := ∃ p, v = .ref p ∧ H p = some (.tup r.tup)
def RowV (H : Hp) (v : V) : Row → Prop
  | .bring bs => ∃ p q, v = .ref p ∧ H p = some (.tup [.str "bring", .ref q]) ∧ H q = some (.lst (bs.map V.int))
  | r => ∃ p, v = .ref p ∧ H p = some (.tup r.tup)
/-- the tuples stay -/
def Tups (H H' : Hp) : Prop := ∀ p xs, H p = some (.tup xs) → H' p = some (.tup xs)
theorem Same.tups {H H' : Hp} (s : Same H H') : Tups H H' := fun p xs h => s p _ h
theorem But.tups {K : PySem.W.Frag} {a : Addr} {ns : List Int} {d : Addr} {H H' : Hp} (b : But d H H') (D : Dice K a ns H d) : Tups H H' := fun p xs h => tup_but D b h
theorem Tups.lst {H : Hp} {p : Addr} {xs : List V} {o : HO} (h : H p = some (.lst xs)) : Tups H (upd H p o) := fun q ys e => by rw [upd_ne (ne_of e h tup_lst)]; exact e
theorem Tups.trans {H H1 H2 : Hp} (a : Tups H H1) (b : Tups H1 H2) : Tups H H2 := fun p xs h => b p xs (a p xs h)
theorem CellV.tups {H H' : Hp} {v : V} {c : Cell} (t : Tups H H') (h : CellV H v c) : CellV H' v c := let ⟨p, e, x⟩ := h; ⟨p, e, t _ _ x⟩
theorem PieceV.tups {H H' : Hp} {v : V} {c : Row} (t : Tups H H') (h : PieceV H v c) : PieceV H' v c := let ⟨p, e, x⟩ := h; ⟨p, e, t _ _ x⟩
theorem RowV.keep {H H' : Hp} {v : V} : ∀ {r : Row}, Tups H H' → (∀ q ns, H q = some (.lst (List.map V.int ns)) → H' q = some (.lst (List.map V.int ns))) → RowV H v r → RowV H' v r
  | .copy _ _, t, _, ⟨p, e, x⟩ => ⟨p, e, t _ _ x⟩
  | .run _ _, t, _, ⟨p, e, x⟩ => ⟨p, e, t _ _ x⟩
  | .bring _, t, l, ⟨p, q, e, x, y⟩ => ⟨p, q, e, t _ _ x, l _ _ y⟩
theorem RowV.same {H H' : Hp} {v : V} {r : Row} (s : Same H H') (h : RowV H v r) : RowV H' v r := h.keep (Same.tups s) (fun q ns e => s _ _ e)
theorem RowV.but {K : PySem.W.Frag} {a : Addr} {ns : List Int} {H H' : Hp} {d : Addr} {v : V} {r : Row} (D : Dice K a ns H d) (b : But d H H') (h : RowV H v r) : RowV H' v r := h.keep (But.tups b D) (fun q ns e => ints_but D b e)
theorem RowV.isRef {H : Hp} {v : V} : ∀ {r : Row}, RowV H v r → ∃ p, v = .ref p
  | .copy _ _, ⟨p, e, _⟩ => ⟨p, e⟩
  | .run _ _, ⟨p, e, _⟩ => ⟨p, e⟩
  | .bring _, ⟨p, _, e, _⟩ => ⟨p, e⟩
theorem pairedMem {α β : Type} {F G : α → β → Prop} : ∀ {l : List α} {m : List β}, Paired F l m → (∀ a ∈ l, ∀ b ∈ m, F a b → G a b) → Paired G l m
  | _, _, .nil, _ => .nil
  | _, _, .cons r t, f => .cons (f _ List.mem_cons_self _ List.mem_cons_self r) (pairedMem t fun a ha b hb => f a (List.mem_cons_of_mem _ ha) b (List.mem_cons_of_mem _ hb))
theorem pairedMap {α β : Type} {F G : α → β → Prop} {l : List α} {m : List β} (h : Paired F l m) (f : ∀ a b, F a b → G a b) : Paired G l m := pairedMem h fun a _ b _ => f a b
theorem pairedApp {α β : Type} {F : α → β → Prop} : ∀ {l l' : List α} {m m' : List β}, Paired F l m → Paired F l' m' → Paired F (l ++ l') (m ++ m')
  | _, _, _, _, .nil, s => s
  | _, _, _, _, .cons r t, s => .cons r (pairedApp t s)
theorem pairedAt {α β : Type} {F : α → β → Prop} : ∀ {l : List α} {m : List β} {i : Nat} {x : α}, Paired F l m → l[i]? = some x → ∃ y, m[i]? = some y ∧ F x y
  | _, _, _, _, .nil, e => by simp at e
  | _, _, 0, _, .cons r _, e => by simp at e; subst e; exact ⟨_, rfl, r⟩
  | _, _, i + 1, x, .cons _ t, e => by
    obtain ⟨y, h1, h2⟩ := pairedAt (i := i) (x := x) t (by simpa using e)
    exact ⟨y, by simpa using h1, h2⟩
theorem pairedAt' {α β : Type} {F : α → β → Prop} : ∀ {l : List α} {m : List β} {i : Nat} {y : β}, Paired F l m → m[i]? = some y → ∃ x, l[i]? = some x ∧ F x y
  | _, _, _, _, .nil, e => by simp at e
  | _, _, 0, _, .cons r _, e => by simp at e; subst e; exact ⟨_, rfl, r⟩
  | _, _, i + 1, y, .cons _ t, e => by
    obtain ⟨x, h1, h2⟩ := pairedAt' (i := i) (y := y) t (by simpa using e)
    exact ⟨x, by simpa using h1, h2⟩
/-- a list of rows at p -/
def RowsAt (H : Hp) (p : Addr) (rows : List Row) : Prop := ∃ vs, H p = some (.lst vs) ∧ Paired (RowV H) vs rows
def PatchAt (H : Hp) (v : V) (rows : List Row) : Prop := ∃ p vs, v = .ref p ∧ H p = some (.tup vs) ∧ Paired (PieceV H) vs rows
def CellsAt (H : Hp) (p : Addr) (cs : List Cell) : Prop := ∃ vs, H p = some (.lst vs) ∧ Paired (CellV H) vs cs
theorem RowsAt.same {H H' : Hp} {p : Addr} {rows : List Row} (s : Same H H') (h : RowsAt H p rows) : RowsAt H' p rows := let ⟨vs, e, r⟩ := h; ⟨vs, s _ _ e, pairedMap r fun _ _ x => x.same s⟩
theorem CellsAt.same {H H' : Hp} {p : Addr} {cs : List Cell} (s : Same H H') (h : CellsAt H p cs) : CellsAt H' p cs := let ⟨vs, e, r⟩ := h; ⟨vs, s _ _ e, pairedMap r fun _ _ x => x.tups (Same.tups s)⟩
theorem PatchAt.tups {H H' : Hp} {v : V} {rows : List Row} (s : Tups H H') (h : PatchAt H v rows) : PatchAt H' v rows := let ⟨p, vs, e, x, r⟩ := h; ⟨p, vs, e, s _ _ x, pairedMap r fun _ _ x => x.tups s⟩
theorem RowsAt.but {K : PySem.W.Frag} {a : Addr} {ns : List Int} {H H' : Hp} {d p : Addr} {rows : List Row} (D : Dice K a ns H d) (b : But d H H') (hn : p ≠ d) (h : RowsAt H p rows) : RowsAt H' p rows :=
  let ⟨vs, e, r⟩ := h; ⟨vs, b _ _ hn e, pairedMap r fun _ _ x => x.but D b⟩
/-- one row more at the end of the list -/
theorem rows_put {H : Hp} {p : Addr} {vs : List V} {rows : List Row} {v : V} {r : Row} (e : H p = some (.lst vs)) (h : Paired (RowV H) vs rows) (hv : RowV H v r) (hq : ∀ bs p' q, r = .bring bs → H p' = some (.tup [.str "bring", .ref q]) → v = .ref p' → q ≠ p) :
    RowsAt (upd H p (.lst (vs ++ [v]))) p (rows ++ [r]) := by
  refine ⟨_, upd_same, pairedApp (pairedMem h fun a ha b _ x => ?_) (.cons ?_ .nil)⟩
  · refine x.keep (Tups.lst e) fun q ns z => ?_
    rw [upd_ne]
    · exact z
    · rintro rfl
      rw [e] at z
      obtain ⟨u, rfl⟩ := x.isRef
      have z' : vs = ns.map V.int := by injection z with z; injection z
      rw [z'] at ha
      obtain ⟨_, _, z2⟩ := List.mem_map.mp ha
      cases z2
  · cases r with
    | copy b n => obtain ⟨u, e1, e2⟩ := hv; exact ⟨u, e1, Tups.lst e _ _ e2⟩
    | run b n => obtain ⟨u, e1, e2⟩ := hv; exact ⟨u, e1, Tups.lst e _ _ e2⟩
    | bring bs =>
      obtain ⟨u, q, e1, e2, e3⟩ := hv
      exact ⟨u, q, e1, Tups.lst e _ _ e2, by rw [upd_ne (hq bs u q rfl e2 e1)]; exact e3⟩
/-! ### _law_bytes, _law_rows, _law_handed, bytes_of, is_number, numbers_of -/
def spBytes (K : PySem.W.Frag) : Sp := fun vs H Q _ => ∃ (a : Addr) (ns : List Int) (d : Addr) (m : Int), vs = [.ref d, .int m] ∧ Dice K a ns H d ∧ 0 ≤ m ∧ m ≤ 1000 ∧
  ∀ H' p bs, But d H H' → Dice K a ns H' d → H p = none → H' p = some (.lst (List.map V.int bs)) → B8 bs → (bs.length : Int) ≤ m → Q (.ref p) H'
def spRows (K : PySem.W.Frag) : Sp := fun vs H Q _ => ∃ (a : Addr) (ns : List Int) (d : Addr) (c m : Int), vs = [.ref d, .int c, .int m] ∧ Dice K a ns H d ∧ 0 ≤ c ∧ c ≤ 1000 ∧ 0 ≤ m ∧ m ≤ 1000 ∧
  ∀ H' p rows, But d H H' → Dice K a ns H' d → H p = none → RowsAt H' p rows → (∀ r ∈ rows, r.ok c) → total rows ≤ m → Q (.ref p) H'
def spIsNum : Sp := fun vs H Q _ => ∃ z lo hi : Int, vs = [.int z, .int lo, .int hi] ∧ Q (.bl (decide (lo ≤ z) && decide (z ≤ hi))) H
def spBytesOf (K : PySem.W.Frag) : Sp := fun vs H Q _ => ∃ (p : Addr) (bs : List Int), vs = [.ref p] ∧ SqL K H p (bs.map V.int) ∧ B8 bs ∧ Q (.byt (byteArr bs)) H
def spNumsOf : Sp := fun vs H Q _ => ∃ bs : List Int, vs = [.byt (byteArr bs)] ∧ B8 bs ∧ bs.length ≤ 100000 ∧ ∀ p, H p = none → Q (.ref p) (upd H p (.lst (bs.map V.int)))
def spHanded : Sp := fun vs H Q _ => ∃ (p : Addr) (rows : List Row) (c : Int), vs = [.ref p] ∧ RowsAt H p rows ∧ (∀ r ∈ rows, r.ok c) ∧ rows.length ≤ 10000 ∧ ∀ H' v, Same H H' → PatchAt H' v rows → Q v H'
section
variable {P : Program} {w : World} {K : PySem.W.Frag} {mg : Str → Option Value} {base : Heap}
theorem ok_is_number (T : All K mg) : FnOk P w K mg base CX0 1 T.d_is_number.f T.d_is_number.fd ["what", "least", "most"] spIsNum := by
  refine T.d_is_number.F.ok sc_is_number (fun vs H Q E h => ?_) (fun cdv A outer s H vs Q E hr h => ?_)
  · obtain ⟨z, lo, hi, rfl, _⟩ := h
    rfl
  · obtain ⟨z, lo, hi, rfl, k⟩ := h
    refine ⟨_, (pss_one 
      (ps_ret (pe_and (pe_callB call_isi (by rfl) T.b_isinstance (by decide +kernel) (pa_cons (pv 0) (pa_cons (pe_bltn (v := .ty "int") (by rfl) T.b_int (by decide +kernel) rfl) pa_nil))) (pe_and (pe_not (pe_callB call_isi (by rfl) T.b_isinstance (by decide +kernel) (pa_cons (pv 0) (pa_cons (pe_bltn (v := .ty "bool") (by rfl) T.b_bool (by decide +kernel) rfl) pa_nil)))) (pe_one (pe_chain op_le op_le (pv 1) (pv 0) (pv 2))))))), ?_⟩
    refine ⟨_, rfl, _, _, _, _, true, rfl, .ty _, .base (.int z), kit_ty (by decide +kernel), true, rfl, iteT ?_⟩
    refine ⟨_, rfl, _, _, _, _, false, rfl, .ty _, .base (.int z), kit_ty (by decide +kernel), false, rfl, true, rfl, iteT ?_⟩
    refine ⟨_, rfl, _, rfl, _, _, rfl, rfl, decide (lo ≤ z), rfl, ?_⟩
    by_cases h1 : lo ≤ z
    · rw [decide_eq_true h1] at k ⊢
      refine iteT ⟨_, rfl, _, _, rfl, rfl, ?_⟩
      exact k
    · rw [decide_eq_false h1] at k ⊢
      exact iteF k
theorem ok_bytes_of (T : All K mg) : FnOk P w K mg base CX0 2 T.d_bytes_of.f T.d_bytes_of.fd ["numbers"] (spBytesOf K) := by
  have G_is_number : FnOk P w K mg base CX0 1 T.d_is_number.f T.d_is_number.fd ["what", "least", "most"] spIsNum := ok_is_number T
  refine T.d_bytes_of.F.ok sc_bytes_of (fun vs H Q E h => ?_) (fun cdv A outer s H vs Q E hr h => ?_)
  · obtain ⟨p, bs, rfl, _⟩ := h
    rfl
  · obtain ⟨p, bs, rfl, hS, hb, k⟩ := h
    refine ⟨_, (pss_cons 
      (ps_for PassesOwn.never rfl (pi_list (pv 0)) (pg_name (i := 1) sc_bytes_of.nd rfl (Or.inl rfl)) (pss_one 
      (ps_if (pt_not (pt_val (pe_call G_is_number (hr.mono (by decide)) rfl T.d_is_number.m T.d_is_number.F.kp T.d_is_number.b .nil pass0 (pa_cons (pv 1) (pa_cons pe_int (pa_cons (pe_glob (v := .int 255) rfl T.c_LAST_BYTE ⟨_, rfl⟩) pa_nil)))))) (pss_one ps_never) pss_nil))) (pss_one 
      (ps_ret (pe_bytesOf rfl (by rfl) T.b_bytes (pv 0))))), ?_⟩
    refine ⟨_, rfl, p, rfl, ⟨_, hS⟩, for_list (K := K) (a := p) (xs := bs.map V.int) (fun i σ H' => ∃ v : Option V, σ = [some (.ref p), v] ∧ H' = H)
      ⟨none, rfl, rfl⟩ (fun i σ H' _ ⟨_, _, e⟩ => by rw [e]; exact hS) ?_ ?_⟩
    · rintro i y σ H' hi ⟨v, rfl, rfl⟩
      obtain ⟨z, rfl, hz⟩ := at_map hi
      have hm := hb z (List.mem_of_getElem? hz)
      refine ⟨_, rfl, z, 0, 255, rfl, _, rfl, ?_⟩
      rw [decide_eq_true hm.1, decide_eq_true (show z ≤ 255 by omega)]
      refine iteF ?_
      exact ⟨_, rfl, rfl⟩
    · rintro σ H' ⟨v, rfl, rfl⟩
      refine ⟨_, rfl, .inr ⟨p, bs, rfl, hS, hb, k⟩⟩
end
section
variable {P : Program} {w : World} {K : PySem.W.Frag} {mg : Str → Option Value} {base : Heap}
theorem RowsAt.at {H : Hp} {p : Addr} {rows : List Row} (h : RowsAt H p rows) : ∃ vs, H p = some (.lst vs) ∧ vs.length = rows.length := by
  obtain ⟨vs, e, r⟩ := h
  exact ⟨vs, e, Paired.length r⟩
end
/-! ### what a patch tells -/
def cellsR : Row → List Cell
  | .copy b n => (List.range n.toNat).map fun i => Cell.old (b + (i : Nat))
  | .run b n => List.replicate n.toNat (Cell.new b)
  | .bring bs => bs.map Cell.new
def cellsOf (rows : List Row) : List Cell := rows.flatMap cellsR
def Good (rows : List Row) : Prop := (∀ r ∈ rows, r.ok 200) ∧ total rows ≤ 200
def endsOf : List Row → List Int
  | [] => []
  | .copy b n :: l => (b + n) :: endsOf l
  | _ :: l => endsOf l
def top0 : List Int → Int
  | [] => 0
  | x :: l => if top0 l < x then x else top0 l
def needsOf (rows : List Row) : Int := top0 (endsOf rows)
def valOf (es : List Int) : Cell → Int
  | .old k => es.getD k.toNat 0
  | .new b => b
def doneOf (rows : List Row) (es : List Int) : List Int := (cellsOf rows).map (valOf es)
theorem Row.ok_mono {c e : Int} (h : c ≤ e) : ∀ {r : Row}, r.ok c → r.ok e
  | .copy _ _, ⟨a, b, d⟩ => ⟨a, b, by omega⟩
  | .run _ _, x => x
  | .bring _, x => x
theorem top0_ge : ∀ {l : List Int} {y : Int}, y ∈ l → y ≤ top0 l
  | x :: l, y, h => by
    show y ≤ if top0 l < x then x else top0 l
    rcases List.mem_cons.mp h with rfl | h
    · split <;> omega
    · have := top0_ge h
      split <;> omega
theorem top0_is : ∀ (l : List Int), top0 l = 0 ∨ top0 l ∈ l
  | [] => .inl rfl
  | x :: l => by
    show (if top0 l < x then x else top0 l) = 0 ∨ (if top0 l < x then x else top0 l) ∈ x :: l
    split
    · exact .inr List.mem_cons_self
    · rcases top0_is l with h | h
      · exact .inl h
      · exact .inr (List.mem_cons_of_mem _ h)
theorem top0_nn : ∀ (l : List Int), 0 ≤ top0 l
  | [] => by show (0 : Int) ≤ 0; decide
  | x :: l => by
    have := top0_nn l
    show (0 : Int) ≤ if top0 l < x then x else top0 l
    split <;> omega
theorem ends_pos {c : Int} : ∀ {l : List Row}, (∀ r ∈ l, r.ok c) → ∀ y ∈ endsOf l, 0 < y
  | [], _, y, hy => (List.not_mem_nil hy).elim
  | .copy b n :: l, h, y, hy => by
    have h0 := h _ List.mem_cons_self
    rcases List.mem_cons.mp hy with rfl | hy
    · have := h0.1; have := h0.2.1; omega
    · exact ends_pos (fun r hr => h r (List.mem_cons_of_mem _ hr)) y hy
  | .run b n :: l, h, y, hy => ends_pos (fun r hr => h r (List.mem_cons_of_mem _ hr)) y hy
  | .bring bs :: l, h, y, hy => ends_pos (fun r hr => h r (List.mem_cons_of_mem _ hr)) y hy
theorem top0_eq {l : List Int} {m : Int} (hm : m ∈ l) (hp : 0 < m) (ht : ∀ y, y ∈ l → y ≤ m) : m = top0 l := by
  have h1 := top0_ge hm
  rcases top0_is l with h | h
  · omega
  · have := ht _ h; omega
theorem cellsR_len {c : Int} : ∀ {r : Row}, r.ok c → ((cellsR r).length : Int) = r.len
  | .copy b n, h => by
    have := h.2.1
    show ((((List.range n.toNat).map fun i => Cell.old (b + (i : Nat))).length : Nat) : Int) = n
    rw [List.length_map, List.length_range]; omega
  | .run b n, h => by
    have := h.2.2
    show (((List.replicate n.toNat (Cell.new b)).length : Nat) : Int) = n
    rw [List.length_replicate]; omega
  | .bring bs, h => by
    show (((bs.map Cell.new).length : Nat) : Int) = bs.length
    rw [List.length_map]
theorem cellsOf_len {c : Int} : ∀ {l : List Row}, (∀ r ∈ l, r.ok c) → ((cellsOf l).length : Int) = total l
  | [], _ => rfl
  | r :: l, h => by
    have a := cellsR_len (h r List.mem_cons_self)
    have b := cellsOf_len (l := l) fun x hx => h x (List.mem_cons_of_mem _ hx)
    show ((((cellsR r) ++ cellsOf l).length : Nat) : Int) = r.len + total l
    rw [List.length_append]; omega
theorem take_snoc {α : Type} {l : List α} {i : Nat} {x : α} (h : l[i]? = some x) : l.take (i + 1) = l.take i ++ [x] := by rw [List.take_add_one, h]; rfl
theorem total_take {l : List Row} {i : Nat} {r : Row} (h : l[i]? = some r) : total (l.take (i + 1)) = total (l.take i) + r.len := by
  rw [take_snoc h, total_app]
  show total (l.take i) + (r.len + 0) = _
  omega
theorem total_take_le {c : Int} {l : List Row} (h : ∀ r ∈ l, r.ok c) (i : Nat) : total (l.take i) ≤ total l := by
  have e := total_app (l.take i) (l.drop i)
  rw [List.take_append_drop] at e
  have := total_nn (l := l.drop i) fun r hr => h r (List.mem_of_mem_drop hr)
  omega
theorem len_le_of {c : Int} {l : List Row} (h : ∀ r ∈ l, r.ok c) {r : Row} (hr : r ∈ l) : r.len ≤ total l := by
  obtain ⟨i, hi, rfl⟩ := List.mem_iff_getElem.mp hr
  have a := total_take (List.getElem?_eq_getElem hi)
  have b := total_take_le h (i + 1)
  have d := total_nn (l := l.take i) fun r hr => h r (List.mem_of_mem_take hr)
  omega
theorem CellsAt.len {H : Hp} {p : Addr} {cs : List Cell} (h : CellsAt H p cs) : ∃ vs, H p = some (.lst vs) ∧ Paired (CellV H) vs cs ∧ vs.length = cs.length := let ⟨vs, e, r⟩ := h; ⟨vs, e, r, Paired.length r⟩
/-! ### the promises -/
def spCanBe : Sp := fun vs H Q _ => ∃ (p : Addr) (r : Row), vs = [.ref p] ∧ H p = some (.tup r.tup) ∧ r.ok 200 ∧ r.len ≤ 200 ∧ Q (.bl true) H
def spLengthOf : Sp := fun vs H Q _ => ∃ (p : Addr) (r : Row), vs = [.ref p] ∧ H p = some (.tup r.tup) ∧ r.ok 200 ∧ r.len ≤ 200 ∧ Q (.int r.len) H
def spCellsOf : Sp := fun vs H Q _ => ∃ (p : Addr) (r : Row), vs = [.ref p] ∧ H p = some (.tup r.tup) ∧ r.ok 200 ∧ r.len ≤ 200 ∧ ∀ H' q, Same H H' → H q = none → CellsAt H' q (cellsR r) → Q (.ref q) H'
def spCheckPatch : Sp := fun vs H Q _ => ∃ (v : V) (rows : List Row), vs = [v] ∧ PatchAt H v rows ∧ Good rows ∧ ∀ H', Same H H' → Q .non H'
def spCheckEdition : Sp := fun vs H Q _ => ∃ es : List Int, vs = [.byt (byteArr es)] ∧ es.length ≤ 200 ∧ Q .non H
def spCheckReach : Sp := fun vs H Q _ => ∃ (v : V) (rows : List Row) (es : List Int), vs = [v, .byt (byteArr es)] ∧ PatchAt H v rows ∧ (∀ r ∈ rows, r.ok es.length) ∧ es.length ≤ 200 ∧ ∀ H', Same H H' → Q .non H'
def spCells : Sp := fun vs H Q _ => ∃ (v : V) (rows : List Row), vs = [v] ∧ PatchAt H v rows ∧ Good rows ∧ ∀ H' p, Same H H' → H p = none → CellsAt H' p (cellsOf rows) → Q (.ref p) H'
def spMakes : Sp := fun vs H Q _ => ∃ (v : V) (rows : List Row), vs = [v] ∧ PatchAt H v rows ∧ Good rows ∧ ∀ H', Same H H' → Q (.int (total rows)) H'
def spNeeds : Sp := fun vs H Q _ => ∃ (v : V) (rows : List Row), vs = [v] ∧ PatchAt H v rows ∧ Good rows ∧ ∀ H', Same H H' → Q (.int (needsOf rows)) H'
def spDone : Sp := fun vs H Q _ => ∃ (v : V) (rows : List Row) (es : List Int), vs = [v, .byt (byteArr es)] ∧ PatchAt H v rows ∧ Good rows ∧ (∀ r ∈ rows, r.ok es.length) ∧ B8 es ∧ es.length ≤ 200 ∧ ∀ H', Same H H' → Q (.byt (byteArr (doneOf rows es))) H'
section
variable {P : Program} {w : World} {K : PySem.W.Frag} {mg : Str → Option Value} {base : Heap}
theorem ok_length_of (T : All K mg) : FnOk P w K mg base CX0 1 T.d_length_of.f T.d_length_of.fd ["piece"] spLengthOf := by
  refine T.d_length_of.F.ok sc_length_of (fun vs H Q E h => ?_) (fun cdv A outer s H vs Q E hr h => ?_)
  · obtain ⟨p, _, rfl, _⟩ := h
    rfl
  · obtain ⟨p, r, rfl, hp, hok, hl, k⟩ := h
    refine ⟨_, (pss_cons 
      (ps_if (pt_cmpR op_eq (pe_ix ix_tup (pv 0) pe_int (fun _ _ => rfl)) pe_str (nomark _)) (pss_one 
      (ps_ret (pe_callB call_len (by rfl) T.b_len PySem.boot_len (pa_cons (pe_ix ix_tup (pv 0) pe_int (fun _ _ => rfl)) pa_nil)))) pss_nil) (pss_one 
      (ps_ret (pe_ix ix_tup (pv 0) pe_int (fun _ _ => rfl))))), ?_⟩
    cases r with
    | copy b n =>
      refine ⟨_, rfl, p, _, _, _, rfl, rfl, SqT.of hp, rfl, rfl, _, rfl, ite2 (fun h => absurd h (by decide)) fun _ => ?_⟩
      exact ⟨_, rfl, p, _, _, _, rfl, rfl, SqT.of hp, rfl, k⟩
    | run b n =>
      refine ⟨_, rfl, p, _, _, _, rfl, rfl, SqT.of hp, rfl, rfl, _, rfl, ite2 (fun h => absurd h (by decide)) fun _ => ?_⟩
      exact ⟨_, rfl, p, _, _, _, rfl, rfl, SqT.of hp, rfl, k⟩
    | bring bs =>
      refine ⟨_, rfl, p, _, _, _, rfl, rfl, SqT.of hp, rfl, rfl, _, rfl, ite2 (fun _ => ?_) fun h => absurd (by decide) h⟩
      have hl : (bs.length : Int) ≤ 200 := hl
      refine ⟨_, rfl, p, _, _, _, rfl, rfl, SqT.of hp, rfl, _, bs.length, rfl, ⟨by rw [byteArr_size]; exact sizeS (by omega), (byteArr_size bs).symm⟩, k⟩
theorem ok_can_be (T : All K mg) : FnOk P w K mg base CX0 2 T.d_can_be.f T.d_can_be.fd ["piece"] spCanBe := by
  have G_is_number : FnOk P w K mg base CX0 1 T.d_is_number.f T.d_is_number.fd ["what", "least", "most"] spIsNum := ok_is_number T
  refine T.d_can_be.F.ok sc_can_be (fun vs H Q E h => ?_) (fun cdv A outer s H vs Q E hr h => ?_)
  · obtain ⟨p, _, rfl, _⟩ := h
    rfl
  · obtain ⟨p, r, rfl, hp, hok, hl, k⟩ := h
    refine ⟨_, (pss_cons 
      (ps_if (pt_not (pt_val (pe_callB call_isi (by rfl) T.b_isinstance (by decide +kernel) (pa_cons (pv 0) (pa_cons (pe_bltn (v := .ty "tuple") (by rfl) T.b_tuple (by decide +kernel) rfl) pa_nil))))) (pss_one 
      (ps_ret pe_bl)) pss_nil) (pss_cons 
      (ps_if (pt_cmpR op_eq (pe_callB call_len (by rfl) T.b_len PySem.boot_len (pa_cons (pv 0) pa_nil)) pe_int (nomark _)) (pss_cons 
      (ps_asg (pv 0) (pg_tup rfl (pgs_cons (pg_name (i := 1) sc_can_be.nd rfl (Or.inl rfl)) (pgs_cons (pg_name (i := 2) sc_can_be.nd rfl (Or.inl rfl)) pgs_nil)))) (pss_one 
      (ps_ret (pe_and (pe_cmpR op_eq (pv 1) pe_str (nomark _)) (pe_and (pe_callB call_isi (by rfl) T.b_isinstance (by decide +kernel) (pa_cons (pv 2) (pa_cons (pe_bltn (v := .ty "bytes") (by rfl) T.b_bytes (by decide +kernel) rfl) pa_nil))) (pe_one (pe_chain op_le op_le pe_int (pe_callB call_len (by rfl) T.b_len PySem.boot_len (pa_cons (pv 2) pa_nil)) (pe_glob (v := .int 200) rfl T.c_MOST ⟨_, rfl⟩)))))))) pss_nil) (pss_cons 
      (ps_if (pt_cmpR op_ne (pe_callB call_len (by rfl) T.b_len PySem.boot_len (pa_cons (pv 0) pa_nil)) pe_int (nomark _)) (pss_one 
      (ps_ret pe_bl)) pss_nil) (pss_cons 
      (ps_asg (pv 0) (pg_tup rfl (pgs_cons (pg_name (i := 1) sc_can_be.nd rfl (Or.inl rfl)) (pgs_cons (pg_name (i := 3) sc_can_be.nd rfl (Or.inl rfl)) (pgs_cons (pg_name (i := 4) sc_can_be.nd rfl (Or.inl rfl)) pgs_nil))))) (pss_cons 
      (ps_if (pt_not (pt_val (pe_call G_is_number (hr.mono (by decide)) rfl T.d_is_number.m T.d_is_number.F.kp T.d_is_number.b .nil pass0 (pa_cons (pv 4) (pa_cons pe_int (pa_cons (pe_glob (v := .int 200) rfl T.c_MOST ⟨_, rfl⟩) pa_nil)))))) (pss_one 
      (ps_ret pe_bl)) pss_nil) (pss_cons 
      (ps_if (pt_cmpR op_eq (pv 1) pe_str (nomark _)) (pss_one 
      (ps_ret (pe_call G_is_number (hr.mono (by decide)) rfl T.d_is_number.m T.d_is_number.F.kp T.d_is_number.b .nil pass0 (pa_cons (pv 3) (pa_cons pe_int (pa_cons (pe_op op_sub (pe_glob (v := .int 200) rfl T.c_MOST ⟨_, rfl⟩) (pv 4)) pa_nil)))))) pss_nil) (pss_one 
      (ps_ret (pe_and (pe_cmpR op_eq (pv 1) pe_str (nomark _)) (pe_one (pe_call G_is_number (hr.mono (by decide)) rfl T.d_is_number.m T.d_is_number.F.kp T.d_is_number.b .nil pass0 (pa_cons (pv 3) (pa_cons pe_int (pa_cons (pe_glob (v := .int 255) rfl T.c_LAST_BYTE ⟨_, rfl⟩) pa_nil)))))))))))))), ?_⟩
    refine ⟨_, rfl, _, _, _, _, true, rfl, .ty _, .base (.tup hp), kit_ty (by decide +kernel), true, rfl, iteF ?_⟩
    cases r with
    | copy b n =>
      have h1 := hok.1
      have h2 := hok.2.1
      have h3 := hok.2.2
      have h4 : n ≤ 200 := hl
      refine ⟨_, rfl, _, 3, rfl, .inr ⟨_, SqT.of hp, rfl⟩, rfl, _, rfl, ite2 (fun h => absurd h (by decide)) fun _ => ?_⟩
      refine ⟨_, rfl, _, 3, rfl, .inr ⟨_, SqT.of hp, rfl⟩, rfl, _, rfl, ite2 (fun h => absurd h (by decide)) fun _ => ?_⟩
      refine ⟨_, rfl, p, _, rfl, SqT.of hp, rfl, _, _, rfl, _, _, rfl, _, _, rfl, rfl, ?_⟩
      refine ⟨_, rfl, n, 1, 200, rfl, _, rfl, ?_⟩
      rw [decide_eq_true h2, decide_eq_true h4]
      refine iteF ?_
      refine ⟨_, rfl, rfl, _, rfl, ite2 (fun _ => ?_) fun h => absurd (by decide) h⟩
      refine ⟨_, rfl, _, rfl, _, _, rfl, rfl, b, 0, 200 - n, rfl, ?_⟩
      rw [decide_eq_true h1, decide_eq_true (show b ≤ 200 - n by omega)]
      exact k
    | run b n =>
      have h1 := hok.1
      have h2 := hok.2.1
      have h3 := hok.2.2
      have h4 : n ≤ 200 := hl
      refine ⟨_, rfl, _, 3, rfl, .inr ⟨_, SqT.of hp, rfl⟩, rfl, _, rfl, ite2 (fun h => absurd h (by decide)) fun _ => ?_⟩
      refine ⟨_, rfl, _, 3, rfl, .inr ⟨_, SqT.of hp, rfl⟩, rfl, _, rfl, ite2 (fun h => absurd h (by decide)) fun _ => ?_⟩
      refine ⟨_, rfl, p, _, rfl, SqT.of hp, rfl, _, _, rfl, _, _, rfl, _, _, rfl, rfl, ?_⟩
      refine ⟨_, rfl, n, 1, 200, rfl, _, rfl, ?_⟩
      rw [decide_eq_true h3, decide_eq_true h4]
      refine iteF ?_
      refine ⟨_, rfl, rfl, _, rfl, ite2 (fun h => absurd h (by decide)) fun _ => ?_⟩
      refine ⟨_, rfl, rfl, _, rfl, ite2 (fun _ => ?_) fun h => absurd (by decide) h⟩
      refine ⟨_, rfl, b, 0, 255, rfl, ?_⟩
      rw [decide_eq_true h1, decide_eq_true (show b ≤ 255 by omega)]
      exact k
    | bring bs =>
      have h1 : 1 ≤ (bs.length : Int) := hok.1
      have h4 : (bs.length : Int) ≤ 200 := hl
      refine ⟨_, rfl, _, 2, rfl, .inr ⟨_, SqT.of hp, rfl⟩, rfl, _, rfl, ite2 (fun _ => ?_) fun h => absurd (by decide) h⟩
      refine ⟨_, rfl, p, _, rfl, SqT.of hp, rfl, _, _, rfl, _, _, rfl, rfl, ?_⟩
      refine ⟨_, rfl, rfl, _, rfl, ite2 (fun _ => ?_) fun h => absurd (by decide) h⟩
      refine ⟨_, rfl, _, _, _, _, true, rfl, .ty _, .byt _, kit_ty (by decide +kernel), true, rfl, iteT ?_⟩
      refine ⟨_, rfl, _, bs.length, rfl, ⟨by rw [byteArr_size]; exact sizeS (by omega), (byteArr_size bs).symm⟩, _, _, rfl, rfl, _, rfl, ?_⟩
      rw [decide_eq_true h1]
      refine iteT ⟨_, _, rfl, rfl, ?_⟩
      show Q (.bl (decide ((bs.length : Int) ≤ 200))) H
      rw [decide_eq_true h4]
      exact k
end
theorem cell_more {H H2 : Hp} {D : Addr} {ws : List V} {cs : List Cell} {c : Cell} {t : Addr} (hD : H D = none) (s2 : Same H H2) (hw : H2 D = some (.lst ws)) (pw : Paired (CellV H2) ws cs) (ht : H2 t = none) :
    Same H (upd (upd H2 t (.tup c.tup)) D (.lst (ws ++ [.ref t]))) ∧ Paired (CellV (upd (upd H2 t (.tup c.tup)) D (.lst (ws ++ [.ref t])))) (ws ++ [.ref t]) (cs ++ [c]) := by
  have hw' : (upd H2 t (.tup c.tup)) D = some (.lst ws) := Same.new ht _ _ hw
  refine ⟨fun b o e => ?_, pairedApp (pairedMap pw fun _ _ x => (x.tups (Same.tups (Same.new ht))).tups (Tups.lst hw')) (.cons ⟨t, rfl, Tups.lst hw' _ _ upd_same⟩ .nil)⟩
  rw [upd_ne (ne_of_none e hD)]
  exact Same.new ht _ _ (s2 _ _ e)
theorem rep_flat {α : Type} (x : α) : ∀ m : Nat, (List.replicate m [x]).flatten = List.replicate m x
  | 0 => rfl
  | m + 1 => by rw [List.replicate_succ, List.replicate_succ, List.flatten_cons, rep_flat x m]; rfl
theorem paired_rep {α β : Type} {F : α → β → Prop} {x : α} {y : β} (h : F x y) : ∀ m : Nat, Paired F (List.replicate m x) (List.replicate m y)
  | 0 => .nil
  | m + 1 => .cons h (paired_rep h m)
theorem cellsOf_take {rows : List Row} {i : Nat} {r : Row} (h : rows[i]? = some r) : cellsOf (rows.take (i + 1)) = cellsOf (rows.take i) ++ cellsR r := by
  rw [take_snoc h]
  show (rows.take i ++ [r]).flatMap cellsR = _
  rw [List.flatMap_append, List.flatMap_cons, List.flatMap_nil, List.append_nil]
  rfl
/-- what a cell may be -/
theorem cells_fit {c : Int} {rows : List Row} (hre : ∀ r ∈ rows, r.ok c) : ∀ cl ∈ cellsOf rows, (∃ n, cl = .old n ∧ 0 ≤ n ∧ n < c) ∨ ∃ b, cl = .new b ∧ 0 ≤ b ∧ b < 256 := by
  intro cl hcl
  obtain ⟨r, hr1, hr2⟩ := List.mem_flatMap.mp hcl
  have ho := hre r hr1
  cases r with
  | copy b n =>
    obtain ⟨i, hi, rfl⟩ := List.mem_map.mp hr2
    have hi := List.mem_range.mp hi
    have h1 := ho.1
    have h2 := ho.2.1
    have h3 := ho.2.2
    exact .inl ⟨_, rfl, by omega, by omega⟩
  | run b n =>
    rw [List.eq_of_mem_replicate hr2]
    exact .inr ⟨_, rfl, ho.1, ho.2.1⟩
  | bring bs =>
    obtain ⟨z, hz, rfl⟩ := List.mem_map.mp hr2
    exact .inr ⟨_, rfl, (ho.2 z hz).1, (ho.2 z hz).2⟩
theorem done_B8 {rows : List Row} {es : List Int} (hre : ∀ r ∈ rows, r.ok es.length) (hb : B8 es) : B8 (doneOf rows es) := fun z hz => by
  obtain ⟨cl, hcl, rfl⟩ := List.mem_map.mp hz
  rcases cells_fit hre cl hcl with ⟨n, rfl, n0, n1⟩ | ⟨b, rfl, b0, b1⟩
  · have jl : n.toNat < es.length := by omega
    show 0 ≤ es.getD n.toNat 0 ∧ es.getD n.toNat 0 < 256
    rw [List.getD_eq_getElem?_getD, List.getElem?_eq_getElem jl]
    exact hb _ (List.getElem_mem jl)
  · exact ⟨b0, b1⟩
theorem done_len {c : Int} {rows : List Row} (es : List Int) (hre : ∀ r ∈ rows, r.ok c) : ((doneOf rows es).length : Int) = total rows := by
  show ((((cellsOf rows).map (valOf es)).length : Nat) : Int) = _
  rw [List.length_map]; exact cellsOf_len hre
theorem Good.each {rows : List Row} (h : Good rows) : ∀ r ∈ rows, r.ok 200 ∧ r.len ≤ 200 := fun r hr => ⟨h.1 r hr, Int.le_trans (len_le_of h.1 hr) h.2⟩
theorem Good.few {rows : List Row} (h : Good rows) : (rows.length : Int) ≤ 200 := Int.le_trans (len_le_total h.1) h.2
theorem Good.take {rows : List Row} (h : Good rows) (i : Nat) : Good (rows.take i) := ⟨fun r hr => h.1 r (List.mem_of_mem_take hr), Int.le_trans (total_take_le h.1 i) h.2⟩
theorem Good.nat {rows : List Row} (h : Good rows) : rows.length ≤ 200 := by have := h.few; omega
/-! ### == and != of the program's data -/
/-- the same data, of nesting below n -/
def Sd (K : PySem.W.Frag) (H : Hp) : Nat → V → V → Prop
  | 0, _, _ => False
  | n + 1, x, y => (x = y ∧ flatB x = true) ∨ (∃ a, x = .ref a ∧ y = .ref a) ∨ ∃ a b xs ys, x = .ref a ∧ y = .ref b ∧ ((SqT K H a xs ∧ SqT K H b ys) ∨ (SqL K H a xs ∧ SqL K H b ys)) ∧ Paired (Sd K H n) xs ys
theorem sd_items {A : Around} {s : Shared} {F : V → V → Prop} (ih : ∀ x y v u, F x y → RelV x v → RelV y u → SeqAt.EqAt A s v u true) : ∀ {xs ys : List V}, Paired F xs ys →
    ∀ {us ws : List Value}, Vals xs us → Vals ys ws → ∀ j (h1 : j < us.length) (h2 : j < ws.length), SeqAt.EqAt A s us[j] ws[j] true
  | _, _, .nil, _, _, .nil, _, j, h1, _ => absurd h1 (Nat.not_lt_zero j)
  | _, _, .cons h _, _, _, .cons a _, .cons b _, 0, _, _ => ih _ _ _ _ h a b
  | _, _, .cons _ t, _, _, .cons _ a, .cons _ b, j + 1, h1, h2 => sd_items ih t a b j (Nat.lt_of_succ_lt_succ h1) (Nat.lt_of_succ_lt_succ h2)
section
variable {X : Cx} {pins : List (Addr × Obj)} {σ : L2.St} {H : Hp} {s : Shared}
theorem all_true (n : Nat) : ((List.range n).all fun _ => true) = true := List.all_eq_true.mpr fun _ _ => rfl
theorem sd_run (I : Inv X pins σ H s) : ∀ (n : Nat) (A : Around), A.units + n < cLine → ∀ (x y : V) (v u : Value), Sd X.K H n x y → RelV x v → RelV y u → SeqAt.EqAt A s v u true
  | 0, _, _, _, _, _, _, h, _, _ => h.elim
  | n + 1, A, hu, x, y, v, u, h, rx, ry => by
    rcases h with ⟨rfl, f⟩ | ⟨a, rfl, rfl⟩ | ⟨a, b, xs, ys, rfl, rfl, h, hp⟩
    · exact eqAt_same rx ry f
    · cases (show v = Value.ref a from rx)
      cases (show u = Value.ref a from ry)
      exact SeqAt.EqAt.same _
    · cases (show v = Value.ref a from rx)
      cases (show u = Value.ref b from ry)
      by_cases e : a = b
      · subst e; exact SeqAt.EqAt.same _
      · have rc : SeqAt.RcAt A s (.ref a) (.ref b) true := by
          rcases h with ⟨ha, hb⟩ | ⟨ha, hb⟩
          · obtain ⟨us, r1, p1, _⟩ := I.tuple ha
            obtain ⟨ws, r2, p2, _⟩ := I.tuple hb
            have hsz : us.toArray.size = ws.toArray.size := by rw [List.size_toArray, List.size_toArray, ← r1.length, ← r2.length]; exact Paired.length hp
            have z := SeqAt.RcAt.tuples (A := A) (e := fun _ => true) (show s.heap.IsTuple a us.toArray from p1) (show s.heap.IsTuple b ws.toArray from p2) (by omega) (fun j h1 h2 => by
              have k := sd_items (fun x y v u h rx ry => sd_run I n A.in1 (by show A.units + 1 + n < cLine; omega) x y v u h rx ry) hp r1 r2 j (by simpa using h1) (by simpa using h2)
              simpa using k)
            rw [all_true, hsz] at z
            simpa using z
          · obtain ⟨us, r1, p1, _⟩ := I.list ha
            obtain ⟨ws, r2, p2, _⟩ := I.list hb
            have hsz : us.toArray.size = ws.toArray.size := by rw [List.size_toArray, List.size_toArray, ← r1.length, ← r2.length]; exact Paired.length hp
            have z := SeqAt.RcAt.lists (A := A) (e := fun _ => true) p1.isList p2.isList hsz (by omega) (fun j h1 h2 => by
              have k := sd_items (fun x y v u h rx ry => sd_run I n A.in1 (by show A.units + 1 + n < cLine; omega) x y v u h rx ry) hp r1 r2 j (by simpa using h1) (by simpa using h2)
              simpa using k)
            rw [all_true] at z
            exact z
        intro prog w E Q hq
        unfold eqBool
        refine wpAny_holding ?_
        refine wpAny_ite_split (fun hab => absurd (by have := eq_of_beq hab; injection this) e) (fun _ => ?_)
        exact wpAny_bind (rc prog w E _ (wpAny_truthy_bool hq))
end
/-- a != b of two tuples, or two lists, that are the same -/
def rNeS (K : PySem.W.Frag) : R2 := fun x y H Q => ∃ a b xs ys, x = .ref a ∧ y = .ref b ∧ ((SqT K H a xs ∧ SqT K H b ys) ∨ (SqL K H a xs ∧ SqL K H b ys)) ∧ Paired (Sd K H 60) xs ys ∧ Q (.bl false) H
theorem op_neS {X : Cx} (hu : X.A.units + 64 < cLine) : OpR X (compareOp .NotEq) (rNeS X.K) := by
  intro pins s σ H x y v u Q I rx ry h
  obtain ⟨a, b, xs, ys, rfl, rfl, h, hp, q⟩ := h
  cases (show v = Value.ref a from rx)
  cases (show u = Value.ref b from ry)
  have fin : EP X pins σ Q (.bool false) s := ⟨.bl false, H, I, rfl, q⟩
  have items : ∀ {us ws : List Value}, Vals xs us → Vals ys ws → ∀ j (h1 : j < us.toArray.size) (h2 : j < ws.toArray.size), SeqAt.EqAt X.A.in1 s us.toArray[j] ws.toArray[j] true := fun {us ws} r1 r2 j h1 h2 => by
    have k := sd_items (fun x y v u h rx ry => sd_run I 60 X.A.in1 (by show X.A.units + 1 + 60 < cLine; omega) x y v u h rx ry) hp r1 r2 j (by simpa using h1) (by simpa using h2)
    simpa using k
  rcases h with ⟨ha, hb⟩ | ⟨ha, hb⟩
  · obtain ⟨us, r1, p1, _⟩ := I.tuple ha
    obtain ⟨ws, r2, p2, _⟩ := I.tuple hb
    have hsz : us.toArray.size = ws.toArray.size := by rw [List.size_toArray, List.size_toArray, ← r1.length, ← r2.length]; exact Paired.length hp
    have z := SeqAt.RcNeAt.tuples (A := X.A) (e := fun _ => true) (show s.heap.IsTuple a us.toArray from p1) (show s.heap.IsTuple b ws.toArray from p2) (by omega) (items r1 r2)
    rw [all_true, hsz] at z
    exact z X.prog X.w _ _ (by simpa using fin)
  · obtain ⟨us, r1, p1, _⟩ := I.list ha
    obtain ⟨ws, r2, p2, _⟩ := I.list hb
    have hsz : us.toArray.size = ws.toArray.size := by rw [List.size_toArray, List.size_toArray, ← r1.length, ← r2.length]; exact Paired.length hp
    have z := SeqAt.RcNeAt.lists (A := X.A) (e := fun _ => true) p1.isList p2.isList hsz (by omega) (items r1 r2)
    rw [all_true] at z
    exact z X.prog X.w _ _ fin
section
variable {K : PySem.W.Frag} {H : Hp}
theorem Sd.flat {n : Nat} : ∀ {xs : List V}, (∀ x ∈ xs, flatB x = true) → Paired (Sd K H (n + 1)) xs xs
  | [], _ => .nil
  | x :: xs, h => .cons (.inl ⟨rfl, h x List.mem_cons_self⟩) (Sd.flat fun y hy => h y (List.mem_cons_of_mem _ hy))
theorem Sd.cell {n : Nat} {v u : V} {c : Cell} (h : CellV H v c) (h' : CellV H u c) : Sd K H (n + 2) v u := by
  obtain ⟨p, rfl, hp⟩ := h
  obtain ⟨q, rfl, hq⟩ := h'
  refine .inr (.inr ⟨p, q, _, _, rfl, rfl, .inl ⟨SqT.of hp, SqT.of hq⟩, Sd.flat ?_⟩)
  cases c <;> (intro x hx; simp [Cell.tup] at hx; rcases hx with rfl | rfl <;> rfl)
theorem Sd.piece {n : Nat} {v u : V} {r : Row} (h : PieceV H v r) (h' : PieceV H u r) : Sd K H (n + 2) v u := by
  obtain ⟨p, rfl, hp⟩ := h
  obtain ⟨q, rfl, hq⟩ := h'
  refine .inr (.inr ⟨p, q, _, _, rfl, rfl, .inl ⟨SqT.of hp, SqT.of hq⟩, Sd.flat ?_⟩)
  cases r with
  | copy b n => intro x hx; simp [Row.tup] at hx; rcases hx with rfl | rfl | rfl <;> rfl
  | run b n => intro x hx; simp [Row.tup] at hx; rcases hx with rfl | rfl | rfl <;> rfl
  | bring bs => intro x hx; simp [Row.tup] at hx; rcases hx with rfl | rfl <;> rfl
theorem Sd.pairs {α : Type} {F : V → α → Prop} {n : Nat} (f : ∀ v u c, F v c → F u c → Sd K H n v u) : ∀ {vs us : List V} {cs : List α}, Paired F vs cs → Paired F us cs → Paired (Sd K H n) vs us
  | _, _, _, .nil, .nil => .nil
  | _, _, _, .cons a r, .cons b t => .cons (f _ _ _ a b) (Sd.pairs f r t)
end
theorem op_orD {X : Cx} {f : Value → Value → Sem Value} {r1 r2 : R2} (h1 : OpR X f r1) (h2 : OpR X f r2) : OpR X f (fun x y H Q => r1 x y H Q ∨ r2 x y H Q) := by
  intro pins s σ H x y v u Q I rx ry h
  rcases h with h | h
  · exact h1 pins s σ H x y v u Q I rx ry h
  · exact h2 pins s σ H x y v u Q I rx ry h
/-! ### a statement whose ways meet again; a list against the empty one -/
def tJoin (t : TS) : TS := fun D σ H => ∃ J : L2.St → Hp → Prop, t { D with nx := J } σ H ∧ ∀ σ' H', J σ' H' → D.nx σ' H'
theorem ps_join {X : Cx} {st : Stmt} {t : TS} (h : PS X st t) : PS X st (tJoin t) := by
  refine ⟨fun pins s σ H D I hh => ?_⟩
  obtain ⟨J, h1, h2⟩ := hh
  refine thn (h.run pins s σ H { D with nx := J } I h1) fun f s' q => ?_
  cases f with
  | next =>
    obtain ⟨σ', H', I', j⟩ := q
    exact ⟨σ', H', I', h2 _ _ j⟩
  | ret u => exact q
  | brk => exact q
  | cont => exact q
def rNeEmpty : R2 := fun x y H Q => ∃ a b xs, x = .ref a ∧ y = .ref b ∧ H a = some (.lst xs) ∧ H b = some (.lst []) ∧ Q (.bl (!xs.isEmpty)) H
theorem op_neEmpty {X : Cx} (hu : X.A.units + 64 < cLine) : OpR X (compareOp .NotEq) rNeEmpty := by
  intro pins s σ H x y v u Q I rx ry h
  obtain ⟨a, b, xs, rfl, rfl, ha, hb, q⟩ := h
  cases (show v = Value.ref a from rx)
  cases (show u = Value.ref b from ry)
  obtain ⟨us, r1, p1, _⟩ := I.list (SqL.of ha)
  obtain ⟨ws, r2, p2, _⟩ := I.list (SqL.of hb)
  cases r2
  cases r1 with
  | nil =>
    have z := SeqAt.RcNeAt.lists (A := X.A) (e := fun _ => true) p1.isList p2.isList rfl (by omega) (fun j h1 => absurd h1 (Nat.not_lt_zero j))
    exact z X.prog X.w _ _ ⟨.bl false, H, I, rfl, q⟩
  | cons c t =>
    have z := SeqAt.RcNeAt.lists_lengths (A := X.A) p1.isList p2.isList (by simp) (by omega)
    exact z X.prog X.w _ _ ⟨.bl true, H, I, rfl, q⟩
theorem op_notIn_rng {X : Cx} : OpR X (compareOp .NotIn) (fun x y H Q => ∃ i a lo hi, x = V.int i ∧ y = V.ref a ∧ H a = some (.rng lo hi) ∧ Q (.bl (!decide (lo ≤ i ∧ i < hi))) H) := by
  intro pins s σ H x y v u Q I rx ry h
  obtain ⟨i, a, lo, hi, rfl, rfl, ha, q⟩ := h
  obtain ⟨k, rfl⟩ := rx
  obtain rfl : u = Value.ref a := ry
  obtain ⟨t1, t2, t3, ho⟩ := I.hok a _ ha
  refine NotIn_slot (T := "range") ⟨_, ho, rfl⟩ PySem.F.slot_range_contains (call_meets PySem.F.slot_range_contains ⟨_, ho, rfl⟩ PySem.F.entry_range_contains (PySem.F.args_range_contains_2 _ _) (q_contains a lo hi i t1 t2 t3 k) ⟨ho, wpAny_truthy_bool ⟨.bl _, H, I, rfl, ?_⟩⟩)
  show Q (.bl (!(Builtin.Range.rangePlace? lo hi 1 i).isSome)) H
  rw [place1]
  exact q
theorem atIb {bs : List Int} {z b : Int} (h0 : 0 ≤ z) (h : bs[z.toNat]? = some b) : atI (bs.map V.int) z = some (.int b) := at_of (j := z.toNat) (by omega) (by rw [List.getElem?_map, h]; rfl)
/-! ### texts of patches -/
open TL
theorem PI_or {X : Cx} {tg e : Expr} {i j : TI} (h : PI X tg e i) (h' : PI X tg e j) : PI X tg e (fun σ H R => i σ H R ∨ j σ H R) :=
  ⟨fun pins s σ H R I q => q.elim (fun q => h.run pins s σ H R I q) fun q => h'.run pins s σ H R I q⟩
theorem callR_or {X : Cx} {c : Value} {r r' : List V → Hp → VK → Prop} (h : CallR X c r) (h' : CallR X c r') : CallR X c (fun xs H Q => r xs H Q ∨ r' xs H Q) := by
  intro pins s σ H xs us Q I rx q
  rcases q with q | q
  · exact h pins s σ H xs us Q I rx q
  · exact h' pins s σ H xs us Q I rx q
/-- None in a list of tuples -/
def rNoneTup (K : PySem.W.Frag) : R2 := fun x y H Q => ∃ p xs, x = V.non ∧ y = .ref p ∧ SqL K H p xs ∧ (∀ z ∈ xs, ∃ a ys, z = .ref a ∧ SqT K H a ys) ∧ Q (.bl false) H
theorem op_noneTup {X : Cx} (hu : X.A.units + 64 < cLine) : OpR X (compareOp .In) (rNoneTup X.K) := by
  intro pins s σ H x y v u Q I rx ry h
  obtain ⟨p, xs, rfl, rfl, hp, hz, q⟩ := h
  cases (show v = Value.none from rx)
  cases (show u = Value.ref p from ry)
  obtain ⟨its, rv, pl, _⟩ := I.list hp
  have each : ∀ w, w ∈ its.toArray → SeqAt.EqAt X.A.in1 s w .none ((fun _ => false) w) := fun w hw => by
    have hw : w ∈ its := by simpa using hw
    obtain ⟨i, hi, e⟩ := List.mem_iff_getElem.mp hw
    have hx : i < xs.length := by rw [rv.length]; exact hi
    obtain ⟨u, hu', ru⟩ := rv.get (i := i) (x := xs[i]) (List.getElem?_eq_getElem hx)
    rw [List.getElem?_eq_getElem hi] at hu'
    injection hu' with hu'
    obtain ⟨a, ys, ez, ht⟩ := hz _ (List.getElem_mem hx)
    rw [ez] at ru
    have ru : u = Value.ref a := ru
    rw [← e, hu', ru]
    obtain ⟨ws, _, pt, _⟩ := I.tuple ht
    exact SeqAt.EqAt.tuple_none (show s.heap.IsTuple a ws.toArray from pt) (by show X.A.units + 1 < cLine; omega)
  refine SeqAt.in_listAt (fun _ => false) pl.isList each ?_
  refine ⟨.bl false, H, I, ?_, q⟩
  have : its.toArray.any (fun _ => false) = false := by simp
  rw [this]
  rfl
def strI (n : Int) : Str := Str.ofString (toString n)
theorem tl_strI {n : Int} (h : 0 ≤ n) : tl (strI n) = numL n.toNat := by
  obtain ⟨k, rfl⟩ : ∃ k : Nat, n = (k : Int) := ⟨n.toNat, by omega⟩
  rw [Int.toNat_natCast]
  exact tl_num k
def rowWords : Row → List Str
  | .copy b n => ["copy", strI b, strI n]
  | .run b n => ["run", strI b, strI n]
  | .bring bs => "bring" :: bs.map strI
def rowText (r : Row) : Str := Txt.join " " (rowWords r)
def patchText (rows : List Row) : Str := Txt.join "\n" (rows.map rowText)
theorem tl_sp : tl (" " : Str) = [32] := by decide +kernel
theorem tl_nl : tl ("\n" : Str) = [10] := by decide +kernel
/-- a word has no blank, no line end, is not empty, has up to five signs -/
structure Word (w : Str) : Prop where
  sp : 32 ∉ tl w
  nl : 10 ∉ tl w
  ne : tl w ≠ []
  few : (tl w).length ≤ 5
theorem word_num {n : Int} (h0 : 0 ≤ n) (h1 : n < 1000) : Word (strI n) := by
  have e := tl_strI h0
  refine ⟨?_, ?_, ?_, ?_⟩
  · rw [e]; exact numL_free (by omega)
  · rw [e]; exact numL_free (by omega)
  · rw [e]; exact numL_ne _
  · rw [e]
    have := numL_len (n := n.toNat) (k := 3) (by decide) (by omega)
    omega
theorem word_of (w : Str) (h : (decide (32 ∉ tl w) && decide (10 ∉ tl w) && decide (tl w ≠ []) && decide ((tl w).length ≤ 5)) = true) : Word w := by
  simp only [Bool.and_eq_true, decide_eq_true_iff] at h
  exact ⟨h.1.1.1, h.1.1.2, h.1.2, h.2⟩
theorem words_ok {r : Row} (h : r.ok 200) (hl : r.len ≤ 200) : ∀ w ∈ rowWords r, Word w := by
  cases r with
  | copy b n =>
    have h1 := h.1
    have h2 := h.2.1
    have h3 := h.2.2
    intro w hw
    rcases List.mem_cons.mp hw with rfl | hw
    · exact word_of _ (by decide +kernel)
    · rcases List.mem_cons.mp hw with rfl | hw
      · exact word_num h1 (by omega)
      · rw [List.mem_singleton.mp hw]
        exact word_num (by omega) (by omega)
  | run b n =>
    have h1 := h.1
    have h2 := h.2.1
    have h3 := h.2.2
    have hl : n ≤ 200 := hl
    intro w hw
    rcases List.mem_cons.mp hw with rfl | hw
    · exact word_of _ (by decide +kernel)
    · rcases List.mem_cons.mp hw with rfl | hw
      · exact word_num h1 (by omega)
      · rw [List.mem_singleton.mp hw]
        exact word_num (by omega) (by omega)
  | bring bs =>
    intro w hw
    rcases List.mem_cons.mp hw with rfl | hw
    · exact word_of _ (by decide +kernel)
    · obtain ⟨z, hz, rfl⟩ := List.mem_map.mp hw
      have := h.2 z hz
      exact word_num this.1 (by omega)
theorem words_len {r : Row} (h : r.ok 200) (hl : r.len ≤ 200) : (rowWords r).length ≤ 201 ∧ rowWords r ≠ [] := by
  cases r with
  | copy b n => exact ⟨by show 3 ≤ 201; decide, by simp [rowWords]⟩
  | run b n => exact ⟨by show 3 ≤ 201; decide, by simp [rowWords]⟩
  | bring bs =>
    have hl : (bs.length : Int) ≤ 200 := hl
    refine ⟨?_, by simp [rowWords]⟩
    show (bs.map strI).length + 1 ≤ 201
    rw [List.length_map]
    omega
theorem joinL_len {S : List Nat} : ∀ (ps : List (List Nat)), (joinL S ps).length ≤ (ps.map List.length).sum + ps.length * S.length
  | [] => Nat.zero_le _
  | [p] => by show p.length ≤ p.length + 0 + 1 * _; omega
  | p :: q :: r => by
    have ih := joinL_len (S := S) (q :: r)
    show (p ++ (S ++ joinL S (q :: r))).length ≤ _
    rw [List.length_append, List.length_append, List.map_cons, List.sum_cons, List.length_cons, Nat.succ_mul]
    omega
theorem joinL_free {S : List Nat} {s : Nat} (hS : s ∉ S) : ∀ (ps : List (List Nat)), (∀ p ∈ ps, s ∉ p) → s ∉ joinL S ps
  | [], _ => List.not_mem_nil
  | [p], h => h p List.mem_cons_self
  | p :: q :: r, h => by
    have ih := joinL_free hS (q :: r) fun x hx => h x (List.mem_cons_of_mem _ hx)
    intro z
    have z : s ∈ p ++ (S ++ joinL S (q :: r)) := z
    rcases List.mem_append.mp z with z | z
    · exact h p List.mem_cons_self z
    · rcases List.mem_append.mp z with z | z
      · exact hS z
      · exact ih z
theorem joinL_ne {S : List Nat} : ∀ (ps : List (List Nat)), ps ≠ [] → (∀ p ∈ ps, p ≠ []) → joinL S ps ≠ []
  | [], h, _ => absurd rfl h
  | [p], _, h => h p List.mem_cons_self
  | p :: q :: r, _, h => by
    have := h p List.mem_cons_self
    show p ++ _ ≠ []
    intro z
    exact this (List.append_eq_nil_iff.mp z).1
theorem sum_le {l : List Nat} {k : Nat} (h : ∀ x ∈ l, x ≤ k) : l.sum ≤ l.length * k := by
  induction l with
  | nil => simp
  | cons a l ih =>
    have a1 := h a List.mem_cons_self
    have a2 := ih fun x hx => h x (List.mem_cons_of_mem _ hx)
    rw [List.sum_cons, List.length_cons, Nat.succ_mul]
    omega
theorem tl_joinT (y : Str) (parts : List Str) : tl (Txt.join y parts) = joinL (tl y) (parts.map tl) := by rw [join_eq, tl_join]
theorem rowText_fits {r : Row} (h : r.ok 200) (hl : r.len ≤ 200) : (tl (rowText r)).length ≤ 1206 ∧ 10 ∉ tl (rowText r) ∧ tl (rowText r) ≠ [] := by
  have w := words_ok h hl
  have l := words_len h hl
  have e : tl (rowText r) = joinL [32] ((rowWords r).map tl) := by
    unfold rowText
    rw [tl_joinT, tl_sp]
  rw [e]
  refine ⟨?_, joinL_free (by decide) _ fun p hp => ?_, joinL_ne _ (fun z => l.2 (List.map_eq_nil_iff.mp z)) fun p hp => ?_⟩
  · have a := joinL_len (S := [32]) ((rowWords r).map tl)
    have b := sum_le (l := ((rowWords r).map tl).map List.length) (k := 5) fun x hx => by
      obtain ⟨y, hy, rfl⟩ := List.mem_map.mp hx
      obtain ⟨z, hz, rfl⟩ := List.mem_map.mp hy
      exact (w z hz).few
    rw [List.length_map, List.length_map] at b
    rw [List.length_map] at a
    rw [show ([32] : List Nat).length = 1 from rfl, Nat.mul_one] at a
    omega
  · obtain ⟨z, hz, rfl⟩ := List.mem_map.mp hp
    exact (w z hz).nl
  · obtain ⟨z, hz, rfl⟩ := List.mem_map.mp hp
    exact (w z hz).ne
theorem row_split {r : Row} (h : r.ok 200) (hl : r.len ≤ 200) : Txt.split (rowText r) " " = rowWords r :=
  split_join tl_sp (by decide +kernel) (words_len h hl).2 fun p hp => (words_ok h hl p hp).sp
theorem text_split {rows : List Row} (h : ∀ r ∈ rows, r.ok 200 ∧ r.len ≤ 200) (hne : rows ≠ []) : Txt.split (patchText rows) "\n" = rows.map rowText :=
  split_join tl_nl (by decide +kernel) (fun z => hne (List.map_eq_nil_iff.mp z)) fun p hp => by
    obtain ⟨r, hr, rfl⟩ := List.mem_map.mp hp
    exact (rowText_fits (h r hr).1 (h r hr).2).2.1
theorem text_fits {rows : List Row} (h : ∀ r ∈ rows, r.ok 200 ∧ r.len ≤ 200) (hl : rows.length ≤ 200) : (tl (patchText rows)).length ≤ 300000 ∧ (rows ≠ [] → tl (patchText rows) ≠ []) := by
  have e : tl (patchText rows) = joinL [10] ((rows.map rowText).map tl) := by
    unfold patchText
    rw [tl_joinT, tl_nl]
  rw [e]
  refine ⟨?_, fun ne => joinL_ne _ (fun z => ne (List.map_eq_nil_iff.mp (List.map_eq_nil_iff.mp z))) fun p hp => ?_⟩
  · have a := joinL_len (S := [10]) ((rows.map rowText).map tl)
    have b := sum_le (l := ((rows.map rowText).map tl).map List.length) (k := 1206) fun x hx => by
      obtain ⟨y, hy, rfl⟩ := List.mem_map.mp hx
      obtain ⟨z, hz, rfl⟩ := List.mem_map.mp hy
      obtain ⟨r, hr, rfl⟩ := List.mem_map.mp hz
      exact (rowText_fits (h r hr).1 (h r hr).2).1
    rw [List.length_map, List.length_map, List.length_map] at b
    rw [List.length_map, List.length_map] at a
    rw [show ([10] : List Nat).length = 1 from rfl, Nat.mul_one] at a
    omega
  · obtain ⟨z, hz, rfl⟩ := List.mem_map.mp hp
    obtain ⟨r, hr, rfl⟩ := List.mem_map.mp hz
    exact (rowText_fits (h r hr).1 (h r hr).2).2.2
/-- no needless 0 ahead -/
theorem numL_head : ∀ (n : Nat), 1 ≤ n → ∀ c r, numL n = c :: r → c ≠ 48 := by
  intro n
  induction n using Nat.strongRecOn with
  | _ n ih =>
    intro h1 c r e
    by_cases h : n < 10
    · rw [numL_lt h] at e
      injection e with e
      omega
    · rw [numL_step (by omega)] at e
      have q := ih (n / 10) (by omega) (by omega)
      cases hn : numL (n / 10) with
      | nil => exact absurd hn (numL_ne _)
      | cons a l =>
        rw [hn] at e
        injection e with e
        rw [← e]
        exact q a l hn
/-! ### words of any text: numbers, pieces -/
set_option pp.maxSteps 400
open TL
theorem snoc_ind {α : Type} {p : List α → Prop} (h0 : p []) (h1 : ∀ l c, p l → p (l ++ [c])) : ∀ l, p l := by
  intro l
  have : ∀ n (l : List α), l.length = n → p l := by
    intro n
    induction n with
    | zero => intro l h; rw [List.length_eq_zero_iff.mp h]; exact h0
    | succ n ih =>
      intro l h
      have ne : l ≠ [] := fun z => by rw [z] at h; cases h
      rw [← List.dropLast_concat_getLast ne]
      exact h1 _ _ (ih _ (by rw [List.length_dropLast]; omega))
  exact this _ l rfl
def digB (c : Nat) : Bool := decide (48 ≤ c) && decide (c ≤ 57)
def valL (l : List Nat) : Nat := l.foldl (fun a c => a * 10 + (c - 48)) 0
def zeroB (l : List Nat) : Bool := decide (l.headD 0 = 48) && decide (1 < l.length)
theorem zeroB_yes {l : List Nat} (h : l.headD 0 = 48) (h1 : 1 < l.length) : zeroB l = true := by unfold zeroB; rw [decide_eq_true h, decide_eq_true h1]; rfl
theorem zeroB_no {l : List Nat} (h : l.headD 0 ≠ 48 ∨ ¬ 1 < l.length) : zeroB l = false := by
  unfold zeroB
  rcases h with h | h
  · rw [decide_eq_false h, Bool.false_and]
  · rw [decide_eq_false h, Bool.and_false]
/-- the number that a word tells -/
def numW (w : Str) : Option Int := if decide (1 ≤ (tl w).length) && decide ((tl w).length ≤ 3) && (tl w).all digB && !zeroB (tl w) then some (valL (tl w) : Int) else none
theorem valL_snoc (l : List Nat) (c : Nat) : valL (l ++ [c]) = valL l * 10 + (c - 48) := by unfold valL; rw [List.foldl_append]; rfl
theorem numL_val : ∀ (n : Nat) (l : List Nat), l.length = n → l ≠ [] → l.all digB = true → zeroB l = false → numL (valL l) = l := by
  intro n
  induction n with
  | zero => intro l h ne; exact absurd (List.length_eq_zero_iff.mp h) ne
  | succ n ih =>
    intro l h ne dg nz
    obtain ⟨l', c, rfl⟩ : ∃ l' c, l = l' ++ [c] := ⟨l.dropLast, l.getLast ne, (List.dropLast_concat_getLast ne).symm⟩
    rw [List.all_append, Bool.and_eq_true] at dg
    have dc : 48 ≤ c ∧ c ≤ 57 := by
      have := dg.2
      rw [List.all_cons, List.all_nil, Bool.and_true] at this
      unfold digB at this
      rw [Bool.and_eq_true, decide_eq_true_iff, decide_eq_true_iff] at this
      exact this
    rw [valL_snoc]
    cases e : l' with
    | nil =>
      show numL (0 * 10 + (c - 48)) = [c]
      rw [numL_lt (by omega)]
      congr 1
      omega
    | cons x r =>
      rw [← e]
      have ne' : l' ≠ [] := by rw [e]; simp
      have hd : x ≠ 48 := by
        rintro rfl
        unfold zeroB at nz
        rw [e] at nz
        simp at nz
      have nz' : zeroB l' = false := by
        unfold zeroB
        rw [e]
        show (decide (x = 48) && _) = false
        rw [decide_eq_false hd]
        rfl
      have hl : l'.length = n := by
        rw [List.length_append] at h
        have h : l'.length + 1 = n + 1 := h
        omega
      have q := ih l' hl ne' dg.1 nz'
      have pos : 1 ≤ valL l' := by
        rcases Nat.eq_zero_or_pos (valL l') with z | z
        · rw [z, numL_lt (by decide), e] at q
          injection q with q _
          exact absurd q.symm hd
        · exact z
      rw [numL_step (by omega), show (valL l' * 10 + (c - 48)) / 10 = valL l' by omega, q]
      congr 2
      omega
theorem valL_lt : ∀ (l : List Nat), l.all digB = true → valL l < 10 ^ l.length := by
  refine snoc_ind (fun _ => by decide) fun l c ih dg => ?_
  · 
    rw [List.all_append, Bool.and_eq_true] at dg
    have dc : 48 ≤ c ∧ c ≤ 57 := by
      have := dg.2
      rw [List.all_cons, List.all_nil, Bool.and_true] at this
      unfold digB at this
      rw [Bool.and_eq_true, decide_eq_true_iff, decide_eq_true_iff] at this
      exact this
    have := ih dg.1
    rw [valL_snoc, List.length_append, show l.length + [c].length = l.length + 1 from rfl, Nat.pow_succ]
    omega
theorem numW_is {w : Str} {n : Int} (h : numW w = some n) : w = strI n ∧ 0 ≤ n ∧ n < 1000 := by
  unfold numW at h
  split at h
  · rename_i c
    injection h with h
    rw [Bool.and_eq_true, Bool.and_eq_true, Bool.and_eq_true, decide_eq_true_iff, decide_eq_true_iff] at c
    obtain ⟨⟨⟨c1, c2⟩, c3⟩, c4⟩ := c
    have c4 : zeroB (tl w) = false := by
      cases z : zeroB (tl w) with
      | false => rfl
      | true => rw [z] at c4; cases c4
    have e := numL_val _ (tl w) rfl (List.length_pos_iff.mp c1) c3 c4
    have lt := valL_lt (tl w) c3
    have : 10 ^ (tl w).length ≤ 10 ^ 3 := Nat.pow_le_pow_right (by decide) c2
    subst h
    refine ⟨?_, by omega, by omega⟩
    refine ext_tl ?_
    rw [tl_strI (by omega), Int.toNat_natCast, e]
  · cases h
def allNum : List Str → Option (List Int)
  | [] => some []
  | w :: r => match numW w, allNum r with
    | some n, some ns => some (n :: ns)
    | _, _ => none
theorem allNum_some : ∀ {ws : List Str} {ns : List Int}, allNum ws = some ns → ws.map numW = ns.map some
  | [], ns, h => by injection h with h; rw [← h]; rfl
  | w :: r, ns, h => by
    unfold allNum at h
    cases e1 : numW w with
    | none => rw [e1] at h; cases h
    | some n =>
      cases e2 : allNum r with
      | none => rw [e1, e2] at h; cases h
      | some ms =>
        rw [e1, e2] at h
        injection h with h
        rw [← h, List.map_cons, List.map_cons, e1, allNum_some e2]
theorem allNum_none : ∀ {ws : List Str}, allNum ws = none → none ∈ ws.map numW
  | [], h => by cases h
  | w :: r, h => by
    unfold allNum at h
    cases e1 : numW w with
    | none => rw [List.map_cons, e1]; exact List.mem_cons_self
    | some n =>
      cases e2 : allNum r with
      | none => rw [List.map_cons]; exact List.mem_cons_of_mem _ (allNum_none e2)
      | some ms => rw [e1, e2] at h; cases h
theorem allNum_of {ws : List Str} (h : none ∉ ws.map numW) : ∃ ns, allNum ws = some ns := by
  cases e : allNum ws with
  | none => exact absurd (allNum_none e) h
  | some ns => exact ⟨ns, rfl⟩
/-- the piece that a row's words tell -/
def bringN (ns : List Int) : Option Row := if decide (ns = []) || ns.any (fun n => decide (255 < n)) then none else some (.bring ns)
def twoN (w : Str) : List Int → Option Row
  | [a, b] => if w = "copy" then some (.copy a b) else if w = "run" then some (.run a b) else none
  | _ => none
def pieceN (w : Str) : Option (List Int) → Option Row
  | none => none
  | some ns => if w = "bring" then bringN ns else twoN w ns
theorem pieceN_some (w : Str) (ns : List Int) : pieceN w (some ns) = if w = "bring" then bringN ns else twoN w ns := rfl
theorem twoN_two (w : Str) (a b : Int) : twoN w [a, b] = if w = "copy" then some (.copy a b) else if w = "run" then some (.run a b) else none := rfl
theorem twoN_not {w : Str} {ns : List Int} (h : ns.length ≠ 2) : twoN w ns = none := by
  match ns, h with
  | [], _ => rfl
  | [_], _ => rfl
  | [_, _], h => exact absurd rfl h
  | _ :: _ :: _ :: _, _ => rfl
def pieceW : List Str → Option Row
  | [] => none
  | w :: rest => pieceN w (allNum rest)
def linesW (t : Str) : List Str := if t = "" then [] else Txt.split t "\n"
def rowsW (t : Str) : List (Option Row) := (linesW t).map fun l => pieceW (Txt.split l " ")
/-- what a row tells: numbers below a thousand, bytes -/
def Loose : Row → Prop
  | .copy b n => 0 ≤ b ∧ b < 1000 ∧ 0 ≤ n ∧ n < 1000
  | .run b n => 0 ≤ b ∧ b < 1000 ∧ 0 ≤ n ∧ n < 1000
  | .bring bs => 1 ≤ bs.length ∧ B8 bs
theorem allNum_each {ws : List Str} {ns : List Int} (h : allNum ws = some ns) : ∀ n ∈ ns, 0 ≤ n ∧ n < 1000 := by
  intro n hn
  have e := allNum_some h
  have : some n ∈ ws.map numW := by rw [e]; exact List.mem_map.mpr ⟨n, hn, rfl⟩
  obtain ⟨w, _, hw⟩ := List.mem_map.mp this
  exact (numW_is hw).2
theorem pieceW_loose {ws : List Str} {r : Row} (h : pieceW ws = some r) : Loose r := by
  cases ws with
  | nil => cases h
  | cons w rest =>
    have h : pieceN w (allNum rest) = some r := h
    cases e : allNum rest with
    | none => rw [e] at h; cases h
    | some ns =>
      rw [e] at h
      have each := allNum_each e
      rw [pieceN_some] at h
      by_cases c1 : w = "bring"
      · rw [if_pos c1] at h
        unfold bringN at h
        by_cases c2 : (decide (ns = []) || ns.any (fun n => decide (255 < n))) = true
        · rw [if_pos c2] at h; cases h
        · rw [if_neg c2] at h
          injection h with h
          subst h
          rw [Bool.or_eq_true, not_or, decide_eq_true_iff, List.any_eq_true] at c2
          refine ⟨List.length_pos_iff.mpr c2.1, fun n hn => ?_⟩
          have := each n hn
          refine ⟨this.1, ?_⟩
          by_cases q : 255 < n
          · exact absurd ⟨n, hn, decide_eq_true q⟩ c2.2
          · omega
      · rw [if_neg c1] at h
        by_cases cl : ns.length = 2
        · match ns, cl, h, each with
          | [a, b], _, h, each =>
            have ha := each a (by simp)
            have hb := each b (by simp)
            rw [twoN_two] at h
            by_cases c2 : w = "copy"
            · rw [if_pos c2] at h
              injection h with h
              subst h
              exact ⟨ha.1, ha.2, hb.1, hb.2⟩
            · rw [if_neg c2] at h
              by_cases c3 : w = "run"
              · rw [if_pos c3] at h
                injection h with h
                subst h
                exact ⟨ha.1, ha.2, hb.1, hb.2⟩
              · rw [if_neg c3] at h; cases h
        · rw [twoN_not cl] at h; cases h
/-! ### number_of, of any word -/
set_option pp.maxSteps 600
open TL
def strsV (l : List Str) : List V := l.map V.str
def optV : Option Int → V
  | some n => .int n
  | none => .non
def spNumberX : Sp := fun vs H Q _ => ∃ w : Str, vs = [.str w, .int 3] ∧ w.length ≤ 8000000 ∧ ∀ H', Same H H' → Q (optV (numW w)) H'
section
variable {P : Program} {w : World} {K : PySem.W.Frag} {mg : Str → Option Value} {base : Heap}
theorem digits_tl : tl ("0123456789" : Str) = [48, 49, 50, 51, 52, 53, 54, 55, 56, 57] := by decide +kernel
theorem dig_in (c : Nat) : decide (c ∈ tl ("0123456789" : Str)) = digB c := by
  rw [digits_tl]
  unfold digB
  by_cases h : 48 ≤ c ∧ c ≤ 57
  · rw [decide_eq_true h.1, decide_eq_true h.2]
    have : c = 48 ∨ c = 49 ∨ c = 50 ∨ c = 51 ∨ c = 52 ∨ c = 53 ∨ c = 54 ∨ c = 55 ∨ c = 56 ∨ c = 57 := by omega
    rcases this with rfl | rfl | rfl | rfl | rfl | rfl | rfl | rfl | rfl | rfl <;> decide
  · have : (decide (48 ≤ c) && decide (c ≤ 57)) = false := by
      rw [Bool.and_eq_false_iff, decide_eq_false_iff_not, decide_eq_false_iff_not]
      omega
    rw [this, decide_eq_false]
    intro z
    simp at z
    omega
theorem ok_number_of (T : All K mg) : FnOk P w K mg base CX0 1 T.d_number_of.f T.d_number_of.fd ["word", "figures"] spNumberX := by
  refine T.d_number_of.F.ok sc_number_of (fun vs H Q E h => ?_) (fun cdv A outer s H vs Q E hr h => ?_)
  · obtain ⟨_, rfl, _⟩ := h
    rfl
  · obtain ⟨x, rfl, xl, k⟩ := h
    refine ⟨_, (pss_cons 
      (ps_if (PW.pt (pw_or (pt_not (pt_chain op_le op_le pe_int (pe_callB call_len (by rfl) T.b_len PySem.boot_len (pa_cons (pv 0) pa_nil)) (pv 1))) (pw_or1 (pt_not (pt_val (pe_callB (cr_all rfl) (by rfl) T.b_all (by decide +kernel) (pa_cons (pe_lc (own := [("sign", 2)]) (g := gName 2) (tt := tYes) rfl sc_number_of.nd (pi_str (pv 0)) (blkOk_by (own := [("sign", 2)]) (N := ["word", "figures", "sign"]) (sc := defScope s_number_of) (by decide +kernel)) (fun _ _ _ _ _ => (pg_name (i := 2) sc_number_of.nd rfl (Or.inl rfl))) (fun _ _ _ _ _ => pts_nil) (fun _ _ _ _ _ => (pe_cmpR op_inS (pv 2) (pe_glob (v := .str "0123456789") rfl T.c_FIGURES ⟨_, rfl⟩) (by with_unfolding_all rfl)))) pa_nil))))))) (pss_one 
      (ps_ret pe_non)) pss_nil) (pss_cons 
      (ps_if (PW.pt (pw_and (pt_cmpR op_eq (pe_item_str (pv 0) pe_int (fun _ _ => rfl)) pe_str (nomark _)) (pw_and1 (pt_cmpR op_gt (pe_callB call_len (by rfl) T.b_len PySem.boot_len (pa_cons (pv 0) pa_nil)) pe_int (nomark _))))) (pss_one 
      (ps_ret pe_non)) pss_nil) (pss_one 
      (ps_ret (pe_callTy call_int_str (by rfl) T.b_int PyProof.Rows.boot_int (pa_cons (pv 0) pa_nil)))))), ?_⟩
    have len : x.length = (tl x).length := len_tl x
    have sz : x.length ≤ sizeLine := by rw [sizeLine_eq]; omega
    refine ⟨_, rfl, _, x.length, rfl, ⟨sz, rfl⟩, _, _, rfl, rfl, _, rfl, ?_⟩
    by_cases c1 : 1 ≤ x.length
    · rw [decide_eq_true (show (1 : Int) ≤ (x.length : Int) by omega)]
      refine iteT ⟨_, rfl, _, _, rfl, rfl, _, rfl, ?_⟩
      by_cases c2 : x.length ≤ 3
      · rw [decide_eq_true (show (x.length : Int) ≤ 3 by omega)]
        refine iteF ?_
        refine ⟨_, rfl, _, rfl, fun D hD => lc_it walk_str (fun i H2 => Same H H2 ∧ H2 D = some (.lst (((tl x).take i).map fun c => V.bl (digB c)))) ⟨Same.new hD, upd_same⟩ (fun _ _ _ _ => trivial) ?_ ?_⟩
        · rintro i y H2 H3 hi ⟨s2, hd⟩ ⟨rfl, c, hc, rfl⟩
          have hc' : (tl x)[i]? = some c := by rw [Array.getElem?_toList]; exact hc
          refine ⟨rfl, _, rfl, c, _, rfl, rfl, ?_⟩
          rw [dig_in]
          refine ⟨_, hd, sizeL ?_, fun b o z => ?_, ?_⟩
          · rw [List.length_map, List.length_take]
            omega
          · rw [upd_ne (ne_of_none z hD)]
            exact s2 _ _ z
          · rw [upd_same, take_snoc hc', List.map_append]
            rfl
        · rintro H2 ⟨s2, hd⟩
          have hall : ((tl x).take x.cps.size).map (fun c => V.bl (digB c)) = ((tl x).map digB).map V.bl := by
            rw [List.take_of_length_le (by rw [← len]; exact Nat.le_refl _), List.map_map]
            rfl
          rw [hall] at hd
          refine ⟨D, _, rfl, SqL.of hd, _, rfl, ?_⟩
          have ai : ((tl x).map digB).all id = (tl x).all digB := by rw [List.all_map]; rfl
          rw [ai]
          cases c3 : (tl x).all digB with
          | false =>
            refine iteT ?_
            have : numW x = none := by unfold numW; rw [c3, Bool.and_false, Bool.false_and]; rfl
            have kk := k H2 s2
            rw [this] at kk
            exact kk
          | true =>
            refine iteF ?_
            obtain ⟨c, rest, ec⟩ : ∃ c rest, tl x = c :: rest := by
              cases h : tl x with
              | nil => rw [h] at len; have : x.length = 0 := len; omega
              | cons c rest => exact ⟨c, rest, rfl⟩
            have hc : x.cps[(0 : Int).toNat]? = some c := by
              have z : (tl x)[0]? = some c := by rw [ec]; rfl
              rw [Array.getElem?_toList] at z
              exact z
            have base : (decide (1 ≤ (tl x).length) && decide ((tl x).length ≤ 3) && (tl x).all digB) = true := by
              rw [c3, decide_eq_true (show 1 ≤ (tl x).length by omega), decide_eq_true (show (tl x).length ≤ 3 by omega)]
              rfl
            have kk := k H2 s2
            unfold numW at kk
            rw [base] at kk
            have lst : zeroB (tl x) = false → ∃ a n, [V.str x] = [V.str a] ∧ PySem.intText? a = some n ∧ a.length ≤ 640 ∧ Q (.int n) H2 := fun z => by
              rw [z] at kk
              have kk : Q (.int (valL (tl x) : Int)) H2 := kk
              have e := numL_val _ (tl x) rfl (by rw [ec]; simp) c3 z
              have ex : x = strI (valL (tl x) : Int) := by
                refine ext_tl ?_
                rw [tl_strI (by omega), Int.toNat_natCast, e]
              refine ⟨x, (valL (tl x) : Int), rfl, ?_, by omega, kk⟩
              have := int_num (n := valL (tl x)) (by rw [e]; omega)
              rw [show Str.ofString (toString ((valL (tl x) : Nat) : Int)) = x from ex.symm] at this
              exact this
            refine ⟨_, rfl, _, _, c, rfl, rfl, by decide, by decide, by omega, hc, rfl, _, rfl, ite2 (fun h => ?_) fun h => ?_⟩
            · have h := of_decide_eq_true h
              injection h with h
              have h2 : [c] = [48] := by
                have z := congrArg tl h
                have y : tl ("0" : Str) = [48] := by decide +kernel
                rw [y] at z
                exact z
              injection h2 with h2 _
              subst h2
              refine ⟨_, rfl, _, x.length, rfl, ⟨sz, rfl⟩, _, _, rfl, rfl, _, rfl, ite2 (fun h => ?_) fun h => ?_⟩
              · have h : (1 : Int) < (x.length : Int) := of_decide_eq_true h
                have z : zeroB (tl x) = true := zeroB_yes (by rw [ec]; rfl) (by omega)
                rw [z] at kk
                exact kk
              · have h : ¬ (1 : Int) < (x.length : Int) := fun q => h (decide_eq_true q)
                have z : zeroB (tl x) = false := by
                  unfold zeroB
                  rw [decide_eq_false (show ¬ 1 < (tl x).length by omega), Bool.and_false]
                exact ⟨_, rfl, lst z⟩
            · have z : zeroB (tl x) = false := zeroB_no (.inl (by
                rw [ec]
                rintro rfl
                exact h (decide_eq_true (by congr 1))))
              exact iteF ⟨_, rfl, lst z⟩
      · rw [decide_eq_false (show ¬ (x.length : Int) ≤ 3 by omega)]
        refine iteT ?_
        have : numW x = none := by unfold numW; rw [decide_eq_false (show ¬ (tl x).length ≤ 3 by omega), Bool.and_false, Bool.false_and, Bool.false_and]; rfl
        have kk := k H (Same.refl _)
        rw [this] at kk
        exact kk
    · rw [decide_eq_false (show ¬ (1 : Int) ≤ (x.length : Int) by omega)]
      refine iteF ⟨_, rfl, iteT ?_⟩
      have : numW x = none := by unfold numW; rw [decide_eq_false (show ¬ 1 ≤ (tl x).length by omega), Bool.false_and, Bool.false_and, Bool.false_and]; rfl
      have kk := k H (Same.refl _)
      rw [this] at kk
      exact kk
end
/-! ### a row's words, of any text -/
set_option pp.maxSteps 600
open TL
def PieceO (H : Hp) (v : V) : Option Row → Prop
  | none => v = .non
  | some r => PieceV H v r
def Wide (ws : List Str) : Prop := ws.length ≤ 4000000 ∧ ∀ w ∈ ws, w.length ≤ 8000000
def optsV (ws : List Str) : List V := ws.map fun w => optV (numW w)
def spWithBytesX : Sp := fun vs H Q _ => ∃ (p q : Addr) (ws : List Str), vs = [.ref p, .ref q, .int 3] ∧ H p = some (.lst [.str "bring"]) ∧ H q = some (.lst (strsV ws)) ∧ ws ≠ [] ∧ Wide ws ∧ ∀ H' v, Same H H' → PieceO H' v (pieceW ("bring" :: ws)) → Q v H'
def spWithThingsX : Sp := fun vs H Q _ => ∃ (w : Str) (q : Addr) (a b : Option Int), vs = [.str w, .ref q] ∧ H q = some (.lst [optV a, optV b]) ∧
  (∀ H', Same H H' → (a = none ∨ b = none) → Q .non H') ∧ ∀ x y H' t, a = some x → b = some y → Same H H' → H' t = some (.tup [.str w, .int x, .int y]) → Q (.ref t) H'
def spPieceX : Sp := fun vs H Q _ => ∃ (q : Addr) (ws : List Str), vs = [.ref q] ∧ H q = some (.lst (strsV ws)) ∧ ws ≠ [] ∧ Wide ws ∧ ∀ H' v, Same H H' → PieceO H' v (pieceW ws) → Q v H'
theorem opts_len (ws : List Str) : (optsV ws).length = ws.length := by unfold optsV; rw [List.length_map]
def badV : V → Bool
  | .non => true
  | .int n => decide (255 < n)
  | _ => false
theorem opts_some {ws : List Str} {ns : List Int} (h : allNum ws = some ns) : optsV ws = ns.map V.int := by
  have e := allNum_some h
  have : optsV ws = (ws.map numW).map optV := by unfold optsV; rw [List.map_map]; rfl
  rw [this, e, List.map_map]
  rfl
theorem opts_none {ws : List Str} (h : allNum ws = none) : V.non ∈ optsV ws := by
  obtain ⟨w, hw, e⟩ := List.mem_map.mp (allNum_none h)
  exact List.mem_map.mpr ⟨w, hw, by rw [e]; rfl⟩
theorem str_at {ws : List Str} {i : Nat} {x : V} (h : (strsV ws)[i]? = some x) : ∃ w, ws[i]? = some w ∧ x = .str w := by
  unfold strsV at h
  rw [List.getElem?_map] at h
  cases e : ws[i]? with
  | none => rw [e] at h; cases h
  | some w => rw [e] at h; injection h with h; exact ⟨w, rfl, h.symm⟩
theorem opt_cases (w : Str) : optV (numW w) = .non ∨ ∃ n, optV (numW w) = .int n := by
  cases numW w with
  | none => exact .inl rfl
  | some n => exact .inr ⟨n, rfl⟩
theorem bring_word (ws : List Str) : pieceW ("bring" :: ws) = match allNum ws with | none => none | some ns => bringN ns := by
  show pieceN "bring" (allNum ws) = _
  cases allNum ws with
  | none => rfl
  | some ns => rw [pieceN_some, if_pos rfl]
section
variable {P : Program} {w : World} {K : PySem.W.Frag} {mg : Str → Option Value} {base : Heap}
theorem ok_with_bytes (T : All K mg) : FnOk P w K mg base CX0 2 T.d_with_bytes.f T.d_with_bytes.fd ["ahead", "words", "figures"] spWithBytesX := by
  have G_number_of : FnOk P w K mg base CX0 1 T.d_number_of.f T.d_number_of.fd ["word", "figures"] spNumberX := ok_number_of T
  refine T.d_with_bytes.F.ok sc_with_bytes (fun vs H Q E h => ?_) (fun cdv A outer s H vs Q E hr h => ?_)
  · obtain ⟨_, _, _, rfl, _⟩ := h
    rfl
  · obtain ⟨p, q, ws, rfl, hp, hq, hne, ⟨hw1, hw2⟩, k⟩ := h
    refine ⟨_, (pss_cons 
      (ps_setLc (i := 3) (own := [("word", 4)]) (g := gName 4) (tt := tYes) rfl sc_with_bytes.nd rfl rfl (sw_true rfl rfl rfl (by decide +kernel)) (pi_list (pv 1)) (blkOk_by (own := [("word", 4)]) (N := ["ahead", "words", "figures", "numbers", "word", "number"]) (sc := defScope s_with_bytes) (by decide +kernel)) (fun _ _ _ _ _ => (pg_name (i := 4) sc_with_bytes.nd rfl (Or.inl rfl))) (fun _ _ _ _ _ => pts_nil) (fun _ _ _ _ _ => (pe_call G_number_of (hr.mono (by decide)) rfl T.d_number_of.m T.d_number_of.F.kp T.d_number_of.b .nil pass0 (pa_cons (pv 4) (pa_cons (pv 2) pa_nil))))) (pss_cons 
      (ps_if (pt_truth (pe_lc (own := [("number", 5)]) (g := gName 5) rfl sc_with_bytes.nd (pi_list (pv 3)) (blkOk_by (own := [("number", 5)]) (N := ["ahead", "words", "figures", "numbers", "word", "number"]) (sc := defScope s_with_bytes) (by decide +kernel)) (fun _ _ _ _ _ => (pg_name (i := 5) sc_with_bytes.nd rfl (Or.inl rfl))) (fun _ _ _ _ _ => (pts_one (PW.pt (pw_or (pt_cmpR op_isN (pv 5) pe_non (nomark _)) (pw_or1 (pt_cmpR op_gt (pv 5) (pe_glob (v := .int 255) rfl T.c_LAST_BYTE ⟨_, rfl⟩) (nomark _))))))) (fun _ _ _ _ _ => (pv 5))) (by intro _; rfl)) (pss_one 
      (ps_ret pe_non)) pss_nil) (pss_one 
      (ps_ret (pe_tup (StX.pa_star (pv 0) (pa_cons (pe_bytesOf rfl (by rfl) T.b_bytes (pv 3)) pa_nil))))))), ?_⟩
    have ql : (strsV ws).length = ws.length := by unfold strsV; rw [List.length_map]
    refine ⟨_, rfl, q, rfl, ⟨_, SqL.of hq⟩, fun D hD => lc_list (K := K) (a := q) (xs := strsV ws) (fun i H2 => Same H H2 ∧ H2 D = some (.lst (optsV (ws.take i))))
      ⟨Same.new hD, upd_same⟩ (fun i H2 _ ⟨s2, _⟩ => SqL.of (s2 _ _ hq)) ?_ ?_⟩
    · rintro i x H2 hi ⟨s2, hd⟩
      obtain ⟨z, hz, rfl⟩ := str_at hi
      have il := (List.getElem?_eq_some_iff.mp hz).1
      refine ⟨rfl, _, rfl, _, rfl, z, rfl, hw2 z (List.mem_of_getElem? hz), fun H3 s3 => ?_⟩
      have hd3 := s3 _ _ hd
      refine ⟨_, hd3, by rw [sizeLine_eq, opts_len, List.length_take]; omega, fun b o y => ?_, ?_⟩
      · rw [upd_ne (ne_of_none y hD)]
        exact s3 _ _ (s2 _ _ y)
      · rw [upd_same, take_snoc hz]
        unfold optsV
        rw [List.map_append]
        rfl
    · rintro H2 ⟨s2, hd⟩
      rw [ql, List.take_length] at hd
      refine ⟨_, rfl, D, rfl, ⟨_, SqL.of hd⟩, fun D2 hD2 => lc_list (K := K) (a := D) (xs := optsV ws) (fun i H3 => Same H2 H3 ∧ H3 D2 = some (.lst (((optsV ws).take i).filter badV)))
        ⟨Same.new hD2, upd_same⟩ (fun i H3 _ ⟨s3, _⟩ => SqL.of (s3 _ _ hd)) ?_ ?_⟩
      · rintro i x H3 hi ⟨s3, hd3⟩
        have il := (List.getElem?_eq_some_iff.mp hi).1
        rw [opts_len] at il
        have fl : (((optsV ws).take i).filter badV).length < sizeLine := by
          have := List.length_filter_le badV ((optsV ws).take i)
          rw [List.length_take] at this
          rw [sizeLine_eq]
          omega
        have yes : badV x = true → Same H2 (upd H3 D2 (.lst (((optsV ws).take i).filter badV ++ [x]))) ∧ (upd H3 D2 (.lst (((optsV ws).take i).filter badV ++ [x]))) D2 = some (.lst (((optsV ws).take (i + 1)).filter badV)) := fun hb => by
          refine ⟨fun b o y => ?_, ?_⟩
          · rw [upd_ne (ne_of_none y hD2)]
            exact s3 _ _ y
          · rw [upd_same, take_snoc hi, List.filter_append, List.filter_cons_of_pos hb]
            rfl
        have no : badV x = false → H3 D2 = some (.lst (((optsV ws).take (i + 1)).filter badV)) := fun hb => by
          rw [take_snoc hi, List.filter_append, List.filter_cons_of_neg (by rw [hb]; decide), List.filter_nil, List.append_nil]
          exact hd3
        obtain ⟨z, hz, rfl⟩ : ∃ z, ws[i]? = some z ∧ x = optV (numW z) := by
          unfold optsV at hi
          rw [List.getElem?_map] at hi
          cases e : ws[i]? with
          | none => rw [e] at hi; cases hi
          | some z => rw [e] at hi; injection hi with hi; exact ⟨z, rfl, hi.symm⟩
        rcases opt_cases z with e | ⟨n, e⟩
        · rw [e] at yes ⊢
          refine ⟨rfl, _, rfl, rfl, _, rfl, ite2 (fun _ => ?_) fun h => absurd (decide_eq_true rfl) h⟩
          obtain ⟨y1, y2⟩ := yes rfl
          exact ⟨_, rfl, _, hd3, fl, y1, y2⟩
        · rw [e] at yes no ⊢
          refine ⟨rfl, _, rfl, rfl, _, rfl, ite2 (fun h => absurd (of_decide_eq_true h) (by intro y; cases y)) fun _ => ?_⟩
          refine ⟨_, rfl, _, _, rfl, rfl, _, rfl, ite2 (fun h => ?_) fun h => ?_⟩
          · obtain ⟨y1, y2⟩ := yes h
            exact ⟨_, rfl, _, hd3, fl, y1, y2⟩
          · exact ⟨s3, no (by cases c : badV (.int n) with | true => exact absurd c h | false => rfl)⟩
      · rintro H3 ⟨s3, hd3⟩
        rw [List.take_length] at hd3
        have s23 := s2.trans s3
        have hp3 := s23 _ _ hp
        cases e : allNum ws with
        | none =>
          have ne : (optsV ws).filter badV ≠ [] := List.ne_nil_of_mem (List.mem_filter.mpr ⟨opts_none e, rfl⟩)
          refine ⟨true, .inl ⟨_, SqL.of hd3, ?_⟩, iteT ?_⟩
          · cases z : (optsV ws).filter badV with
            | nil => exact absurd z ne
            | cons _ _ => rfl
          · refine k H3 _ s23 ?_
            rw [bring_word, e]
            rfl
        | some ns =>
          rw [opts_some e] at hd hd3
          have each := allNum_each e
          have nse : ns ≠ [] := fun z => by
            rw [z] at e
            have := congrArg List.length (allNum_some e)
            rw [List.length_map] at this
            exact hne (List.length_eq_zero_iff.mp this)
          have nl : ns.length = ws.length := by
            have := congrArg List.length (allNum_some e)
            rw [List.length_map, List.length_map] at this
            exact this.symm
          have bn : bringN ns = if ns.any (fun n => decide (255 < n)) = true then none else some (.bring ns) := by
            unfold bringN
            rw [decide_eq_false nse, Bool.false_or]
          by_cases c : ns.any (fun n => decide (255 < n)) = true
          · obtain ⟨n, hn, hb⟩ := List.any_eq_true.mp c
            have ne : (ns.map V.int).filter badV ≠ [] := List.ne_nil_of_mem (List.mem_filter.mpr ⟨List.mem_map.mpr ⟨n, hn, rfl⟩, hb⟩)
            refine ⟨true, .inl ⟨_, SqL.of hd3, ?_⟩, iteT ?_⟩
            · cases z : (ns.map V.int).filter badV with
              | nil => exact absurd z ne
              | cons _ _ => rfl
            · refine k H3 _ s23 ?_
              rw [bring_word, e]
              show PieceO H3 .non (bringN ns)
              rw [bn, if_pos c]
              rfl
          · have b8 : B8 ns := fun n hn => by
              have := each n hn
              refine ⟨this.1, ?_⟩
              by_cases q : 255 < n
              · exact absurd (List.any_eq_true.mpr ⟨n, hn, decide_eq_true q⟩) c
              · omega
            have em : (ns.map V.int).filter badV = [] := by
              rw [List.filter_eq_nil_iff]
              intro x hx hb
              obtain ⟨n, hn, rfl⟩ := List.mem_map.mp hx
              exact c (List.any_eq_true.mpr ⟨n, hn, hb⟩)
            rw [em] at hd3
            refine ⟨false, .inl ⟨[], SqL.of hd3, rfl⟩, iteF ?_⟩
            refine ⟨_, rfl, p, _, rfl, .inr (SqL.of hp3), _, rfl, .inr ⟨D, ns, rfl, SqL.of (s3 _ _ hd), b8, sizeS (by show 2 ≤ 100000; decide), fun t ht => ?_⟩⟩
            refine k _ _ (s23.trans (Same.new ht)) ?_
            rw [bring_word, e]
            show PieceO _ (.ref t) (bringN ns)
            rw [bn, if_neg c]
            exact ⟨t, rfl, upd_same⟩
theorem ok_with_things (T : All K mg) : FnOk P w K mg base CX0 1 T.d_with_things.f T.d_with_things.fd ["first", "things"] spWithThingsX := by
  refine T.d_with_things.F.ok sc_with_things (fun vs H Q E h => ?_) (fun cdv A outer s H vs Q E hr h => ?_)
  · obtain ⟨_, _, _, _, rfl, _⟩ := h
    rfl
  · obtain ⟨wd, q, a, b, rfl, hq, k1, k2⟩ := h
    refine ⟨_, (pss_one 
      (ps_ret (pe_ifExp (pt_cmpR op_in_seq pe_non (pv 1) (by with_unfolding_all rfl)) pe_non (pe_tup (pa_cons (pv 0) (StX.pa_star (pv 1) pa_nil)))))), ?_⟩
    have fl : [optV a, optV b].all flatV = true := by cases a <;> cases b <;> rfl
    refine ⟨_, rfl, q, _, rfl, .inl (SqL.of hq), rfl, fl, _, rfl, ?_⟩
    rw [if_neg (show ¬ (false = true) by decide)]
    cases a with
    | none => exact iteT (k1 H (Same.refl _) (.inl rfl))
    | some x =>
      cases b with
      | none => exact iteT (k1 H (Same.refl _) (.inr rfl))
      | some y =>
        refine iteF ?_
        refine ⟨_, rfl, _, rfl, q, _, rfl, .inr (SqL.of hq), sizeS (by show 3 ≤ 100000; decide), fun t ht => ?_⟩
        exact k2 x y _ t rfl rfl (Same.new ht) upd_same
theorem cutTo1s (x : V) (l : List V) : cutV (x :: l) none (some 1) = [x] := by
  unfold cutV
  rw [HT.sIx_none, show (some (1 : Int)) = some ((1 : Nat) : Int) from rfl, HT.sIx_nat, List.drop_zero, Nat.sub_zero, Nat.min_eq_left (by rw [List.length_cons]; omega)]
  rfl
theorem cutFrom1s (x : V) (l : List V) : cutV (x :: l) (some 1) none = l := by
  unfold cutV
  rw [HT.sIx_none, show (some (1 : Int)) = some ((1 : Nat) : Int) from rfl, HT.sIx_nat, Nat.min_eq_left (by rw [List.length_cons]; omega), List.length_cons]
  show l.take (l.length + 1 - 1) = l
  rw [Nat.add_sub_cancel, List.take_length]
theorem dec_str (x y : Str) : decide (V.str x = V.str y) = decide (x = y) := by
  by_cases h : x = y
  · rw [decide_eq_true h, decide_eq_true (by rw [h])]
  · rw [decide_eq_false h, decide_eq_false (fun z => h (by injection z))]
/-- two words behind: what they tell -/
theorem two_words {x y : Str} {wd : Str} (h : wd ≠ "bring") : pieceW [wd, x, y] = match numW x, numW y with | some a, some b => twoN wd [a, b] | _, _ => none := by
  show pieceN wd (allNum [x, y]) = _
  cases e1 : numW x with
  | none =>
    have : allNum [x, y] = none := by unfold allNum; rw [e1]
    rw [this]
    rfl
  | some a =>
    cases e2 : numW y with
    | none =>
      have : allNum [x, y] = none := by unfold allNum allNum; rw [e1, e2]
      rw [this]
      rfl
    | some b =>
      have : allNum [x, y] = some [a, b] := by unfold allNum allNum allNum; rw [e1, e2]
      rw [this, pieceN_some, if_neg h]
theorem not_two {wd : Str} {rest : List Str} (h : wd ≠ "bring") (h2 : rest.length ≠ 2) : pieceW (wd :: rest) = none := by
  show pieceN wd (allNum rest) = none
  cases e : allNum rest with
  | none => rfl
  | some ns =>
    rw [pieceN_some, if_neg h]
    refine twoN_not ?_
    have := congrArg List.length (allNum_some e)
    rw [List.length_map, List.length_map] at this
    omega
theorem not_word {wd : Str} {rest : List Str} (h : wd ≠ "bring") (h1 : wd ≠ "copy") (h2 : wd ≠ "run") : pieceW (wd :: rest) = none := by
  by_cases c : rest.length = 2
  · match rest, c with
    | [x, y], _ =>
      rw [two_words h]
      cases numW x with
      | none => rfl
      | some a =>
        cases numW y with
        | none => rfl
        | some b => show twoN wd [a, b] = none; rw [twoN_two, if_neg h1, if_neg h2]
  · exact not_two h c
theorem ok_piece_of (T : All K mg) : FnOk P w K mg base CX0 3 T.d_piece_of.f T.d_piece_of.fd ["words"] spPieceX := by
  have G_number_of : FnOk P w K mg base CX0 1 T.d_number_of.f T.d_number_of.fd ["word", "figures"] spNumberX := ok_number_of T
  have G_with_bytes : FnOk P w K mg base CX0 2 T.d_with_bytes.f T.d_with_bytes.fd ["ahead", "words", "figures"] spWithBytesX := ok_with_bytes T
  have G_with_things : FnOk P w K mg base CX0 1 T.d_with_things.f T.d_with_things.fd ["first", "things"] spWithThingsX := ok_with_things T
  refine T.d_piece_of.F.ok sc_piece_of (fun vs H Q E h => ?_) (fun cdv A outer s H vs Q E hr h => ?_)
  · obtain ⟨_, _, rfl, _⟩ := h
    rfl
  · obtain ⟨q, ws, rfl, hq, hne, hw, k⟩ := h
    refine ⟨_, (pss_cons 
      (ps_if (PW.pt (pw_and (pt_cmpR op_eq (pe_ix ix_list (pv 0) pe_int (fun _ _ => rfl)) pe_str (nomark _)) (pw_and1 (pt_cmpR op_gt (pe_callB call_len (by rfl) T.b_len PySem.boot_len (pa_cons (pv 0) pa_nil)) pe_int (nomark _))))) (pss_one 
      (ps_ret (pe_call G_with_bytes (hr.mono (by decide)) rfl T.d_with_bytes.m T.d_with_bytes.F.kp T.d_with_bytes.b .nil pass0 (pa_cons (pe_slice sl_list (pv 0) po_none (po_some pe_int)) (pa_cons (pe_slice sl_list (pv 0) (po_some pe_int) po_none) (pa_cons (pe_glob (v := .int 3) rfl T.c_FEW ⟨_, rfl⟩) pa_nil)))))) pss_nil) (pss_cons 
      (ps_if (PW.pt (pw_or (pt_cmpR op_notIn_seq (pe_ix ix_list (pv 0) pe_int (fun _ _ => rfl)) (pe_tup (pa_cons pe_str (pa_cons pe_str pa_nil))) (by with_unfolding_all rfl)) (pw_or1 (pt_cmpR op_ne (pe_callB call_len (by rfl) T.b_len PySem.boot_len (pa_cons (pv 0) pa_nil)) pe_int (nomark _))))) (pss_one 
      (ps_ret pe_non)) pss_nil) (pss_one 
      (ps_ret (pe_call G_with_things (hr.mono (by decide)) rfl T.d_with_things.m T.d_with_things.F.kp T.d_with_things.b .nil pass0 (pa_cons (pe_ix ix_list (pv 0) pe_int (fun _ _ => rfl)) (pa_cons (pe_lc (own := [("word", 1)]) (g := gName 1) (tt := tYes) rfl sc_piece_of.nd (pi_list (pe_slice sl_list (pv 0) (po_some pe_int) po_none)) (blkOk_by (own := [("word", 1)]) (N := ["words", "word"]) (sc := defScope s_piece_of) (by decide +kernel)) (fun _ _ _ _ _ => (pg_name (i := 1) sc_piece_of.nd rfl (Or.inl rfl))) (fun _ _ _ _ _ => pts_nil) (fun _ _ _ _ _ => (pe_call G_number_of (hr.mono (by decide)) rfl T.d_number_of.m T.d_number_of.F.kp T.d_number_of.b .nil pass0 (pa_cons (pv 1) (pa_cons (pe_glob (v := .int 3) rfl T.c_FEW ⟨_, rfl⟩) pa_nil))))) pa_nil))))))), ?_⟩
    obtain ⟨wd, rest, rfl⟩ : ∃ wd rest, ws = wd :: rest := by
      cases ws with
      | nil => exact absurd rfl hne
      | cons a l => exact ⟨a, l, rfl⟩
    have hq : H q = some (.lst (.str wd :: strsV rest)) := hq
    have rl : (strsV rest).length = rest.length := by unfold strsV; rw [List.length_map]
    have hwr : Wide rest := ⟨by have := hw.1; rw [List.length_cons] at this; omega, fun x hx => hw.2 x (List.mem_cons_of_mem _ hx)⟩
    -- neither bring with bytes
    have other : (wd = "bring" → rest = []) → ∀ tc H1, H1 = upd H tc (.tup [.str "copy", .str "run"]) → H tc = none → True := fun _ _ _ _ _ => trivial
    refine ⟨_, rfl, q, _, _, _, rfl, rfl, SqL.of hq, at_of (j := 0) rfl rfl, rfl, _, rfl, ?_⟩
    rw [dec_str]
    by_cases c1 : wd = "bring"
    · subst c1
      rw [decide_eq_true rfl]
      refine iteT ⟨_, rfl, _, _, rfl, .inl ⟨_, SqL.of hq, rfl⟩, _, _, rfl, rfl, _, rfl, ite2 (fun hgt => ?_) fun hle => ?_⟩
      · have hgt : (1 : Int) < ((V.str "bring" :: strsV rest).length : Nat) := of_decide_eq_true hgt
        rw [List.length_cons, rl] at hgt
        have rne : rest ≠ [] := fun z => by rw [z] at hgt; simp at hgt
        refine ⟨_, rfl, 1, rfl, q, _, rfl, SqL.of hq, fun l1 hl1 => ?_⟩
        rw [cutTo1s]
        refine ⟨_, rfl, 1, rfl, q, _, rfl, SqL.of (Same.new hl1 _ _ hq), fun l2 hl2 => ?_⟩
        rw [cutFrom1s]
        have s2 := (Same.new (o := .lst [V.str "bring"]) hl1).trans (Same.new (o := .lst (strsV rest)) hl2)
        exact ⟨l1, l2, rest, rfl, Same.new hl2 _ _ upd_same, upd_same, rne, hwr, fun H' v s3 hv => k H' v (s2.trans s3) hv⟩
      · have re : rest = [] := by
          have hle : ¬ (1 : Int) < ((V.str "bring" :: strsV rest).length : Nat) := fun z => hle (decide_eq_true z)
          rw [List.length_cons, rl] at hle
          exact List.length_eq_zero_iff.mp (by omega)
        subst re
        refine ⟨_, rfl, q, _, _, _, rfl, rfl, SqL.of hq, at_of (j := 0) rfl rfl, sizeS (by show 2 ≤ 100000; decide), fun tc htc => ?_⟩
        refine ⟨tc, _, rfl, .inr (SqT.of upd_same), rfl, rfl, _, rfl, ite2 (fun _ => ?_) fun h => absurd (by decide) h⟩
        exact k _ _ (Same.new htc) rfl
    · rw [decide_eq_false c1]
      refine iteF ⟨_, rfl, q, _, _, _, rfl, rfl, SqL.of hq, at_of (j := 0) rfl rfl, sizeS (by show 2 ≤ 100000; decide), fun tc htc => ?_⟩
      have hqc := Same.new (o := .tup [.str "copy", .str "run"]) htc _ _ hq
      refine ⟨tc, _, rfl, .inr (SqT.of upd_same), rfl, rfl, _, rfl, ?_⟩
      have inq : inV (.str wd) [.str "copy", .str "run"] = (decide (wd = "copy") || decide (wd = "run")) := by
        show (eqV (.str "copy") (.str wd) || (eqV (.str "run") (.str wd) || false)) = _
        have e : ∀ a b : Str, eqV (.str a) (.str b) = decide (b = a) := fun a b => by
          show (a == b) = _
          by_cases h : b = a
          · rw [decide_eq_true h, h]; exact beq_self_eq_true a
          · rw [decide_eq_false h]
            exact beq_eq_false_iff_ne.mpr fun z => h z.symm
        rw [e, e, Bool.or_false]
      rw [if_pos rfl, inq]
      have hst : Same H (upd H tc (.tup [.str "copy", .str "run"])) := Same.new htc
      by_cases c2 : wd = "copy" ∨ wd = "run"
      · have e2 : (!(decide (wd = "copy") || decide (wd = "run"))) = false := by
          rcases c2 with c2 | c2
          · rw [decide_eq_true c2]; rfl
          · rw [decide_eq_true c2, Bool.or_true]; rfl
        rw [e2]
        refine iteF ⟨_, rfl, _, _, rfl, .inl ⟨_, SqL.of hqc, rfl⟩, rfl, _, rfl, ite2 (fun h3 => ?_) fun h3 => ?_⟩
        · refine k _ _ hst ?_
          have h2 : rest.length ≠ 2 := fun z => by
            rw [List.length_cons, rl, z] at h3
            exact absurd h3 (by decide)
          rw [not_two c1 h2]
          rfl
        · have h2 : rest.length = 2 := by
            by_cases z : rest.length = 2
            · exact z
            · refine absurd ?_ h3
              rw [List.length_cons, rl, decide_eq_false]
              · rfl
              · intro e
                injection e with e
                omega
          obtain ⟨x, y, rfl⟩ : ∃ x y, rest = [x, y] := by
            match rest, h2 with
            | [x, y], _ => exact ⟨x, y, rfl⟩
          have hx : x.length ≤ 8000000 := hwr.2 x (by simp)
          have hy : y.length ≤ 8000000 := hwr.2 y (by simp)
          refine ⟨_, rfl, q, _, _, _, rfl, rfl, SqL.of hqc, at_of (j := 0) rfl rfl, _, rfl, 1, rfl, q, _, rfl, SqL.of hqc, fun l1 hl1 => ?_⟩
          rw [cutFrom1s]
          have s1 := hst.trans (Same.new (o := .lst (strsV [x, y])) hl1)
          refine ⟨l1, rfl, ⟨_, SqL.of upd_same⟩, fun D hD => lc_list (K := K) (a := l1) (xs := strsV [x, y]) (fun i H2 => Same (upd (upd H tc (.tup [.str "copy", .str "run"])) l1 (.lst (strsV [x, y]))) H2 ∧ H2 D = some (.lst (optsV ([x, y].take i))))
            ⟨Same.new hD, upd_same⟩ (fun i H2 _ ⟨s2, _⟩ => SqL.of (s2 _ _ upd_same)) ?_ ?_⟩
          · rintro i z H2 hi ⟨s2, hd⟩
            obtain ⟨z', hz, rfl⟩ := str_at hi
            have zl : z'.length ≤ 8000000 := hwr.2 z' (List.mem_of_getElem? hz)
            refine ⟨rfl, _, rfl, z', rfl, zl, fun H3 s3 => ?_⟩
            refine ⟨_, s3 _ _ hd, sizeL (by rw [opts_len, List.length_take]; show min i 2 ≤ _; omega), fun c o y => ?_, ?_⟩
            · rw [upd_ne (ne_of_none y hD)]
              exact s3 _ _ (s2 _ _ y)
            · rw [upd_same, take_snoc hz]
              unfold optsV
              rw [List.map_append]
              rfl
          · rintro H2 ⟨s2, hd⟩
            have tw := two_words (x := x) (y := y) c1
            refine ⟨wd, D, numW x, numW y, rfl, hd, fun H' s3 hn => k H' _ (s1.trans (s2.trans s3)) ?_, fun a b H' t ea eb s3 ht => k H' _ (s1.trans (s2.trans s3)) ?_⟩
            · rw [tw]
              rcases hn with e | e
              · rw [e]; rfl
              · rw [e]; cases numW x <;> rfl
            · rw [tw, ea, eb]
              show PieceO H' (.ref t) (twoN wd [a, b])
              rw [twoN_two]
              rcases c2 with rfl | rfl
              · rw [if_pos rfl]
                exact ⟨t, rfl, ht⟩
              · rw [if_neg (show ¬ (("run" : Str) = "copy") by decide), if_pos rfl]
                exact ⟨t, rfl, ht⟩
      · have n1 : wd ≠ "copy" := fun z => c2 (.inl z)
        have n2 : wd ≠ "run" := fun z => c2 (.inr z)
        rw [decide_eq_false n1, decide_eq_false n2]
        refine iteT (iteT ?_)
        refine k _ _ hst ?_
        rw [not_word c1 n1 n2]
        rfl
end
/-! ### None among tuples: in, index -/
set_option pp.maxSteps 600
open TL
def isNon : V → Bool
  | .non => true
  | _ => false
def noneU : Value → Bool
  | .none => true
  | _ => false
def OptTups (K : PySem.W.Frag) (H : Hp) (xs : List V) : Prop := ∀ z ∈ xs, z = .non ∨ ∃ a ys, z = .ref a ∧ SqT K H a ys
section
variable {X : Cx} {pins : List (Addr × Obj)} {σ : L2.St} {H : Hp} {s : Shared}
theorem none_rel {z : V} {u : Value} (r : RelV z u) (h : z = .non ∨ ∃ a, z = .ref a) : noneU u = isNon z := by
  rcases h with rfl | ⟨a, rfl⟩
  · cases (show u = Value.none from r)
    rfl
  · cases (show u = Value.ref a from r)
    rfl
theorem none_at (hu : X.A.units + 64 < cLine) (I : Inv X pins σ H s) {z : V} {u : Value} (r : RelV z u) (h : z = .non ∨ ∃ a ys, z = .ref a ∧ SqT X.K H a ys) : SeqAt.EqAt X.A.in1 s u .none (noneU u) := by
  rcases h with rfl | ⟨a, ys, rfl, ht⟩
  · cases (show u = Value.none from r)
    have := eqAt_V (A := X.A.in1) (s := s) (y := .non) (x := .non) (u := Value.none) (v := Value.none) rfl rfl rfl rfl
    exact this
  · cases (show u = Value.ref a from r)
    obtain ⟨ws, _, pt, _⟩ := I.tuple ht
    exact SeqAt.EqAt.tuple_none (show s.heap.IsTuple a ws.toArray from pt) (by show X.A.units + 1 < cLine; omega)
end
def rNoneOpt (K : PySem.W.Frag) : R2 := fun x y H Q => ∃ p xs, x = V.non ∧ y = .ref p ∧ SqL K H p xs ∧ OptTups K H xs ∧ Q (.bl (xs.any isNon)) H
theorem op_noneOpt {X : Cx} (hu : X.A.units + 64 < cLine) : OpR X (compareOp .In) (rNoneOpt X.K) := by
  intro pins s σ H x y v u Q I rx ry h
  obtain ⟨p, xs, rfl, rfl, hp, hz, q⟩ := h
  cases (show v = Value.none from rx)
  cases (show u = Value.ref p from ry)
  obtain ⟨its, rv, pl, _⟩ := I.list hp
  have at' : ∀ (i : Nat) (w : Value), its[i]? = some w → ∃ z, xs[i]? = some z ∧ RelV z w := fun i w hw => by
    obtain ⟨hi, e⟩ := List.getElem?_eq_some_iff.mp hw
    have hx : i < xs.length := by rw [rv.length]; exact hi
    obtain ⟨u, hu', ru⟩ := rv.get (i := i) (x := xs[i]) (List.getElem?_eq_getElem hx)
    rw [hw] at hu'
    injection hu' with hu'
    exact ⟨xs[i], List.getElem?_eq_getElem hx, hu' ▸ ru⟩
  have each : ∀ w, w ∈ its.toArray → SeqAt.EqAt X.A.in1 s w .none (noneU w) := fun w hw => by
    have hw : w ∈ its := by simpa using hw
    obtain ⟨i, hi⟩ := List.mem_iff_getElem?.mp hw
    obtain ⟨z, hz1, r⟩ := at' i w hi
    exact none_at hu I r (hz z (List.mem_of_getElem? hz1))
  refine SeqAt.in_listAt noneU pl.isList each ?_
  refine ⟨.bl (xs.any isNon), H, I, ?_, q⟩
  have : its.toArray.any noneU = xs.any isNon := by
    rw [List.any_toArray, Bool.eq_iff_iff, List.any_eq_true, List.any_eq_true]
    constructor
    · rintro ⟨w, hw, e⟩
      obtain ⟨i, hi⟩ := List.mem_iff_getElem?.mp hw
      obtain ⟨z, hz1, r⟩ := at' i w hi
      exact ⟨z, List.mem_of_getElem? hz1, by rw [← none_rel r ((hz z (List.mem_of_getElem? hz1)).imp id fun ⟨a, _, e, _⟩ => ⟨a, e⟩)]; exact e⟩
    · rintro ⟨z, hz1, e⟩
      obtain ⟨i, hi⟩ := List.mem_iff_getElem?.mp hz1
      obtain ⟨u, hu', ru⟩ := rv.get hi
      exact ⟨u, List.mem_of_getElem? hu', by rw [none_rel ru ((hz z hz1).imp id fun ⟨a, _, e, _⟩ => ⟨a, e⟩)]; exact e⟩
  rw [this]
  rfl
/-- the first None's place -/
def rIndexNone (K : PySem.W.Frag) : V → List V → Hp → VK → Prop := fun x xs H Q => ∃ (a : Addr) (ys : List V) (j : Nat), x = V.ref a ∧ xs = [V.non] ∧ SqL K H a ys ∧ OptTups K H ys ∧ ys[j]? = some .non ∧ (∀ (m : Nat) (z : V), m < j → ys[m]? = some z → isNon z = false) ∧ Q (.int (j : Nat)) H
theorem mt_indexNone {X : Cx} (hu : X.A.units + 64 < cLine) : MtR X "list.index" (rIndexNone X.K) := by
  intro pins s σ H x xs v us Q I rx rxs h
  obtain ⟨a, ys, j, rfl, rfl, hs, hz, hj0, hno, q⟩ := h
  cases rx
  cases rxs with
  | cons ry rt =>
    rename_i uy ut
    cases rt
    cases (show uy = Value.none from ry)
    obtain ⟨its, rv, ⟨⟨cls, dd, data, sl⟩, n, ho, hc, hdn, hd⟩, hlen⟩ := I.list hs
    simp only at hc hd
    subst hc hd
    obtain ⟨u, hu0, ru⟩ := rv.get hj0
    obtain ⟨hjl, hje⟩ := List.getElem?_eq_some_iff.mp hu0
    have hvl := rv.length
    have hj : j < its.toArray.size := by simpa using hjl
    have hsl := sizeLine_eq
    have at' : ∀ (i : Nat) (w : Value), its[i]? = some w → ∃ z, ys[i]? = some z ∧ RelV z w := fun i w hw => by
      obtain ⟨hi, e⟩ := List.getElem?_eq_some_iff.mp hw
      have hx : i < ys.length := by rw [rv.length]; exact hi
      obtain ⟨u, hu', ru⟩ := rv.get (i := i) (x := ys[i]) (List.getElem?_eq_getElem hx)
      rw [hw] at hu'
      injection hu' with hu'
      exact ⟨ys[i], List.getElem?_eq_getElem hx, hu' ▸ ru⟩
    refine call_meets PySem.F.slot_list_index ⟨_, ho, rfl⟩ PySem.F.entry_list_index (PySem.F.args_list_index_2 _ _)
      (SeqAt.list_indexAt a its.toArray n dd sl .none noneU j hj (by omega) ?_ ?_) ⟨ho, fun u' hu' => ?_, ?_⟩
    · have e1 : its.toArray[j] = u := by simpa using hje
      rw [e1, none_rel ru (.inl rfl)]
      rfl
    · intro m hm hmj
      have hml : m < its.length := by simpa using hm
      have hmy : m < ys.length := by omega
      have hy' : ys[m]? = some ys[m] := List.getElem?_eq_getElem hmy
      obtain ⟨u2, hu2, ru2⟩ := rv.get hy'
      obtain ⟨_, hme⟩ := List.getElem?_eq_some_iff.mp hu2
      have e1 : its.toArray[m] = u2 := by simpa using hme
      rw [e1, none_rel ru2 ((hz _ (List.getElem_mem hmy)).imp id fun ⟨a, _, e, _⟩ => ⟨a, e⟩)]
      exact hno m _ hmj hy'
    · have hw : u' ∈ its := by simpa using hu'
      obtain ⟨i, hi⟩ := List.mem_iff_getElem?.mp hw
      obtain ⟨z, hz1, r⟩ := at' i u' hi
      exact none_at hu I r (hz z (List.mem_of_getElem? hz1))
    · exact ⟨.int (j : Nat), H, I.tok _, ⟨_, rfl⟩, q⟩
namespace N_BadPatch
/-! ### an own error whose __init__ says super().__init__(f"..{x}..") and keeps x -/
def clsBody : Stmt → List Stmt
  | .ClassDef _ _ _ b .. => b
  | _ => []
abbrev iniSt : Stmt := (clsBody (top 3)).getD 0 (.Pass ⟨0, 0, 0, 0⟩)
open PySem.W PySem.HandSPX in
structure OwnErr (P : Program) (K : Frag) (mg : Str → Option Value) (C fI : Addr) : Prop where
  gC : mg "BadPatch" = some (.ref C)
  cls : ∃ nm q N bs bm sn sub ab col dd k0 k1 k2 k3 k5, K.lookup C = some (excClassObj nm q C N bs bm true sn sub ab col dd k0 k1 k2 k3 k5 "ValueError.__new__") ∧ refsVE bm = true
  sa : findIn K (.ref C) "__setattr__" = some (some (.builtin "object.__setattr__"))
  noN : findIn K (.ref C) "piece" = some none
  iC : findIn K (.ref C) "__init__" = some (some (.ref fI))
  tC : typeIn K (.ref fI) = some (.type "function")
  kC : keepIn K (.ref C) = true
  exC : subIn K (.ref C) (.type "BaseException") = some true
  tyC : typeIn K (.ref C) = some (.type "type")
  sup : ks_superIn K C C "__init__" = some (some (.builtin "ValueError.__init__"))
  subV : subIn K (.ref C) (.type "ValueError") = some true
  mroC : mroIn K C (.ref C) = some true
  noAny : nsIn K cStatics "thirdparty.any" = some none
  mS : mg "super" = none
  top : (P.main.scope.names.lookup ("super" : Str)).isSome = false
  fn : ∃ (oc : Value) (od : Option Addr) (doc pm : Value) (an : Option Addr) (cda cc : Addr) (ct : Value) (osl : Array (Option Value)),
    K.lookup fI = some ⟨oc, od, .func (ksFn "__init__" "BadPatch.__init__" (defArgs iniSt) (defBody iniSt) (defScope iniSt) .none .none doc pm an (.ref cda) ct cc), osl⟩ ∧ codeIn K (.ref cda) "BadPatch.__init__" = true ∧
    (∃ (ccl : Value) (cdd : Option Addr) (vs : Array Value) (ccs : Array (Option Value)) (file : Str) (tf : Tok), K.lookup cda = some ⟨ccl, cdd, .fields vs, ccs⟩ ∧ vs[2]? = some (.str file tf) ∧ ((P.main.file : Str) == file) = true) ∧
    ∃ (cl : Value) (cld : Option Addr) (csl : Array (Option Value)), K.lookup cc = some ⟨cl, cld, .cell (some (.ref C)), csl⟩
theorem sz1 {a b : Str} (ha : a.length ≤ 500) (hb : b.length ≤ 1000) : (a ++ b).length ≤ sizeLine := by rw [Str.length_append, sizeLine_eq]; omega
theorem sz2 {a b c : Str} (ha : a.length ≤ 500) (hb : b.length ≤ 1000) (hc : c.length ≤ 500) : (a ++ b ++ c).length ≤ sizeLine := by rw [Str.length_append, Str.length_append, sizeLine_eq]; omega
namespace OE
open PySem.W PySem.Calls PySem.HandSPX
/-- what __init__ leaves of a fresh exception at x -/
structure InitEnd (h h' : Heap) (x C dx t1 : Addr) (v : Value) : Prop where
  keep : ∀ b o, b ≠ x → h.get? b = some o → h'.get? b = some o
  obj : h'.get? x = some { cls := .ref C, dict := some dx, data := .fields #[.ref t1, .none, .none, .none, .bool false, .none] }
  dbig : h.objs.size ≤ dx
  dne : dx ≠ x
  ns : h'.Ns1 dx (fun y => if y = "piece" then some v else none)
/-- a made one -/
structure Made (h h' : Heap) (e C d : Addr) (v : Value) : Prop where
  keep : ∀ b o, h.get? b = some o → h'.get? b = some o
  new : h.objs.size ≤ e
  obj : ∃ oe vs, h'.get? e = some oe ∧ oe.cls = .ref C ∧ oe.dict = some d ∧ oe.data = .fields vs ∧ vs[1]? = some .none
  dbig : h.objs.size ≤ d
  dne : d ≠ e
  ns : h'.Ns1 d (fun y => if y = "piece" then some v else none)
section
variable {P : Program} {w : World} {A : Around} {E : Value → Shared → Prop} {R : Result → Shared → Prop} {s : Shared} {K : Frag} {mg : Str → Option Value} {C fI : Addr}
theorem call_wrapped {h : Heap} {g : Array GenState} {d : Drawn} {t : Nat} {os : OsState} {u e t0 : Addr} {rest : List Value} {Q : Value → Shared → Prop} {nm q : Str} {N : Addr} {bs bm : List Value} {sn : List Str} {sub : List Value} {ab : Bool} {col : Option Bool} {dd : Option Addr} {k0 k1 k2 k3 k5 : Option Value}
    (hC : h.get? C = some (excClassObj nm q C N bs bm true sn sub ab col dd k0 k1 k2 k3 k5 "ValueError.__new__")) (he : h.get? e = some (excO C t0)) (hu : h.get? u = some (kxs_mw "ValueError.__init__" e)) (hrest : rest.length ≤ sizeLine)
    (hq : ∀ h' t1, (∀ b o, b ≠ e → h.get? b = some o → h'.get? b = some o) → h'.get? e = some (excO C t1) → Q .none ⟨h', g, d, t, os⟩) :
    wpAny (model P w) A (call (.ref u) rest) Q E ⟨h, g, d, t, os⟩ := by
  refine wpAny_call (codeAny_of_tree ?_)
  show wpAny _ A.in1 (callAny (.ref u) ⟨rest, []⟩) _ _ _
  simp only [callAny]
  refine wpAny_bind (wpAny_load hu ?_)
  simp only [kxs_mw, show (Value.type "method-wrapper" == Value.type "method" || Value.type "method-wrapper" == Value.type "builtin_function_or_method" || Value.type "method-wrapper" == Value.type "method-wrapper") = true by decide, if_true]
  refine KFB.if_so (by decide) ?_
  refine wpAny_bind (check_bound_init F.excBase_ValueError.toExcCallFacts hC he rfl ?_)
  refine wpAny_bind (wpAny_pure (wpAny_pure ?_))
  refine ⟨plainId_quiet F.excBase_ValueError.init.plain _, codeAny_builtin F.excBase_ValueError.initEntry ?_⟩
  exact exc_init_tree (cls := .ref C) (t0 := t0) (dv := none) (c2 := .none) (c3 := .none) (b4 := .bool false) he hrest fun h' k1 k2 _ => hq h' _ k1 k2
theorem ini {x t0 : Addr} {i : Int} {tk0 : Tok} (T : OwnErr P K mg C fI) (hi : i.natAbs.log2 < 1920) (hil : (toString i : Str).length ≤ 1000) (X : K.In s.heap) (hg : s.heap.Ns mainGlobals mg) (hb : ∃ mb, s.heap.Ns builtinsNs mb ∧ ∀ x : Str, x ≠ "__name__" → mb x = bootBuiltins x)
    (hlim : s.heap.NoLimit) (hx : s.heap.get? x = some (excO C t0)) (hnx : K.lookup x = none) (hroom : A.depth < recursionLimit)
    (hq : ∀ h' tk dx t1, InitEnd s.heap h' x C dx t1 (.int i tk0) → R (.ok (.ret .none)) { s with heap := h', toks := tk }) :
    codeAny (model P w) A (.call (.ref fI) ⟨[.ref x, .int i tk0], []⟩) R s := by
  obtain ⟨oc, od, doc, pm, an, cda, cc, ct, osl, ho, hcd, ⟨ccl, cdd, vs, ccs, file, tf, hcode, hvs, hfile⟩, cl, cld, csl, hcell⟩ := T.fn
  obtain ⟨nm, q, N, bs, bm, sn, sub, ab, col, dd, k0, k1, k2, k3, k5, hC, hbm⟩ := T.cls
  obtain ⟨mb, hb, hbb⟩ := hb
  have hcl : clsIn K C = some { name := nm, bases := bs, mro := .ref C :: bm, ns := N, qualname := q, hasDict := true, slotNames := sn, subclasses := sub, abstract := ab, collection := col, hasDel := false } := by unfold clsIn; rw [hC] <;> rfl
  have sl1 : (defScope iniSt).names.lookup ("self" : Str) = some .local := by decide +kernel
  have sl2 : (defScope iniSt).names.lookup ("piece" : Str) = some .local := by decide +kernel
  have hbd : BindsTo s (ksFn "__init__" "BadPatch.__init__" (defArgs iniSt) (defBody iniSt) (defScope iniSt) .none .none doc pm an (.ref cda) ct cc) ⟨[.ref x, .int i tk0], []⟩ [("self", .ref x), ("piece", .int i tk0)] := BindsTo.of_eq (by first | rfl | with_unfolding_all rfl)
  refine ks_codeAny_call_defAt (binds := [("self", .ref x), ("piece", .int i tk0)]) hroom (X _ _ ho) rfl hlim (codeRec_of X hcd) rfl hbd (show ∀ x ∈ (defScope iniSt).names, x.2 ≠ .cell by decide +kernel)
    (fun y hy => ?_) (fun h₁ hns k => ?_) rfl rfl rfl
  · rcases List.mem_cons.mp hy with rfl | hy
    · exact sl1
    · rcases List.mem_cons.mp hy with rfl | hy
      · exact sl2
      · cases hy
  have X₁ : K.In h₁ := X.keeps k
  have hx₁ := k _ _ hx
  have hC₁ := X₁ _ _ hC
  obtain ⟨hp, g, dr, tk, os⟩ := s
  have I₁ : InstAt h₁ x (excO C t0) C none := ⟨hx₁, rfl, rfl, trivial⟩
  have hv1 : (fun y => List.lookup y (List.reverse [(("self" : Str), Value.ref x), ("piece", .int i tk0)])) "self" = some (.ref x) := by first | rfl | with_unfolding_all rfl
  have hv2 : (fun y => List.lookup y (List.reverse [(("self" : Str), Value.ref x), ("piece", .int i tk0)])) "piece" = some (.int i tk0) := by first | rfl | with_unfolding_all rfl
  have hxC : x ≠ C := fun z => by rw [z, hC] at hnx; cases hnx
  have sl3 : (defScope iniSt).names.lookup ("super" : Str) = some .globalImplicit := by decide +kernel
  have sl4 : (defScope iniSt).names.lookup ("__class__" : Str) = some .free := by decide +kernel
  refine ks_wpAt_execs_cons (ks_wpAt_Expr_any (ks_wpAt_MethodCall ?_))
  refine ks_wpAt_super_base sl3 sl4 (by decide +kernel) rfl (X₁ _ _ ho) rfl rfl rfl (X₁ _ _ hcode) rfl hvs hfile T.top ?_
  refine ks_loadName_global rfl sl3 (loadGlobal_builtin (hg.keeps k) T.mS (hb.keeps k) ((hbb _ (by decide +kernel)).trans (show bootBuiltins "super" = some (.type "super") by first | boot_by_name | rfl | kernel_rfl)) ⟨rfl, ?_⟩)
  refine wpAny_loadName_free rfl sl4 rfl ⟨_, X₁ _ _ hcell, rfl⟩ ?_
  refine wpAny_loadName_local rfl sl1 hns hv1 ?_
  refine ks_wpAny_isType_cls hC₁ rfl ⟨rfl, ?_⟩
  refine ks_wpAny_call_super hC₁ rfl hx₁ rfl (fun c e => by cases e) (looks_mroIn X₁ T.mroC) (fun h₂ e₂ k₂ => ?_)
  have X₂ : K.In h₂ := X₁.keeps k₂
  have hx₂ := k₂ _ _ hx₁
  have I₂ : InstAt h₂ x (excO C t0) C none := ⟨hx₂, rfl, rfl, trivial⟩
  have hsup := T.sup
  unfold ks_superIn at hsup
  rw [hcl] at hsup
  refine kxs_getMethod kxs_ValueError e₂ (looks_opaque X₂ T.noAny) (l₀ := .ref C :: bm) (fun A Q E s k q => wpAny_bind ((looks_clsIn X₂ hcl) A _ E s k (wpAny_pure q))) rfl X₂ hsup (I₂.type.andThen (looks_subIn X₂ T.subV)) hxC (by decide) ?_
  refine kxs_callWith (i := "ValueError.__init__") (x := x) rfl ?_
  have k₃ : ∀ b o, h₂.get? b = some o → (h₂.push (kxs_mw "ValueError.__init__" x)).get? b = some o := fun b o e => Heap.get?_push_of_some _ e
  have hns₃ := (hns.keeps k₂).keeps k₃
  have hu : (h₂.push (kxs_mw "ValueError.__init__" x)).get? h₂.objs.size = some (kxs_mw "ValueError.__init__" x) := Heap.get?_push_at rfl rfl
  refine evalArgs_plain (spliced_cons (wpAny_JoinedStr (pos := ⟨0, 0, 0, 0⟩) ?_))
  refine wpAny_Constant_str ⟨_, _, rfl, (by decide +kernel), ?_⟩
  refine wpAny_FormattedValue_plain (wpAny_Name (wpAny_loadName_local rfl sl2 hns₃ hv2 ?_) (by decide))
  refine wpAny_formatField_int hi ⟨_, _, rfl, sz1 (by decide +kernel) hil, ?_⟩
  refine wpAny_Constant_str ⟨_, _, rfl, sz2 (by decide +kernel) hil (by decide +kernel), ?_⟩
  refine ⟨sz2 (by decide +kernel) hil (by decide +kernel), spliced_nil ⟨hu, ?_⟩⟩
  refine call_wrapped (k₃ _ _ (k₂ _ _ hC₁)) (k₃ _ _ hx₂) hu (by show 1 ≤ sizeLine; rw [sizeLine_eq]; omega) (fun h₄ t1 k₄ hx₄ => ?_)
  have X₄ : K.In h₄ := fun a o e => k₄ a o (fun z => by rw [z, hnx] at e; cases e) ((X₂.keeps k₃) a o e)
  obtain ⟨oL, esL, epL, hoL, hdL, rL⟩ := hns₃
  have xL : hp.objs.size ≠ x := Nat.ne_of_gt (Heap.lt_size hx)
  have hns₄ : h₄.Ns hp.objs.size _ := ⟨oL, esL, epL, k₄ _ _ xL hoL, hdL, rL⟩
  refine wpAt_of_wpAny (wpAny_execs_cons (plainObj_wpAny_Assign_Attribute ?_))
  refine wpAny_Name (wpAny_loadName_local rfl sl2 hns₄ hv2 ?_) (by decide)
  refine wpAny_Name (wpAny_loadName_local rfl sl1 hns₄ hv1 ?_) (by decide)
  refine set_plain X₄ (ox := excO C t1) (od := none) ⟨hx₄, rfl, rfl, trivial⟩ T.sa ?_
  refine exc_osa X₄ hx₄ hcl (show refsVE (.ref C :: bm) = true from hbm) rfl T.noN (fun h₅ tk₅ dx k₅ dn dne hx₅ hn₅ => ?_)
  refine wpAny_execs_nil (hq h₅ tk₅ dx t1 ⟨fun b o hb e => k₅ b o hb (k₄ b o hb (k₃ _ _ (k₂ _ _ (k b o e)))), hx₅, ?_, dne, hn₅⟩)
  refine Nat.le_trans (Nat.le_of_lt (Heap.lt_size (k₄ _ _ xL hoL))) dn
theorem make {i : Int} {tk0 : Tok} (T : OwnErr P K mg C fI) (hi : i.natAbs.log2 < 1920) (hil : (toString i : Str).length ≤ 1000) (X : K.In s.heap) (hg : s.heap.Ns mainGlobals mg) (hb : ∃ mb, s.heap.Ns builtinsNs mb ∧ ∀ x : Str, x ≠ "__name__" → mb x = bootBuiltins x)
    (hlim : s.heap.NoLimit) (hroom : A.depth + 1 < recursionLimit)
    (hq : ∀ h' tk e d, Made s.heap h' e C d (.int i tk0) → R (.ok (.ret (.ref e))) { s with heap := h', toks := tk }) :
    codeAny (model P w) A (.call (.ref C) ⟨[.int i tk0], []⟩) R s := by
  obtain ⟨nm, q, N, bs, bm, sn, sub, ab, col, dd, k0, k1, k2, k3, k5, hC, hbm⟩ := T.cls
  obtain ⟨mb, hb, hbb⟩ := hb
  obtain ⟨hp, g, dr, tk, os⟩ := s
  have k : ∀ b o, hp.get? b = some o → ((hp.push (kdv_tup [.int i tk0])).push (excO C hp.objs.size)).get? b = some o := fun b o e => Heap.get?_push_of_some _ (Heap.get?_push_of_some _ e)
  have hget : ((hp.push (kdv_tup [.int i tk0])).push (excO C hp.objs.size)).get? (hp.objs.size + 1) = some (excO C hp.objs.size) := by heap_get
  have hnx : K.lookup (hp.objs.size + 1) = none := by
    cases e : K.lookup (hp.objs.size + 1) with
    | none => rfl
    | some o =>
      have z : hp.get? (hp.objs.size + 1) = some o := X _ _ e
      exact absurd (Nat.lt_of_succ_lt (Heap.lt_size z)) (Nat.lt_irrefl _)
  refine call_own F.excBase_ValueError (fun X => refsVE_contains X bm hbm) (X _ _ hC) (looks_findIn X T.iC) (fun self => bind_fn X self T.tC) (by show 1 ≤ sizeLine; rw [sizeLine_eq]; omega) ?_
  refine ini (s := ⟨(hp.push (kdv_tup [.int i tk0])).push (excO C hp.objs.size), g, dr, tk, os⟩) T hi hil (X.keeps k) (hg.keeps k) ⟨mb, hb.keeps k, hbb⟩ (hlim.keeps k) hget hnx ?_ fun h' tk' dx t1 ⟨k', hx, dn, dne, hns⟩ => ?_
  · exact hroom
  · have old : ∀ b o, hp.get? b = some o → h'.get? b = some o := fun b o e => k' b o (Nat.ne_of_lt (Nat.lt_succ_of_lt (Heap.lt_size e))) (k b o e)
    have z : hp.objs.size + 1 + 1 ≤ dx := by
      have q := dn
      rw [Heap.size_push, Heap.size_push] at q
      exact q
    exact ⟨rfl, hq h' tk' (hp.objs.size + 1) dx ⟨old, Nat.le_succ _, ⟨_, _, hx, rfl, rfl, rfl, rfl⟩, (show hp.objs.size ≤ dx by omega), dne, hns⟩⟩
end
end OE
section
variable {X : Cx} {C fI : Addr}
theorem relO_own {v : V} {v' : Value} (r : RelV v v') (f : Str) : RelO (List.lookup f [(("piece" : Str), v)]) (if f = "piece" then some v' else none) := by
  by_cases hw : f = "piece"
  · subst hw
    rw [if_pos rfl]
    have q : List.lookup ("piece" : Str) [(("piece" : Str), v)] = some v := by simp [List.lookup]
    rw [q]
    exact r
  · rw [if_neg hw]
    have qw : (f == ("piece" : Str)) = false := by simpa using hw
    have q2 : List.lookup f [(("piece" : Str), v)] = none := by simp [List.lookup, qw]
    rw [q2]
    trivial
/-- BadPatch(e), e a small number -/
def tMkOwn (C : Addr) (ta : TA) : L2.St → Hp → XK → Prop := fun σ H Q => ta σ H fun vs H1 => ∃ i : Int, vs = [.int i] ∧ 0 ≤ i ∧ i ≤ 20000 ∧ ∀ d, H1 d = none → Q (.ref C) (some d) (upd H1 d (.xd [(("piece" : Str), .int i)]))
theorem small_text {i : Int} (h0 : 0 ≤ i) (h1 : i ≤ 20000) : (toString i : Str).length ≤ 1000 := by
  have h2 : i.natAbs ≤ 20000 := by omega
  have e := int_text_length_le10 (k := 10) (by decide) (Nat.lt_of_le_of_lt h2 (by decide))
  rw [PySem.ofString_length]
  omega
theorem small_log {i : Int} (h0 : 0 ≤ i) (h1 : i ≤ 20000) : i.natAbs.log2 < 1920 := by
  have h : i.natAbs ≤ 20000 := by omega
  by_cases z : i.natAbs = 0
  · rw [z]; decide
  · have h3 : i.natAbs.log2 < 16 := (Nat.log2_lt z).mpr (show i.natAbs < 2 ^ 16 by omega)
    omega
theorem pmk_own2 {a : Expr} {ta : TA} {p pos : Pos} {k : Nat} (T : OwnErr X.prog X.K X.mg C fI) (hr : Room k X.A) (ha : PA X [a] ta) (hg : Gl X "BadPatch" := by rfl)
    (he : starEach (a :: []) X.env = (false, eval a X.env) :: starEach [] X.env := by rfl) (hpl : (backTo pos (starEach [] X.env)).any (·.1) = false := by rfl) :
    PMk X (.Call (.Name "BadPatch" p) [a] [] pos) (tMkOwn C ta) := by
  intro pins s σ H Q I h
  refine wpAny_Call_Name_kw (ld_glob I hg T.gC ?_)
  refine PySem.W.callWith_K (h₀ := X.base) I.ok.mod.kin T.kC (thn (ha.run pos pins s σ H _ I h) fun us s1 hh => ?_) he hpl
  obtain ⟨vs, H1, I1, r1, i, ev, i0, i1, q1⟩ := hh
  subst ev
  refine ⟨I1.kIn, ?_⟩
  cases r1 with
  | cons rv rn =>
    rename_i v' us'
    cases rn
    obtain ⟨tk0, rfl⟩ := rv
    show wpAny _ _ (call (.ref C) [.int i tk0]) _ _ _
    have hlim := I1.nolimit
    have hmod := I1.mod
    obtain ⟨mb, hmb, hbb⟩ := hmod.blt
    have bk := I1.bk
    obtain ⟨hp, g, dr, tk, os⟩ := s1
    refine wpAny_call (OE.make T (small_log i0 i1) (small_text i0 i1) I1.kIn (hmod.glob.keeps bk) ⟨mb, hmb.keeps bk, hbb⟩ hlim (by have := hr.dp; omega) fun h' tk' e d M => ?_)
    show MkP X pins σ Q (.ref e) ⟨h', g, dr, tk', os⟩
    obtain ⟨oe, fv, hoe, hc, hd, hdat, h1⟩ := M.obj
    have hns := M.ns
    obtain ⟨G', g1, g2⟩ := restrict h' fun b => decide (b ≠ e)
    have gk : ∀ b, b ≠ e → G'.get? b = h'.get? b := fun b hb => g1 b (decide_eq_true hb)
    have ge : G'.get? e = none := g2 e (by simp)
    have old : ∀ b o, hp.get? b = some o → G'.get? b = some o := fun b o q => (gk b (Nat.ne_of_lt (Nat.lt_of_lt_of_le (Heap.lt_size q) M.new))).trans (M.keep b o q)
    have ob : ObjOk X.prog X.w (upd H1 d (.xd [(("piece" : Str), .int i)])) G' d (.xd [(("piece" : Str), .int i)]) :=
      ⟨_, hns.at (fun o q => (gk d M.dne).trans q), fun f => relO_own (v := .int i) ⟨tk0, rfl⟩ f⟩
    have J : Inv X pins σ (upd H1 d (.xd [(("piece" : Str), .int i)])) ⟨G', g, dr, tk', os⟩ := I1.laid (t' := tk') old M.dbig ob
    refine ⟨e, oe, fv, ⟨G', g, dr, tk', os⟩, _, .ref C, some d, rfl, J, fun b o q => ?_, ge, hoe, ⟨hc, hd⟩, hdat, h1, ?_, rfl, I1.bare, raises_own T.exC T.tyC, q1 d (I1.hok.fresh M.dbig)⟩
    · by_cases hb : b = e
      · have q' : G'.get? b = some o := q
        rw [hb, ge] at q'; cases q'
      · exact (gk b hb).symm.trans q
    · rw [upd_ne (Ne.symm M.dne)]
      exact I1.hok.fresh M.new
/-- raise BadPatch(e) -/
def tRaiseOwn (C : Addr) (W : WX) (ta : TA) : TS := fun _ σ H => tMkOwn C ta σ H fun cls d H' => W cls d σ H'
theorem ps_raiseOwn {a : Expr} {ta : TA} {W : WX} {p pos pos2 : Pos} {k : Nat} (hc : X.calm = true) (T : OwnErr X.prog X.K X.mg C fI) (hr : Room k X.A) (tk : Takes X W) (ha : PA X [a] ta) (hg : Gl X "BadPatch" := by rfl)
    (he : starEach (a :: []) X.env = (false, eval a X.env) :: starEach [] X.env := by rfl) (hpl : (backTo pos (starEach [] X.env)).any (·.1) = false := by rfl) :
    PS X (.Raise (some (.Call (.Name "BadPatch" p) [a] [] pos)) none pos2) (tRaiseOwn C W ta) := ps_raise hc tk (pmk_own2 T hr ha hg he hpl)
end
end N_BadPatch
namespace N_BadText
/-! ### an own error whose __init__ says super().__init__(f"..{x}..") and keeps x -/
def clsBody : Stmt → List Stmt
  | .ClassDef _ _ _ b .. => b
  | _ => []
abbrev iniSt : Stmt := (clsBody (top 16)).getD 0 (.Pass ⟨0, 0, 0, 0⟩)
open PySem.W PySem.HandSPX in
structure OwnErr (P : Program) (K : Frag) (mg : Str → Option Value) (C fI : Addr) : Prop where
  gC : mg "BadText" = some (.ref C)
  cls : ∃ nm q N bs bm sn sub ab col dd k0 k1 k2 k3 k5, K.lookup C = some (excClassObj nm q C N bs bm true sn sub ab col dd k0 k1 k2 k3 k5 "ValueError.__new__") ∧ refsVE bm = true
  sa : findIn K (.ref C) "__setattr__" = some (some (.builtin "object.__setattr__"))
  noN : findIn K (.ref C) "row" = some none
  iC : findIn K (.ref C) "__init__" = some (some (.ref fI))
  tC : typeIn K (.ref fI) = some (.type "function")
  kC : keepIn K (.ref C) = true
  exC : subIn K (.ref C) (.type "BaseException") = some true
  tyC : typeIn K (.ref C) = some (.type "type")
  sup : ks_superIn K C C "__init__" = some (some (.builtin "ValueError.__init__"))
  subV : subIn K (.ref C) (.type "ValueError") = some true
  mroC : mroIn K C (.ref C) = some true
  noAny : nsIn K cStatics "thirdparty.any" = some none
  mS : mg "super" = none
  top : (P.main.scope.names.lookup ("super" : Str)).isSome = false
  fn : ∃ (oc : Value) (od : Option Addr) (doc pm : Value) (an : Option Addr) (cda cc : Addr) (ct : Value) (osl : Array (Option Value)),
    K.lookup fI = some ⟨oc, od, .func (ksFn "__init__" "BadText.__init__" (defArgs iniSt) (defBody iniSt) (defScope iniSt) .none .none doc pm an (.ref cda) ct cc), osl⟩ ∧ codeIn K (.ref cda) "BadText.__init__" = true ∧
    (∃ (ccl : Value) (cdd : Option Addr) (vs : Array Value) (ccs : Array (Option Value)) (file : Str) (tf : Tok), K.lookup cda = some ⟨ccl, cdd, .fields vs, ccs⟩ ∧ vs[2]? = some (.str file tf) ∧ ((P.main.file : Str) == file) = true) ∧
    ∃ (cl : Value) (cld : Option Addr) (csl : Array (Option Value)), K.lookup cc = some ⟨cl, cld, .cell (some (.ref C)), csl⟩
theorem sz1 {a b : Str} (ha : a.length ≤ 500) (hb : b.length ≤ 1000) : (a ++ b).length ≤ sizeLine := by rw [Str.length_append, sizeLine_eq]; omega
theorem sz2 {a b c : Str} (ha : a.length ≤ 500) (hb : b.length ≤ 1000) (hc : c.length ≤ 500) : (a ++ b ++ c).length ≤ sizeLine := by rw [Str.length_append, Str.length_append, sizeLine_eq]; omega
namespace OE
open PySem.W PySem.Calls PySem.HandSPX
/-- what __init__ leaves of a fresh exception at x -/
structure InitEnd (h h' : Heap) (x C dx t1 : Addr) (v : Value) : Prop where
  keep : ∀ b o, b ≠ x → h.get? b = some o → h'.get? b = some o
  obj : h'.get? x = some { cls := .ref C, dict := some dx, data := .fields #[.ref t1, .none, .none, .none, .bool false, .none] }
  dbig : h.objs.size ≤ dx
  dne : dx ≠ x
  ns : h'.Ns1 dx (fun y => if y = "row" then some v else none)
/-- a made one -/
structure Made (h h' : Heap) (e C d : Addr) (v : Value) : Prop where
  keep : ∀ b o, h.get? b = some o → h'.get? b = some o
  new : h.objs.size ≤ e
  obj : ∃ oe vs, h'.get? e = some oe ∧ oe.cls = .ref C ∧ oe.dict = some d ∧ oe.data = .fields vs ∧ vs[1]? = some .none
  dbig : h.objs.size ≤ d
  dne : d ≠ e
  ns : h'.Ns1 d (fun y => if y = "row" then some v else none)
section
variable {P : Program} {w : World} {A : Around} {E : Value → Shared → Prop} {R : Result → Shared → Prop} {s : Shared} {K : Frag} {mg : Str → Option Value} {C fI : Addr}
theorem call_wrapped {h : Heap} {g : Array GenState} {d : Drawn} {t : Nat} {os : OsState} {u e t0 : Addr} {rest : List Value} {Q : Value → Shared → Prop} {nm q : Str} {N : Addr} {bs bm : List Value} {sn : List Str} {sub : List Value} {ab : Bool} {col : Option Bool} {dd : Option Addr} {k0 k1 k2 k3 k5 : Option Value}
    (hC : h.get? C = some (excClassObj nm q C N bs bm true sn sub ab col dd k0 k1 k2 k3 k5 "ValueError.__new__")) (he : h.get? e = some (excO C t0)) (hu : h.get? u = some (kxs_mw "ValueError.__init__" e)) (hrest : rest.length ≤ sizeLine)
    (hq : ∀ h' t1, (∀ b o, b ≠ e → h.get? b = some o → h'.get? b = some o) → h'.get? e = some (excO C t1) → Q .none ⟨h', g, d, t, os⟩) :
    wpAny (model P w) A (call (.ref u) rest) Q E ⟨h, g, d, t, os⟩ := by
  refine wpAny_call (codeAny_of_tree ?_)
  show wpAny _ A.in1 (callAny (.ref u) ⟨rest, []⟩) _ _ _
  simp only [callAny]
  refine wpAny_bind (wpAny_load hu ?_)
  simp only [kxs_mw, show (Value.type "method-wrapper" == Value.type "method" || Value.type "method-wrapper" == Value.type "builtin_function_or_method" || Value.type "method-wrapper" == Value.type "method-wrapper") = true by decide, if_true]
  refine KFB.if_so (by decide) ?_
  refine wpAny_bind (check_bound_init F.excBase_ValueError.toExcCallFacts hC he rfl ?_)
  refine wpAny_bind (wpAny_pure (wpAny_pure ?_))
  refine ⟨plainId_quiet F.excBase_ValueError.init.plain _, codeAny_builtin F.excBase_ValueError.initEntry ?_⟩
  exact exc_init_tree (cls := .ref C) (t0 := t0) (dv := none) (c2 := .none) (c3 := .none) (b4 := .bool false) he hrest fun h' k1 k2 _ => hq h' _ k1 k2
theorem ini {x t0 : Addr} {i : Int} {tk0 : Tok} (T : OwnErr P K mg C fI) (hi : i.natAbs.log2 < 1920) (hil : (toString i : Str).length ≤ 1000) (X : K.In s.heap) (hg : s.heap.Ns mainGlobals mg) (hb : ∃ mb, s.heap.Ns builtinsNs mb ∧ ∀ x : Str, x ≠ "__name__" → mb x = bootBuiltins x)
    (hlim : s.heap.NoLimit) (hx : s.heap.get? x = some (excO C t0)) (hnx : K.lookup x = none) (hroom : A.depth < recursionLimit)
    (hq : ∀ h' tk dx t1, InitEnd s.heap h' x C dx t1 (.int i tk0) → R (.ok (.ret .none)) { s with heap := h', toks := tk }) :
    codeAny (model P w) A (.call (.ref fI) ⟨[.ref x, .int i tk0], []⟩) R s := by
  obtain ⟨oc, od, doc, pm, an, cda, cc, ct, osl, ho, hcd, ⟨ccl, cdd, vs, ccs, file, tf, hcode, hvs, hfile⟩, cl, cld, csl, hcell⟩ := T.fn
  obtain ⟨nm, q, N, bs, bm, sn, sub, ab, col, dd, k0, k1, k2, k3, k5, hC, hbm⟩ := T.cls
  obtain ⟨mb, hb, hbb⟩ := hb
  have hcl : clsIn K C = some { name := nm, bases := bs, mro := .ref C :: bm, ns := N, qualname := q, hasDict := true, slotNames := sn, subclasses := sub, abstract := ab, collection := col, hasDel := false } := by unfold clsIn; rw [hC] <;> rfl
  have sl1 : (defScope iniSt).names.lookup ("self" : Str) = some .local := by decide +kernel
  have sl2 : (defScope iniSt).names.lookup ("row" : Str) = some .local := by decide +kernel
  have hbd : BindsTo s (ksFn "__init__" "BadText.__init__" (defArgs iniSt) (defBody iniSt) (defScope iniSt) .none .none doc pm an (.ref cda) ct cc) ⟨[.ref x, .int i tk0], []⟩ [("self", .ref x), ("row", .int i tk0)] := BindsTo.of_eq (by first | rfl | with_unfolding_all rfl)
  refine ks_codeAny_call_defAt (binds := [("self", .ref x), ("row", .int i tk0)]) hroom (X _ _ ho) rfl hlim (codeRec_of X hcd) rfl hbd (show ∀ x ∈ (defScope iniSt).names, x.2 ≠ .cell by decide +kernel)
    (fun y hy => ?_) (fun h₁ hns k => ?_) rfl rfl rfl
  · rcases List.mem_cons.mp hy with rfl | hy
    · exact sl1
    · rcases List.mem_cons.mp hy with rfl | hy
      · exact sl2
      · cases hy
  have X₁ : K.In h₁ := X.keeps k
  have hx₁ := k _ _ hx
  have hC₁ := X₁ _ _ hC
  obtain ⟨hp, g, dr, tk, os⟩ := s
  have I₁ : InstAt h₁ x (excO C t0) C none := ⟨hx₁, rfl, rfl, trivial⟩
  have hv1 : (fun y => List.lookup y (List.reverse [(("self" : Str), Value.ref x), ("row", .int i tk0)])) "self" = some (.ref x) := by first | rfl | with_unfolding_all rfl
  have hv2 : (fun y => List.lookup y (List.reverse [(("self" : Str), Value.ref x), ("row", .int i tk0)])) "row" = some (.int i tk0) := by first | rfl | with_unfolding_all rfl
  have hxC : x ≠ C := fun z => by rw [z, hC] at hnx; cases hnx
  have sl3 : (defScope iniSt).names.lookup ("super" : Str) = some .globalImplicit := by decide +kernel
  have sl4 : (defScope iniSt).names.lookup ("__class__" : Str) = some .free := by decide +kernel
  refine ks_wpAt_execs_cons (ks_wpAt_Expr_any (ks_wpAt_MethodCall ?_))
  refine ks_wpAt_super_base sl3 sl4 (by decide +kernel) rfl (X₁ _ _ ho) rfl rfl rfl (X₁ _ _ hcode) rfl hvs hfile T.top ?_
  refine ks_loadName_global rfl sl3 (loadGlobal_builtin (hg.keeps k) T.mS (hb.keeps k) ((hbb _ (by decide +kernel)).trans (show bootBuiltins "super" = some (.type "super") by first | boot_by_name | rfl | kernel_rfl)) ⟨rfl, ?_⟩)
  refine wpAny_loadName_free rfl sl4 rfl ⟨_, X₁ _ _ hcell, rfl⟩ ?_
  refine wpAny_loadName_local rfl sl1 hns hv1 ?_
  refine ks_wpAny_isType_cls hC₁ rfl ⟨rfl, ?_⟩
  refine ks_wpAny_call_super hC₁ rfl hx₁ rfl (fun c e => by cases e) (looks_mroIn X₁ T.mroC) (fun h₂ e₂ k₂ => ?_)
  have X₂ : K.In h₂ := X₁.keeps k₂
  have hx₂ := k₂ _ _ hx₁
  have I₂ : InstAt h₂ x (excO C t0) C none := ⟨hx₂, rfl, rfl, trivial⟩
  have hsup := T.sup
  unfold ks_superIn at hsup
  rw [hcl] at hsup
  refine kxs_getMethod kxs_ValueError e₂ (looks_opaque X₂ T.noAny) (l₀ := .ref C :: bm) (fun A Q E s k q => wpAny_bind ((looks_clsIn X₂ hcl) A _ E s k (wpAny_pure q))) rfl X₂ hsup (I₂.type.andThen (looks_subIn X₂ T.subV)) hxC (by decide) ?_
  refine kxs_callWith (i := "ValueError.__init__") (x := x) rfl ?_
  have k₃ : ∀ b o, h₂.get? b = some o → (h₂.push (kxs_mw "ValueError.__init__" x)).get? b = some o := fun b o e => Heap.get?_push_of_some _ e
  have hns₃ := (hns.keeps k₂).keeps k₃
  have hu : (h₂.push (kxs_mw "ValueError.__init__" x)).get? h₂.objs.size = some (kxs_mw "ValueError.__init__" x) := Heap.get?_push_at rfl rfl
  refine evalArgs_plain (spliced_cons (wpAny_JoinedStr (pos := ⟨0, 0, 0, 0⟩) ?_))
  refine wpAny_Constant_str ⟨_, _, rfl, (by decide +kernel), ?_⟩
  refine wpAny_FormattedValue_plain (wpAny_Name (wpAny_loadName_local rfl sl2 hns₃ hv2 ?_) (by decide))
  refine wpAny_formatField_int hi ⟨_, _, rfl, sz1 (by decide +kernel) hil, ?_⟩
  refine wpAny_Constant_str ⟨_, _, rfl, sz2 (by decide +kernel) hil (by decide +kernel), ?_⟩
  refine ⟨sz2 (by decide +kernel) hil (by decide +kernel), spliced_nil ⟨hu, ?_⟩⟩
  refine call_wrapped (k₃ _ _ (k₂ _ _ hC₁)) (k₃ _ _ hx₂) hu (by show 1 ≤ sizeLine; rw [sizeLine_eq]; omega) (fun h₄ t1 k₄ hx₄ => ?_)
  have X₄ : K.In h₄ := fun a o e => k₄ a o (fun z => by rw [z, hnx] at e; cases e) ((X₂.keeps k₃) a o e)
  obtain ⟨oL, esL, epL, hoL, hdL, rL⟩ := hns₃
  have xL : hp.objs.size ≠ x := Nat.ne_of_gt (Heap.lt_size hx)
  have hns₄ : h₄.Ns hp.objs.size _ := ⟨oL, esL, epL, k₄ _ _ xL hoL, hdL, rL⟩
  refine wpAt_of_wpAny (wpAny_execs_cons (plainObj_wpAny_Assign_Attribute ?_))
  refine wpAny_Name (wpAny_loadName_local rfl sl2 hns₄ hv2 ?_) (by decide)
  refine wpAny_Name (wpAny_loadName_local rfl sl1 hns₄ hv1 ?_) (by decide)
  refine set_plain X₄ (ox := excO C t1) (od := none) ⟨hx₄, rfl, rfl, trivial⟩ T.sa ?_
  refine exc_osa X₄ hx₄ hcl (show refsVE (.ref C :: bm) = true from hbm) rfl T.noN (fun h₅ tk₅ dx k₅ dn dne hx₅ hn₅ => ?_)
  refine wpAny_execs_nil (hq h₅ tk₅ dx t1 ⟨fun b o hb e => k₅ b o hb (k₄ b o hb (k₃ _ _ (k₂ _ _ (k b o e)))), hx₅, ?_, dne, hn₅⟩)
  refine Nat.le_trans (Nat.le_of_lt (Heap.lt_size (k₄ _ _ xL hoL))) dn
theorem make {i : Int} {tk0 : Tok} (T : OwnErr P K mg C fI) (hi : i.natAbs.log2 < 1920) (hil : (toString i : Str).length ≤ 1000) (X : K.In s.heap) (hg : s.heap.Ns mainGlobals mg) (hb : ∃ mb, s.heap.Ns builtinsNs mb ∧ ∀ x : Str, x ≠ "__name__" → mb x = bootBuiltins x)
    (hlim : s.heap.NoLimit) (hroom : A.depth + 1 < recursionLimit)
    (hq : ∀ h' tk e d, Made s.heap h' e C d (.int i tk0) → R (.ok (.ret (.ref e))) { s with heap := h', toks := tk }) :
    codeAny (model P w) A (.call (.ref C) ⟨[.int i tk0], []⟩) R s := by
  obtain ⟨nm, q, N, bs, bm, sn, sub, ab, col, dd, k0, k1, k2, k3, k5, hC, hbm⟩ := T.cls
  obtain ⟨mb, hb, hbb⟩ := hb
  obtain ⟨hp, g, dr, tk, os⟩ := s
  have k : ∀ b o, hp.get? b = some o → ((hp.push (kdv_tup [.int i tk0])).push (excO C hp.objs.size)).get? b = some o := fun b o e => Heap.get?_push_of_some _ (Heap.get?_push_of_some _ e)
  have hget : ((hp.push (kdv_tup [.int i tk0])).push (excO C hp.objs.size)).get? (hp.objs.size + 1) = some (excO C hp.objs.size) := by heap_get
  have hnx : K.lookup (hp.objs.size + 1) = none := by
    cases e : K.lookup (hp.objs.size + 1) with
    | none => rfl
    | some o =>
      have z : hp.get? (hp.objs.size + 1) = some o := X _ _ e
      exact absurd (Nat.lt_of_succ_lt (Heap.lt_size z)) (Nat.lt_irrefl _)
  refine call_own F.excBase_ValueError (fun X => refsVE_contains X bm hbm) (X _ _ hC) (looks_findIn X T.iC) (fun self => bind_fn X self T.tC) (by show 1 ≤ sizeLine; rw [sizeLine_eq]; omega) ?_
  refine ini (s := ⟨(hp.push (kdv_tup [.int i tk0])).push (excO C hp.objs.size), g, dr, tk, os⟩) T hi hil (X.keeps k) (hg.keeps k) ⟨mb, hb.keeps k, hbb⟩ (hlim.keeps k) hget hnx ?_ fun h' tk' dx t1 ⟨k', hx, dn, dne, hns⟩ => ?_
  · exact hroom
  · have old : ∀ b o, hp.get? b = some o → h'.get? b = some o := fun b o e => k' b o (Nat.ne_of_lt (Nat.lt_succ_of_lt (Heap.lt_size e))) (k b o e)
    have z : hp.objs.size + 1 + 1 ≤ dx := by
      have q := dn
      rw [Heap.size_push, Heap.size_push] at q
      exact q
    exact ⟨rfl, hq h' tk' (hp.objs.size + 1) dx ⟨old, Nat.le_succ _, ⟨_, _, hx, rfl, rfl, rfl, rfl⟩, (show hp.objs.size ≤ dx by omega), dne, hns⟩⟩
end
end OE
section
variable {X : Cx} {C fI : Addr}
theorem relO_own {v : V} {v' : Value} (r : RelV v v') (f : Str) : RelO (List.lookup f [(("row" : Str), v)]) (if f = "row" then some v' else none) := by
  by_cases hw : f = "row"
  · subst hw
    rw [if_pos rfl]
    have q : List.lookup ("row" : Str) [(("row" : Str), v)] = some v := by simp [List.lookup]
    rw [q]
    exact r
  · rw [if_neg hw]
    have qw : (f == ("row" : Str)) = false := by simpa using hw
    have q2 : List.lookup f [(("row" : Str), v)] = none := by simp [List.lookup, qw]
    rw [q2]
    trivial
/-- BadText(e), e a small number -/
def tMkOwn (C : Addr) (ta : TA) : L2.St → Hp → XK → Prop := fun σ H Q => ta σ H fun vs H1 => ∃ i : Int, vs = [.int i] ∧ 0 ≤ i ∧ i ≤ 20000 ∧ ∀ d, H1 d = none → Q (.ref C) (some d) (upd H1 d (.xd [(("row" : Str), .int i)]))
theorem small_text {i : Int} (h0 : 0 ≤ i) (h1 : i ≤ 20000) : (toString i : Str).length ≤ 1000 := by
  have h2 : i.natAbs ≤ 20000 := by omega
  have e := int_text_length_le10 (k := 10) (by decide) (Nat.lt_of_le_of_lt h2 (by decide))
  rw [PySem.ofString_length]
  omega
theorem small_log {i : Int} (h0 : 0 ≤ i) (h1 : i ≤ 20000) : i.natAbs.log2 < 1920 := by
  have h : i.natAbs ≤ 20000 := by omega
  by_cases z : i.natAbs = 0
  · rw [z]; decide
  · have h3 : i.natAbs.log2 < 16 := (Nat.log2_lt z).mpr (show i.natAbs < 2 ^ 16 by omega)
    omega
theorem pmk_own2 {a : Expr} {ta : TA} {p pos : Pos} {k : Nat} (T : OwnErr X.prog X.K X.mg C fI) (hr : Room k X.A) (ha : PA X [a] ta) (hg : Gl X "BadText" := by rfl)
    (he : starEach (a :: []) X.env = (false, eval a X.env) :: starEach [] X.env := by rfl) (hpl : (backTo pos (starEach [] X.env)).any (·.1) = false := by rfl) :
    PMk X (.Call (.Name "BadText" p) [a] [] pos) (tMkOwn C ta) := by
  intro pins s σ H Q I h
  refine wpAny_Call_Name_kw (ld_glob I hg T.gC ?_)
  refine PySem.W.callWith_K (h₀ := X.base) I.ok.mod.kin T.kC (thn (ha.run pos pins s σ H _ I h) fun us s1 hh => ?_) he hpl
  obtain ⟨vs, H1, I1, r1, i, ev, i0, i1, q1⟩ := hh
  subst ev
  refine ⟨I1.kIn, ?_⟩
  cases r1 with
  | cons rv rn =>
    rename_i v' us'
    cases rn
    obtain ⟨tk0, rfl⟩ := rv
    show wpAny _ _ (call (.ref C) [.int i tk0]) _ _ _
    have hlim := I1.nolimit
    have hmod := I1.mod
    obtain ⟨mb, hmb, hbb⟩ := hmod.blt
    have bk := I1.bk
    obtain ⟨hp, g, dr, tk, os⟩ := s1
    refine wpAny_call (OE.make T (small_log i0 i1) (small_text i0 i1) I1.kIn (hmod.glob.keeps bk) ⟨mb, hmb.keeps bk, hbb⟩ hlim (by have := hr.dp; omega) fun h' tk' e d M => ?_)
    show MkP X pins σ Q (.ref e) ⟨h', g, dr, tk', os⟩
    obtain ⟨oe, fv, hoe, hc, hd, hdat, h1⟩ := M.obj
    have hns := M.ns
    obtain ⟨G', g1, g2⟩ := restrict h' fun b => decide (b ≠ e)
    have gk : ∀ b, b ≠ e → G'.get? b = h'.get? b := fun b hb => g1 b (decide_eq_true hb)
    have ge : G'.get? e = none := g2 e (by simp)
    have old : ∀ b o, hp.get? b = some o → G'.get? b = some o := fun b o q => (gk b (Nat.ne_of_lt (Nat.lt_of_lt_of_le (Heap.lt_size q) M.new))).trans (M.keep b o q)
    have ob : ObjOk X.prog X.w (upd H1 d (.xd [(("row" : Str), .int i)])) G' d (.xd [(("row" : Str), .int i)]) :=
      ⟨_, hns.at (fun o q => (gk d M.dne).trans q), fun f => relO_own (v := .int i) ⟨tk0, rfl⟩ f⟩
    have J : Inv X pins σ (upd H1 d (.xd [(("row" : Str), .int i)])) ⟨G', g, dr, tk', os⟩ := I1.laid (t' := tk') old M.dbig ob
    refine ⟨e, oe, fv, ⟨G', g, dr, tk', os⟩, _, .ref C, some d, rfl, J, fun b o q => ?_, ge, hoe, ⟨hc, hd⟩, hdat, h1, ?_, rfl, I1.bare, raises_own T.exC T.tyC, q1 d (I1.hok.fresh M.dbig)⟩
    · by_cases hb : b = e
      · have q' : G'.get? b = some o := q
        rw [hb, ge] at q'; cases q'
      · exact (gk b hb).symm.trans q
    · rw [upd_ne (Ne.symm M.dne)]
      exact I1.hok.fresh M.new
/-- raise BadText(e) -/
def tRaiseOwn (C : Addr) (W : WX) (ta : TA) : TS := fun _ σ H => tMkOwn C ta σ H fun cls d H' => W cls d σ H'
theorem ps_raiseOwn {a : Expr} {ta : TA} {W : WX} {p pos pos2 : Pos} {k : Nat} (hc : X.calm = true) (T : OwnErr X.prog X.K X.mg C fI) (hr : Room k X.A) (tk : Takes X W) (ha : PA X [a] ta) (hg : Gl X "BadText" := by rfl)
    (he : starEach (a :: []) X.env = (false, eval a X.env) :: starEach [] X.env := by rfl) (hpl : (backTo pos (starEach [] X.env)).any (·.1) = false := by rfl) :
    PS X (.Raise (some (.Call (.Name "BadText" p) [a] [] pos)) none pos2) (tRaiseOwn C W ta) := ps_raise hc tk (pmk_own2 T hr ha hg he hpl)
end
end N_BadText
/-! ### patches of any rows told: can_be, check_patch -/
set_option pp.maxSteps 600
open TL
def PiecesAt (H : Hp) (p : Addr) (rows : List Row) : Prop := ∃ vs, H p = some (.lst vs) ∧ Paired (PieceV H) vs rows
theorem PiecesAt.same {H H' : Hp} {p : Addr} {rows : List Row} (s : Same H H') (h : PiecesAt H p rows) : PiecesAt H' p rows := let ⟨vs, e, r⟩ := h; ⟨vs, s _ _ e, pairedMap r fun _ _ x => x.tups (Same.tups s)⟩
def Rz (E : XK) (C : Addr) (fld : Str) (e : Int) (H : Hp) : Prop := ∀ H' d, Same H H' → H' d = none → E (.ref C) (some d) (upd H' d (.xd [(fld, .int e)]))
theorem Rz.same {E : XK} {C : Addr} {fld : Str} {e : Int} {H H' : Hp} (s : Same H H') (r : Rz E C fld e H) : Rz E C fld e H' := fun H2 d s2 hd => r H2 d (s.trans s2) hd
theorem Rz.now {E : XK} {C : Addr} {fld : Str} {e : Int} {H : Hp} (r : Rz E C fld e H) : ∀ d, H d = none → E (.ref C) (some d) (upd H d (.xd [(fld, .int e)])) := fun d hd => r H d (Same.refl _) hd
def LooseW (r : Row) : Prop := Loose r ∧ r.len ≤ 4000000
def Row.can (r : Row) : Prop := r.ok 200 ∧ r.len ≤ 200
def badAt (rows : List Row) (i : Nat) : Prop := i < rows.length ∧ Good (rows.take i) ∧ ¬ Good (rows.take (i + 1))
theorem Good.nil : Good [] := ⟨fun r hr => (List.not_mem_nil hr).elim, by show (0 : Int) ≤ 200; decide⟩
theorem Good.cut {rows : List Row} (h : Good rows) (n : Nat) : Good (rows.take n) := ⟨fun r hr => h.1 r (List.mem_of_mem_take hr), Int.le_trans (total_take_le h.1 n) h.2⟩
theorem good_snoc {rows : List Row} {i : Nat} {r : Row} (hr : rows[i]? = some r) (h : Good (rows.take i)) : Good (rows.take (i + 1)) ↔ r.can ∧ total (rows.take i) + r.len ≤ 200 := by
  have e := total_take hr
  have nn := total_nn h.1
  constructor
  · intro g
    have g1 : r.ok 200 := g.1 r (by rw [take_snoc hr]; exact List.mem_append_right _ (List.mem_singleton.mpr rfl))
    have g2 := g.2
    rw [e] at g2
    exact ⟨⟨g1, by omega⟩, g2⟩
  · rintro ⟨⟨g1, _⟩, g2⟩
    refine ⟨fun x hx => ?_, by rw [e]; exact g2⟩
    rw [take_snoc hr] at hx
    rcases List.mem_append.mp hx with hx | hx
    · exact h.1 x hx
    · rw [List.mem_singleton.mp hx]; exact g1
theorem good_or_bad (rows : List Row) : Good rows ∨ ∃ i, badAt rows i := by
  have key : ∀ n, n ≤ rows.length → Good (rows.take n) ∨ ∃ i, badAt rows i := by
    intro n
    induction n with
    | zero => intro _; exact .inl (by rw [List.take_zero]; exact Good.nil)
    | succ n ih =>
      intro h
      rcases ih (by omega) with g | b
      · by_cases c : Good (rows.take (n + 1))
        · exact .inl c
        · exact .inr ⟨n, by omega, g, c⟩
      · exact .inr b
  rcases key rows.length (Nat.le_refl _) with g | b
  · rw [List.take_length] at g; exact .inl g
  · exact .inr b
theorem badAt.not {rows : List Row} {i : Nat} (h : badAt rows i) : ¬ Good rows := fun g => h.2.2 (g.cut _)
theorem badAt.one {rows : List Row} {i j : Nat} (h : badAt rows i) (g : badAt rows j) : i = j := by
  have key : ∀ {i j : Nat}, badAt rows i → badAt rows j → ¬ i < j := fun {i j} h g c => h.2.2 (by
    have := g.2.1.cut (i + 1)
    rw [List.take_take, Nat.min_eq_left (by omega)] at this
    exact this)
  have := key h g
  have := key g h
  omega
def spCanBeL : Sp := fun vs H Q _ => ∃ (p : Addr) (r : Row), vs = [.ref p] ∧ H p = some (.tup r.tup) ∧ LooseW r ∧ (r.can → Q (.bl true) H) ∧ (¬ r.can → Q (.bl false) H)
def spCheckL (CP : Addr) : Sp := fun vs H Q E => ∃ (v : V) (rows : List Row), vs = [v] ∧ (PatchAt H v rows ∨ ∃ p, v = .ref p ∧ PiecesAt H p rows) ∧ (∀ r ∈ rows, LooseW r) ∧ rows.length ≤ 20000 ∧ (Good rows → ∀ H', Same H H' → Q .non H') ∧ (∀ i : Nat, badAt rows i → Rz E CP "piece" i H)
section
variable {P : Program} {w : World} {K : PySem.W.Frag} {mg : Str → Option Value} {base : Heap} {C fI CP fP : Addr}
theorem okF_can_be (T : All K mg) : FnOk P w K mg base CX0 2 T.d_can_be.f T.d_can_be.fd ["piece"] spCanBeL := by
  have G_is_number : FnOk P w K mg base CX0 1 T.d_is_number.f T.d_is_number.fd ["what", "least", "most"] spIsNum := ok_is_number T
  refine T.d_can_be.F.ok sc_can_be (fun vs H Q E h => ?_) (fun cdv A outer s H vs Q E hr h => ?_)
  · obtain ⟨p, _, rfl, _⟩ := h
    rfl
  · obtain ⟨p, r, rfl, hp, ⟨hlo, hlen⟩, kY, kN⟩ := h
    refine ⟨_, (pss_cons 
      (ps_if (pt_not (pt_val (pe_callB call_isi (by rfl) T.b_isinstance (by decide +kernel) (pa_cons (pv 0) (pa_cons (pe_bltn (v := .ty "tuple") (by rfl) T.b_tuple (by decide +kernel) rfl) pa_nil))))) (pss_one 
      (ps_ret pe_bl)) pss_nil) (pss_cons 
      (ps_if (pt_cmpR op_eq (pe_callB call_len (by rfl) T.b_len PySem.boot_len (pa_cons (pv 0) pa_nil)) pe_int (nomark _)) (pss_cons 
      (ps_asg (pv 0) (pg_tup rfl (pgs_cons (pg_name (i := 1) sc_can_be.nd rfl (Or.inl rfl)) (pgs_cons (pg_name (i := 2) sc_can_be.nd rfl (Or.inl rfl)) pgs_nil)))) (pss_one 
      (ps_ret (pe_and (pe_cmpR op_eq (pv 1) pe_str (nomark _)) (pe_and (pe_callB call_isi (by rfl) T.b_isinstance (by decide +kernel) (pa_cons (pv 2) (pa_cons (pe_bltn (v := .ty "bytes") (by rfl) T.b_bytes (by decide +kernel) rfl) pa_nil))) (pe_one (pe_chain op_le op_le pe_int (pe_callB call_len (by rfl) T.b_len PySem.boot_len (pa_cons (pv 2) pa_nil)) (pe_glob (v := .int 200) rfl T.c_MOST ⟨_, rfl⟩)))))))) pss_nil) (pss_cons 
      (ps_if (pt_cmpR op_ne (pe_callB call_len (by rfl) T.b_len PySem.boot_len (pa_cons (pv 0) pa_nil)) pe_int (nomark _)) (pss_one 
      (ps_ret pe_bl)) pss_nil) (pss_cons 
      (ps_asg (pv 0) (pg_tup rfl (pgs_cons (pg_name (i := 1) sc_can_be.nd rfl (Or.inl rfl)) (pgs_cons (pg_name (i := 3) sc_can_be.nd rfl (Or.inl rfl)) (pgs_cons (pg_name (i := 4) sc_can_be.nd rfl (Or.inl rfl)) pgs_nil))))) (pss_cons 
      (ps_if (pt_not (pt_val (pe_call G_is_number (hr.mono (by decide)) rfl T.d_is_number.m T.d_is_number.F.kp T.d_is_number.b .nil pass0 (pa_cons (pv 4) (pa_cons pe_int (pa_cons (pe_glob (v := .int 200) rfl T.c_MOST ⟨_, rfl⟩) pa_nil)))))) (pss_one 
      (ps_ret pe_bl)) pss_nil) (pss_cons 
      (ps_if (pt_cmpR op_eq (pv 1) pe_str (nomark _)) (pss_one 
      (ps_ret (pe_call G_is_number (hr.mono (by decide)) rfl T.d_is_number.m T.d_is_number.F.kp T.d_is_number.b .nil pass0 (pa_cons (pv 3) (pa_cons pe_int (pa_cons (pe_op op_sub (pe_glob (v := .int 200) rfl T.c_MOST ⟨_, rfl⟩) (pv 4)) pa_nil)))))) pss_nil) (pss_one 
      (ps_ret (pe_and (pe_cmpR op_eq (pv 1) pe_str (nomark _)) (pe_one (pe_call G_is_number (hr.mono (by decide)) rfl T.d_is_number.m T.d_is_number.F.kp T.d_is_number.b .nil pass0 (pa_cons (pv 3) (pa_cons pe_int (pa_cons (pe_glob (v := .int 255) rfl T.c_LAST_BYTE ⟨_, rfl⟩) pa_nil)))))))))))))), ?_⟩
    refine ⟨_, rfl, _, _, _, _, true, rfl, .ty _, .base (.tup hp), kit_ty (by decide +kernel), true, rfl, iteF ?_⟩
    cases r with
    | copy b n =>
      obtain ⟨h1, _, h2, _⟩ := hlo
      refine ⟨_, rfl, _, 3, rfl, .inr ⟨_, SqT.of hp, rfl⟩, rfl, _, rfl, ite2 (fun h => absurd h (by decide)) fun _ => ?_⟩
      refine ⟨_, rfl, _, 3, rfl, .inr ⟨_, SqT.of hp, rfl⟩, rfl, _, rfl, ite2 (fun h => absurd h (by decide)) fun _ => ?_⟩
      refine ⟨_, rfl, p, _, rfl, SqT.of hp, rfl, _, _, rfl, _, _, rfl, _, _, rfl, rfl, ?_⟩
      refine ⟨_, rfl, n, 1, 200, rfl, _, rfl, ?_⟩
      by_cases h5 : 1 ≤ n
      · rw [decide_eq_true h5]
        by_cases h4 : n ≤ 200
        · rw [decide_eq_true h4]
          refine iteF ?_
          refine ⟨_, rfl, rfl, _, rfl, ite2 (fun _ => ?_) fun h => absurd (by decide) h⟩
          refine ⟨_, rfl, _, rfl, _, _, rfl, rfl, b, 0, 200 - n, rfl, ?_⟩
          rw [decide_eq_true h1]
          by_cases h3 : b ≤ 200 - n
          · rw [decide_eq_true h3]
            exact kY ⟨⟨h1, h5, by omega⟩, h4⟩
          · rw [decide_eq_false h3]
            exact kN fun c => h3 (by have := c.1.2.2; omega)
        · rw [decide_eq_false h4]
          refine iteT ?_
          exact kN fun c => h4 c.2
      · rw [decide_eq_false h5]
        refine iteT ?_
        exact kN fun c => h5 c.1.2.1
    | run b n =>
      obtain ⟨h1, _, h2, _⟩ := hlo
      refine ⟨_, rfl, _, 3, rfl, .inr ⟨_, SqT.of hp, rfl⟩, rfl, _, rfl, ite2 (fun h => absurd h (by decide)) fun _ => ?_⟩
      refine ⟨_, rfl, _, 3, rfl, .inr ⟨_, SqT.of hp, rfl⟩, rfl, _, rfl, ite2 (fun h => absurd h (by decide)) fun _ => ?_⟩
      refine ⟨_, rfl, p, _, rfl, SqT.of hp, rfl, _, _, rfl, _, _, rfl, _, _, rfl, rfl, ?_⟩
      refine ⟨_, rfl, n, 1, 200, rfl, _, rfl, ?_⟩
      by_cases h5 : 1 ≤ n
      · rw [decide_eq_true h5]
        by_cases h4 : n ≤ 200
        · rw [decide_eq_true h4]
          refine iteF ?_
          refine ⟨_, rfl, rfl, _, rfl, ite2 (fun h => absurd h (by decide)) fun _ => ?_⟩
          refine ⟨_, rfl, rfl, _, rfl, ite2 (fun _ => ?_) fun h => absurd (by decide) h⟩
          refine ⟨_, rfl, b, 0, 255, rfl, ?_⟩
          rw [decide_eq_true h1]
          by_cases h3 : b ≤ 255
          · rw [decide_eq_true h3]
            exact kY ⟨⟨h1, by omega, h5⟩, h4⟩
          · rw [decide_eq_false h3]
            exact kN fun c => h3 (by have := c.1.2.1; omega)
        · rw [decide_eq_false h4]
          refine iteT ?_
          exact kN fun c => h4 c.2
      · rw [decide_eq_false h5]
        refine iteT ?_
        exact kN fun c => h5 c.1.2.2
    | bring bs =>
      have h1 : 1 ≤ (bs.length : Int) := by have := hlo.1; omega
      have hlen : (bs.length : Int) ≤ 4000000 := hlen
      refine ⟨_, rfl, _, 2, rfl, .inr ⟨_, SqT.of hp, rfl⟩, rfl, _, rfl, ite2 (fun _ => ?_) fun h => absurd (by decide) h⟩
      refine ⟨_, rfl, p, _, rfl, SqT.of hp, rfl, _, _, rfl, _, _, rfl, rfl, ?_⟩
      refine ⟨_, rfl, rfl, _, rfl, ite2 (fun _ => ?_) fun h => absurd (by decide) h⟩
      refine ⟨_, rfl, _, _, _, _, true, rfl, .ty _, .byt _, kit_ty (by decide +kernel), true, rfl, iteT ?_⟩
      refine ⟨_, rfl, _, bs.length, rfl, ⟨by rw [byteArr_size, sizeLine_eq]; omega, (byteArr_size bs).symm⟩, _, _, rfl, rfl, _, rfl, ?_⟩
      rw [decide_eq_true h1]
      refine iteT ⟨_, _, rfl, rfl, ?_⟩
      show Q (.bl (decide ((bs.length : Int) ≤ 200))) H
      by_cases h4 : (bs.length : Int) ≤ 200
      · rw [decide_eq_true h4]
        exact kY ⟨⟨h1, hlo.2⟩, h4⟩
      · rw [decide_eq_false h4]
        exact kN fun c => h4 c.2
theorem pi_enumTL {X : Cx} {e : Expr} {ta : TA} {p pos tpos : Pos} {elts : List Expr} {kk : Nat} (hg : Gl X "enumerate") (hm : X.mg "enumerate" = none) (ha : PA X [e] ta) (hs : starEach [e] X.env = [(false, eval e X.env)] := by rfl) :
    PI X (.Tuple elts kk tpos) (.Call (.Name "enumerate" p) [e] [] pos) (fun σ H R => iEnumT X.K ta σ H R ∨ iEnum X.K ta σ H R) := PI_or (pi_enumT hg hm ha hs) (pi_enum hg hm ha hs)
theorem okx_check_patch (T : All K mg) (O_BadPatch : N_BadPatch.OwnErr P K mg CP fP) : FnOk P w K mg base (L2.CX P w) 3 T.d_check_patch.f T.d_check_patch.fd ["patch"] (spCheckL CP) := by
  have G_can_be : FnOk P w K mg base CX0 2 T.d_can_be.f T.d_can_be.fd ["piece"] spCanBeL := okF_can_be T
  have G_length_of : FnOk P w K mg base CX0 1 T.d_length_of.f T.d_length_of.fd ["piece"] spLengthOf := ok_length_of T
  refine T.d_check_patch.F.okX sc_check_patch (fun vs H Q E h => ?_) (fun cdv A outer s H vs Q E hr h => ?_)
  · obtain ⟨v, _, rfl, _⟩ := h
    rfl
  · obtain ⟨v, rows, rfl, hP, hfine, hlen, kS, kL⟩ := h
    refine ⟨_, (pss_cons 
      (ps_set (i := 1) sc_check_patch.nd rfl (Or.inl rfl) pe_int) (pss_one 
      (ps_for (passes_of rfl) rfl (pi_enumTL (by rfl) T.b_enumerate (pa_cons (pv 0) pa_nil)) (pg_tup rfl (pgs_cons (pg_name (i := 2) sc_check_patch.nd rfl (Or.inl rfl)) (pgs_cons (pg_name (i := 3) sc_check_patch.nd rfl (Or.inl rfl)) pgs_nil))) (pss_cons 
      (ps_if (pt_not (pt_val (pe_call G_can_be (hr.mono (by decide)) rfl T.d_can_be.m T.d_can_be.F.kp T.d_can_be.b .nil pass0 (pa_cons (pv 3) pa_nil)))) (pss_one (N_BadPatch.ps_raiseOwn rfl O_BadPatch hr (takes_of rfl rfl rfl rfl) (pa_cons (pv 2) pa_nil))) pss_nil) (pss_cons 
      (ps_aug (i := 1) sc_check_patch.nd rfl (Or.inl rfl) (pe_call G_length_of (hr.mono (by decide)) rfl T.d_length_of.m T.d_length_of.F.kp T.d_length_of.b .nil pass0 (pa_cons (pv 3) pa_nil)) ip_add) (pss_one 
      (ps_if (pt_cmpR op_gt (pv 1) (pe_glob (v := .int 200) rfl T.c_MOST ⟨_, rfl⟩) (nomark _)) (pss_one (N_BadPatch.ps_raiseOwn rfl O_BadPatch hr (takes_of rfl rfl rfl rfl) (pa_cons (pv 2) pa_nil))) pss_nil))))))), ?_⟩
    rcases hP with ⟨p, vs, rfl, hv, hpr⟩ | ⟨p, rfl, vs, hv, hpr⟩
    · refine .inl ⟨_, rfl, p, vs, rfl, SqT.of hv, for_it walk_enumT (fun i σ H2 => ∃ v2 v3 : Option V, σ = [some (.ref p), some (.int (total (rows.take i))), v2, v3] ∧ Same H H2 ∧ Good (rows.take i))
        ⟨none, none, rfl, Same.refl _, by rw [List.take_zero]; exact Good.nil⟩ (fun i σ H2 _ ⟨_, _, _, s2, _⟩ => SqT.of (s2 _ _ hv)) ?_ ?_⟩
      · rintro i x σ H2 H3 hi ⟨v2, v3, rfl, s2, hg⟩ ⟨t, x1, y1, rfl, ht, rfl, e1, e2⟩
        cases e1
        obtain ⟨r, hr1, q, rfl, hq⟩ := pairedAt hpr e2
        have il : i < rows.length := (List.getElem?_eq_some_iff.mp hr1).1
        have hf := hfine r (List.mem_of_getElem? hr1)
        have gs := good_snoc hr1 hg
        have s3 : Same H (upd H2 t (.tup [.int (i : Nat), .ref q])) := s2.trans (Same.new ht)
        have hq3 := s3 _ _ hq
        refine ⟨t, _, rfl, SqT.of upd_same, rfl, _, _, rfl, _, _, rfl, rfl, ?_⟩
        refine ⟨_, rfl, q, r, rfl, hq3, hf, fun hc => ⟨_, rfl, iteF ?_⟩, fun hc => ⟨_, rfl, iteT ?_⟩⟩
        · refine ⟨_, rfl, _, rfl, q, r, rfl, hq3, hc.1, hc.2, _, _, rfl, rfl, ?_⟩
          have ht1 := total_take hr1
          refine ⟨_, rfl, _, _, rfl, rfl, _, rfl, ite2 (fun h => ?_) fun h => ?_⟩
          · have h : (200 : Int) < total (rows.take i) + r.len := of_decide_eq_true h
            exact ⟨_, rfl, _, rfl, by omega, by omega, fun d hd => ((kL i ⟨il, hg, fun g => by have := (gs.mp g).2; omega⟩).same s3).now d hd⟩
          · have h : ¬ (200 : Int) < total (rows.take i) + r.len := fun z => h (decide_eq_true z)
            exact ⟨_, _, by rw [ht1]; rfl, s3, gs.mpr ⟨hc, by omega⟩⟩
        · exact ⟨_, rfl, _, rfl, by omega, by omega, fun d hd => ((kL i ⟨il, hg, fun g => hc (gs.mp g).1⟩).same s3).now d hd⟩
      · rintro σ H2 ⟨v2, v3, rfl, s2, hg⟩
        rw [Paired.length hpr, List.take_length] at hg
        exact kS hg H2 s2
    · refine .inr ⟨_, rfl, p, vs, rfl, SqL.of hv, for_it walk_enum (fun i σ H2 => ∃ v2 v3 : Option V, σ = [some (.ref p), some (.int (total (rows.take i))), v2, v3] ∧ Same H H2 ∧ Good (rows.take i))
        ⟨none, none, rfl, Same.refl _, by rw [List.take_zero]; exact Good.nil⟩ (fun i σ H2 _ ⟨_, _, _, s2, _⟩ => SqL.of (s2 _ _ hv)) ?_ ?_⟩
      · rintro i x σ H2 H3 hi ⟨v2, v3, rfl, s2, hg⟩ ⟨t, x1, y1, rfl, ht, rfl, e1, e2⟩
        cases e1
        obtain ⟨r, hr1, q, rfl, hq⟩ := pairedAt hpr e2
        have il : i < rows.length := (List.getElem?_eq_some_iff.mp hr1).1
        have hf := hfine r (List.mem_of_getElem? hr1)
        have gs := good_snoc hr1 hg
        have s3 : Same H (upd H2 t (.tup [.int (i : Nat), .ref q])) := s2.trans (Same.new ht)
        have hq3 := s3 _ _ hq
        refine ⟨t, _, rfl, SqT.of upd_same, rfl, _, _, rfl, _, _, rfl, rfl, ?_⟩
        refine ⟨_, rfl, q, r, rfl, hq3, hf, fun hc => ⟨_, rfl, iteF ?_⟩, fun hc => ⟨_, rfl, iteT ?_⟩⟩
        · refine ⟨_, rfl, _, rfl, q, r, rfl, hq3, hc.1, hc.2, _, _, rfl, rfl, ?_⟩
          have ht1 := total_take hr1
          refine ⟨_, rfl, _, _, rfl, rfl, _, rfl, ite2 (fun h => ?_) fun h => ?_⟩
          · have h : (200 : Int) < total (rows.take i) + r.len := of_decide_eq_true h
            exact ⟨_, rfl, _, rfl, by omega, by omega, fun d hd => ((kL i ⟨il, hg, fun g => by have := (gs.mp g).2; omega⟩).same s3).now d hd⟩
          · have h : ¬ (200 : Int) < total (rows.take i) + r.len := fun z => h (decide_eq_true z)
            exact ⟨_, _, by rw [ht1]; rfl, s3, gs.mpr ⟨hc, by omega⟩⟩
        · exact ⟨_, rfl, _, rfl, by omega, by omega, fun d hd => ((kL i ⟨il, hg, fun g => hc (gs.mp g).1⟩).same s3).now d hd⟩
      · rintro σ H2 ⟨v2, v3, rfl, s2, hg⟩
        rw [Paired.length hpr, List.take_length] at hg
        exact kS hg H2 s2
end
/-! ### what a split leaves -/
set_option pp.maxSteps 600
open TL
theorem spl_one (s : Nat) : ∀ (l acc : List Nat), s ∉ acc → spl [s] 0 acc l ≠ [] ∧ (∀ p ∈ spl [s] 0 acc l, p.length ≤ acc.length + l.length ∧ s ∉ p) ∧ (spl [s] 0 acc l).length = l.count s + 1
  | [], acc, h => by
    rw [spl_nil]
    refine ⟨by simp, fun p hp => ?_, rfl⟩
    rw [List.mem_singleton.mp hp]
    exact ⟨by omega, h⟩
  | c :: r, acc, h => by
    by_cases e : c = s
    · have hp : pre [s] (c :: r) = true := by
        unfold pre
        show ([c] == [s]) = true
        rw [e]
        exact beq_self_eq_true _
      rw [spl_hit hp]
      show acc :: spl [s] 0 [] r ≠ [] ∧ (∀ p ∈ acc :: spl [s] 0 [] r, _) ∧ (acc :: spl [s] 0 [] r).length = _
      obtain ⟨_, i2, i3⟩ := spl_one s r [] List.not_mem_nil
      refine ⟨by simp, fun p hp => ?_, ?_⟩
      · rcases List.mem_cons.mp hp with rfl | hp
        · exact ⟨by omega, h⟩
        · obtain ⟨a, b⟩ := i2 p hp
          refine ⟨?_, b⟩
          have : p.length ≤ 0 + r.length := a
          rw [List.length_cons]
          omega
      · rw [List.length_cons, i3, e, List.count_cons_self]
    · have hp : pre [s] (c :: r) = false := by
        unfold pre
        show ([c] == [s]) = false
        exact beq_eq_false_iff_ne.mpr fun z => e (by injection z)
      rw [spl_miss hp]
      obtain ⟨i1, i2, i3⟩ := spl_one s r (acc ++ [c]) (fun z => by
        rcases List.mem_append.mp z with z | z
        · exact h z
        · exact e (List.mem_singleton.mp z).symm)
      refine ⟨i1, fun p hp => ?_, ?_⟩
      · obtain ⟨a, b⟩ := i2 p hp
        rw [List.length_append] at a
        have a : p.length ≤ acc.length + 1 + r.length := a
        rw [List.length_cons]
        exact ⟨by omega, b⟩
      · rw [i3, List.count_cons_of_ne e]
theorem split_one {y : Str} {s : Nat} (ey : tl y = [s]) (hk : y.cps.all (· < 256) = true) (x : Str) : Txt.split x y ≠ [] ∧ (∀ p ∈ Txt.split x y, p.length ≤ x.length ∧ s ∉ tl p) ∧ (Txt.split x y).length = (tl x).count s + 1 := by
  have e := split_spl x y (by rw [ey]; simp) (kind_ok hk)
  rw [ey] at e
  obtain ⟨i1, i2, i3⟩ := spl_one s (tl x) [] List.not_mem_nil
  rw [← e] at i1 i2 i3
  refine ⟨fun z => i1 (by rw [z]; rfl), fun p hp => ?_, by rw [List.length_map] at i3; exact i3⟩
  obtain ⟨a, b⟩ := i2 (tl p) (List.mem_map.mpr ⟨p, hp, rfl⟩)
  rw [len_tl, len_tl]
  have a : (tl p).length ≤ 0 + (tl x).length := a
  exact ⟨by omega, b⟩
theorem split_nl (x : Str) : Txt.split x "\n" ≠ [] ∧ (∀ p ∈ Txt.split x "\n", p.length ≤ x.length ∧ 10 ∉ tl p) ∧ (Txt.split x "\n").length = (tl x).count 10 + 1 := split_one tl_nl (by decide +kernel) x
theorem split_sp (x : Str) : Txt.split x " " ≠ [] ∧ (∀ p ∈ Txt.split x " ", p.length ≤ x.length ∧ 32 ∉ tl p) ∧ (Txt.split x " ").length = (tl x).count 32 + 1 := split_one tl_sp (by decide +kernel) x
theorem lines_each {t : Str} : ∀ l ∈ linesW t, l.length ≤ t.length := by
  unfold linesW
  intro l hl
  by_cases e : t = ""
  · rw [if_pos e] at hl; exact absurd hl List.not_mem_nil
  · rw [if_neg e] at hl
    exact ((split_nl t).2.1 l hl).1
theorem words_wide {l : Str} (h : l.length ≤ 3900000) : Txt.split l " " ≠ [] ∧ Wide (Txt.split l " ") := by
  obtain ⟨h1, h2, h3⟩ := split_sp l
  refine ⟨h1, ?_, fun p hp => ?_⟩
  · rw [h3]
    have := List.count_le_length (a := 32) (l := tl l)
    rw [← len_tl] at this
    omega
  · have := (h2 p hp).1
    omega
theorem pieceW_len {ws : List Str} {r : Row} (h : pieceW ws = some r) : r.len ≤ 1000 ∨ r.len ≤ ws.length := by
  have lo := pieceW_loose h
  cases r with
  | copy b n => exact .inl (by obtain ⟨_, _, _, q⟩ := lo; show n ≤ 1000; omega)
  | run b n => exact .inl (by obtain ⟨_, _, _, q⟩ := lo; show n ≤ 1000; omega)
  | bring bs =>
    right
    cases ws with
    | nil => cases h
    | cons wd rest =>
      have h : pieceN wd (allNum rest) = some (.bring bs) := h
      cases e : allNum rest with
      | none => rw [e] at h; cases h
      | some ns =>
        have nl := congrArg List.length (allNum_some e)
        rw [List.length_map, List.length_map] at nl
        rw [e, pieceN_some] at h
        by_cases c : wd = "bring"
        · rw [if_pos c] at h
          unfold bringN at h
          split at h
          · cases h
          · injection h with h
            injection h with h
            subst h
            show (ns.length : Int) ≤ ((wd :: rest).length : Nat)
            rw [List.length_cons]
            omega
        · rw [if_neg c] at h
          by_cases cl : ns.length = 2
          · match ns, cl, h with
            | [a, b], _, h =>
              rw [twoN_two] at h
              split at h
              · injection h with h; cases h
              · split at h
                · injection h with h; cases h
                · cases h
          · rw [twoN_not cl] at h; cases h
theorem pieceW_fine {ws : List Str} {r : Row} (hw : Wide ws) (h : pieceW ws = some r) : LooseW r := ⟨pieceW_loose h, by
  have := hw.1
  rcases pieceW_len h with q | q <;> omega⟩
/-! ### rows_of, makes, read: of any text -/
set_option pp.maxSteps 600
open TL
def spRowsX : Sp := fun vs H Q _ => ∃ t : Str, vs = [.str t] ∧ t.length ≤ 3900000 ∧ ∀ H' q, Same H H' → H q = none → H' q = some (.lst (strsV (linesW t))) → Q (.ref q) H'
def spMakesL (CP : Addr) : Sp := fun vs H Q E => ∃ (v : V) (rows : List Row), vs = [v] ∧ PatchAt H v rows ∧ (∀ r ∈ rows, LooseW r) ∧ rows.length ≤ 20000 ∧ (Good rows → ∀ H', Same H H' → Q (.int (total rows)) H') ∧ (∀ i : Nat, badAt rows i → Rz E CP "piece" i H)
/-- the first row that can't be read -/
def firstNone (os : List (Option Row)) (i : Nat) : Prop := os[i]? = some none ∧ ∀ m, m < i → os[m]? ≠ some none
def spReadX (CT CP : Addr) : Sp := fun vs H Q E => ∃ t : Str, vs = [.str t] ∧ t.length ≤ 3900000 ∧ (linesW t).length ≤ 20000 ∧
  (∀ i : Nat, firstNone (rowsW t) i → Rz E CT "row" i H) ∧
  ∀ rows : List Row, rowsW t = rows.map some → (Good rows → ∀ H' v, Same H H' → PatchAt H' v rows → Q v H') ∧ (∀ i : Nat, badAt rows i → Rz E CP "piece" i H)
theorem total_sum62 : ∀ l : List Row, (l.map Row.len).sum = total l
  | [] => rfl
  | r :: l => by rw [List.map_cons, List.sum_cons, total_sum62 l]; rfl
theorem first_idx {α : Type} {p : α → Bool} : ∀ {l : List α}, l.any p = true → ∃ j z, l[j]? = some z ∧ p z = true ∧ ∀ (m : Nat) (y : α), m < j → l[m]? = some y → p y = false
  | [], h => by cases h
  | a :: l, h => by
    cases e : p a with
    | true => exact ⟨0, a, rfl, e, fun m y hm => absurd hm (Nat.not_lt_zero m)⟩
    | false =>
      have h : (p a || l.any p) = true := h
      rw [e, Bool.false_or] at h
      obtain ⟨j, z, h1, h2, h3⟩ := first_idx h
      refine ⟨j + 1, z, h1, h2, fun m y hm hy => ?_⟩
      cases m with
      | zero => injection hy with hy; rw [← hy]; exact e
      | succ m => exact h3 m y (by omega) hy
theorem all_some {α : Type} : ∀ {l : List (Option α)}, (∀ o ∈ l, o ≠ none) → ∃ r : List α, l = r.map some
  | [], _ => ⟨[], rfl⟩
  | o :: l, h => by
    obtain ⟨r, e⟩ := all_some (l := l) fun x hx => h x (List.mem_cons_of_mem _ hx)
    cases o with
    | none => exact absurd rfl (h none List.mem_cons_self)
    | some a => exact ⟨a :: r, by rw [e]; rfl⟩
theorem paired_some {H : Hp} : ∀ {ws : List V} {rows : List Row}, Paired (PieceO H) ws (rows.map some) → Paired (PieceV H) ws rows
  | [], [], _ => .nil
  | [], _ :: _, h => by cases h
  | _ :: _, [], h => by cases h
  | _ :: _, _ :: _, h => by
    cases h with
    | cons a t => exact .cons a (paired_some t)
section
variable {P : Program} {w : World} {K : PySem.W.Frag} {mg : Str → Option Value} {base : Heap} {C fI CP fP CT fT : Addr}
theorem ok_rows_of (T : All K mg) : FnOk P w K mg base CX0 1 T.d_rows_of.f T.d_rows_of.fd ["text"] spRowsX := by
  refine T.d_rows_of.F.ok sc_rows_of (fun vs H Q E h => ?_) (fun cdv A outer s H vs Q E hr h => ?_)
  · obtain ⟨_, rfl, _⟩ := h
    rfl
  · obtain ⟨t, rfl, tlen, k⟩ := h
    refine ⟨_, (pss_one 
      (ps_ret (pe_ifExp (pt_truth (pv 0) (by intro _; rfl)) (pe_m1 PySem.F.slot_str_split PySem.F.type_str_split mt_split (pv 0) pe_str) (pe_lst pa_nil)))), ?_⟩
    refine ⟨_, rfl, _, ⟨by rw [sizeLine_eq]; omega, rfl⟩, ?_⟩
    have z0 : ("" : Str).length = 0 := by decide +kernel
    by_cases e : t = ""
    · have l0 : (((t.length : Nat) : Int) != 0) = false := by rw [e, z0]; decide
      rw [l0]
      refine iteF ⟨sizeS (by show 0 ≤ 100000; decide), fun q hq => k _ q (Same.new hq) hq ?_⟩
      rw [upd_same]
      unfold linesW
      rw [if_pos e]
      rfl
    · have ne : t.length ≠ 0 := fun z => e (ext_tl (by
        rw [len_tl] at z
        have y : tl ("" : Str) = [] := by decide +kernel
        rw [List.length_eq_zero_iff.mp z, y]))
      have l1 : (((t.length : Nat) : Int) != 0) = true := bne_iff_ne.mpr (by omega)
      rw [l1]
      refine iteT ⟨_, rfl, ⟨_, rfl⟩, _, _, rfl, rfl, by decide +kernel, by rw [sizeLine_eq]; omega, fun q hq => ?_⟩
      refine k _ q (Same.new hq) hq ?_
      rw [upd_same]
      unfold linesW
      rw [if_neg e]
      rfl
theorem okx_makes (T : All K mg) (O_BadPatch : N_BadPatch.OwnErr P K mg CP fP) : FnOk P w K mg base (L2.CX P w) 4 T.d_makes.f T.d_makes.fd ["patch"] (spMakesL CP) := by
  have G_check_patch : FnOk P w K mg base (L2.CX P w) 3 T.d_check_patch.f T.d_check_patch.fd ["patch"] (spCheckL CP) := okx_check_patch T O_BadPatch
  have G_length_of : FnOk P w K mg base CX0 1 T.d_length_of.f T.d_length_of.fd ["piece"] spLengthOf := ok_length_of T
  refine T.d_makes.F.okX sc_makes (fun vs H Q E h => ?_) (fun cdv A outer s H vs Q E hr h => ?_)
  · obtain ⟨v, _, rfl, _⟩ := h
    rfl
  · obtain ⟨v, rows, rfl, hP, hfine, hfew, kS, kL⟩ := h
    refine ⟨_, (pss_cons 
      (ps_expr (pe_call G_check_patch (hr.mono (by decide)) rfl T.d_check_patch.m T.d_check_patch.F.kp T.d_check_patch.b .nil (passes_call (takes_of rfl rfl rfl rfl) fun _ _ _ _ h => h) (pa_cons (pv 0) pa_nil))) (pss_one 
      (ps_ret (pe_callB (cr_sum rfl) (by rfl) T.b_sum (by decide +kernel) (pa_cons (pe_lc (own := [("piece", 1)]) (g := gName 1) (tt := tYes) rfl sc_makes.nd (pi_tup (pv 0)) (blkOk_by (own := [("piece", 1)]) (N := ["patch", "piece"]) (sc := defScope s_makes) (by decide +kernel)) (fun _ _ _ _ _ => (pg_name (i := 1) sc_makes.nd rfl (Or.inl rfl))) (fun _ _ _ _ _ => pts_nil) (fun _ _ _ _ _ => (pe_call G_length_of (hr.mono (by decide)) rfl T.d_length_of.m T.d_length_of.F.kp T.d_length_of.b .nil pass0 (pa_cons (pv 1) pa_nil)))) pa_nil))))), ?_⟩
    refine ⟨_, rfl, v, rows, rfl, .inl hP, hfine, hfew, fun hG H1 s1 => ?_, fun i hi => kL i hi⟩
    have k := kS hG
    obtain ⟨hok, htot⟩ := hG
    obtain ⟨p, vs, rfl, hv, hpr⟩ := hP
    have hlen := len_le_total hok
    refine ⟨_, rfl, p, rfl, ⟨vs, SqT.of (s1 _ _ hv)⟩, fun D hD => lc_tup (K := K) (a := p) (xs := vs) (fun i H2 => Same H1 H2 ∧ H2 D = some (.lst (List.map V.int ((rows.take i).map Row.len))))
      ⟨Same.new hD, upd_same⟩ (fun i H2 _ ⟨s2, _⟩ => SqT.of (s2 _ _ (s1 _ _ hv))) ?_ ?_⟩
    · rintro i x H2 hi ⟨s2, hd⟩
      obtain ⟨r, hr1, q, rfl, hq⟩ := pairedAt hpr hi
      have hro := hok r (List.mem_of_getElem? hr1)
      have hrl : r.len ≤ total rows := len_le_of hok (List.mem_of_getElem? hr1)
      have il : i < rows.length := (List.getElem?_eq_some_iff.mp hr1).1
      refine ⟨rfl, _, rfl, q, r, rfl, s2 _ _ (s1 _ _ hq), hro, by omega, _, hd, sizeL (by rw [List.length_map, List.length_map, List.length_take]; omega), fun b o z => ?_, ?_⟩
      · rw [upd_ne (ne_of_none z hD)]; exact s2 _ _ z
      · rw [upd_same, take_snoc hr1, List.map_append, List.map_append]; rfl
    · rintro H2 ⟨s2, hd⟩
      rw [Paired.length hpr, List.take_length] at hd
      refine ⟨D, _, rfl, SqL.of hd, ?_⟩
      have kk := k H2 (s1.trans s2)
      rw [← total_sum62 rows] at kk
      exact kk
theorem PieceO.same {H H' : Hp} {v : V} {o : Option Row} (s : Same H H') (h : PieceO H v o) : PieceO H' v o := by
  cases o with
  | none => exact h
  | some r => exact PieceV.tups (Same.tups s) h
theorem PieceO.tups {H H' : Hp} {v : V} {o : Option Row} (s : Tups H H') (h : PieceO H v o) : PieceO H' v o := by
  cases o with
  | none => exact h
  | some r => exact PieceV.tups s h
theorem okx_read (T : All K mg) (O_BadPatch : N_BadPatch.OwnErr P K mg CP fP) (O_BadText : N_BadText.OwnErr P K mg CT fT) : FnOk P w K mg base (L2.CX P w) 4 T.d_read.f T.d_read.fd ["text"] (spReadX CT CP) := by
  have G_check_patch : FnOk P w K mg base (L2.CX P w) 3 T.d_check_patch.f T.d_check_patch.fd ["patch"] (spCheckL CP) := okx_check_patch T O_BadPatch
  have G_rows_of : FnOk P w K mg base CX0 1 T.d_rows_of.f T.d_rows_of.fd ["text"] spRowsX := ok_rows_of T
  have G_piece_of : FnOk P w K mg base CX0 3 T.d_piece_of.f T.d_piece_of.fd ["words"] spPieceX := ok_piece_of T
  refine T.d_read.F.okX sc_read (fun vs H Q E h => ?_) (fun cdv A outer s H vs Q E hr h => ?_)
  · obtain ⟨_, rfl, _⟩ := h
    rfl
  · obtain ⟨t, rfl, tlen, lfew, kN, kS⟩ := h
    refine ⟨_, (pss_cons 
      (ps_setLc (i := 1) (own := [("row", 2)]) (g := gName 2) (tt := tYes) rfl sc_read.nd rfl rfl (sw_true rfl rfl rfl (by decide +kernel)) (pi_list (pe_call G_rows_of (hr.mono (by decide)) rfl T.d_rows_of.m T.d_rows_of.F.kp T.d_rows_of.b .nil pass0 (pa_cons (pv 0) pa_nil))) (blkOk_by (own := [("row", 2)]) (N := ["text", "pieces", "row"]) (sc := defScope s_read) (by decide +kernel)) (fun _ _ _ _ _ => (pg_name (i := 2) sc_read.nd rfl (Or.inl rfl))) (fun _ _ _ _ _ => pts_nil) (fun _ _ _ _ _ => (pe_call G_piece_of (hr.mono (by decide)) rfl T.d_piece_of.m T.d_piece_of.F.kp T.d_piece_of.b .nil pass0 (pa_cons (pe_m1 PySem.F.slot_str_split PySem.F.type_str_split mt_split (pv 2) pe_str) pa_nil)))) (pss_cons 
      (ps_if (pt_cmpR (op_noneOpt hr.units) pe_non (pv 1) (by with_unfolding_all rfl)) (pss_one (N_BadText.ps_raiseOwn rfl O_BadText hr (takes_of rfl rfl rfl rfl) (pa_cons (pe_bm PySem.F.plainAttrs_list PySem.F.slot_list_index PySem.F.type_list_index (mt_indexNone hr.units) (pv 1) (pa_cons pe_non pa_nil)) pa_nil))) pss_nil) (pss_cons 
      (ps_expr (pe_call G_check_patch (hr.mono (by decide)) rfl T.d_check_patch.m T.d_check_patch.F.kp T.d_check_patch.b .nil (passes_call (takes_of rfl rfl rfl rfl) fun _ _ _ _ h => h) (pa_cons (pv 1) pa_nil))) (pss_one 
      (ps_ret (pe_callTy call_tuple_of (by rfl) T.b_tuple (by decide +kernel) (pa_cons (pv 1) pa_nil))))))), ?_⟩
    refine ⟨_, rfl, t, rfl, tlen, fun H1 l s1 hl hl1 => ?_⟩
    have ll : (strsV (linesW t)).length = (linesW t).length := by unfold strsV; rw [List.length_map]
    refine ⟨l, rfl, ⟨_, SqL.of hl1⟩, fun D hD => lc_list (K := K) (a := l) (xs := strsV (linesW t)) (fun i H2 => ∃ ws : List V, Same H1 H2 ∧ H2 D = some (.lst ws) ∧ Paired (PieceO H2) ws ((rowsW t).take i))
      ⟨[], Same.new hD, upd_same, .nil⟩ (fun i H2 _ ⟨_, s2, _⟩ => SqL.of (s2 _ _ hl1)) ?_ ?_⟩
    · rintro i x H2 hi ⟨ws, s2, hw, pw⟩
      obtain ⟨ln, hln, rfl⟩ := str_at hi
      have il := (List.getElem?_eq_some_iff.mp hln).1
      have wl : ws.length ≤ i := by rw [Paired.length pw, List.length_take]; omega
      have lnl : ln.length ≤ 3900000 := Nat.le_trans (lines_each ln (List.mem_of_getElem? hln)) tlen
      obtain ⟨wne, wwd⟩ := words_wide lnl
      have hro : (rowsW t)[i]? = some (pieceW (Txt.split ln " ")) := by
        unfold rowsW
        rw [List.getElem?_map, hln]
        rfl
      refine ⟨rfl, _, rfl, ⟨_, rfl⟩, _, _, rfl, rfl, by decide +kernel, by rw [sizeLine_eq]; omega, fun q hq => ?_⟩
      have s3 := Same.new (o := .lst (strsV (Txt.split ln " "))) hq
      refine ⟨q, Txt.split ln " ", rfl, upd_same, wne, wwd, fun H4 v s4 hv => ?_⟩
      have s24 := s3.trans s4
      have hw4 := s24 _ _ hw
      refine ⟨ws, hw4, sizeL (by omega), ws ++ [v], fun b o z => ?_, upd_same, ?_⟩
      · rw [upd_ne (ne_of_none z hD)]
        exact s24 _ _ (s2 _ _ z)
      · rw [take_snoc hro]
        have tk : Tups H4 (upd H4 D (.lst (ws ++ [v]))) := Tups.lst hw4
        refine pairedApp (pairedMap pw fun a o x => ?_) (.cons ?_ .nil)
        · exact PieceO.tups tk (PieceO.same s24 x)
        · exact PieceO.tups tk hv
    · rintro H2 ⟨ws, s2, hw, pw⟩
      have rl : (rowsW t).length = (linesW t).length := by unfold rowsW; rw [List.length_map]
      rw [ll, ← rl, List.take_length] at pw
      have wl : ws.length = (rowsW t).length := Paired.length pw
      have opt : OptTups K H2 ws := fun z hz => by
        obtain ⟨i, hi⟩ := List.mem_iff_getElem?.mp hz
        obtain ⟨o, _, ho⟩ := pairedAt pw hi
        cases o with
        | none => exact .inl ho
        | some r =>
          obtain ⟨a, ea, ha⟩ := ho
          exact .inr ⟨a, _, ea, SqT.of ha⟩
      have isn : ∀ (i : Nat) (z : V) (o : Option Row), ws[i]? = some z → (rowsW t)[i]? = some o → isNon z = o.isNone := fun i z o hz ho => by
        obtain ⟨o', ho', hp⟩ := pairedAt pw hz
        rw [ho] at ho'
        injection ho' with ho'
        subst ho'
        cases o with
        | none => rw [show z = .non from hp]; rfl
        | some r =>
          obtain ⟨a, ea, ha⟩ := hp
          rw [ea]
          rfl
      refine ⟨_, rfl, D, ws, rfl, rfl, SqL.of hw, opt, _, rfl, ?_⟩
      cases ea : ws.any isNon with
      | true =>
        obtain ⟨j, z, hj, hz, hno⟩ := first_idx ea
        have zn : z = .non := by
          cases z with
          | non => rfl
          | _ => cases hz
        subst zn
        have jl : j < ws.length := (List.getElem?_eq_some_iff.mp hj).1
        have fn : firstNone (rowsW t) j := by
          obtain ⟨o, ho, _⟩ := pairedAt pw hj
          refine ⟨?_, fun m hm e => ?_⟩
          · have := isn j _ o hj ho
            cases o with
            | none => exact ho
            | some r => cases this
          · have ml : m < ws.length := by omega
            have := isn m ws[m] none (List.getElem?_eq_getElem ml) e
            rw [hno m _ hm (List.getElem?_eq_getElem ml)] at this
            cases this
        refine iteT ⟨_, rfl, .inl ⟨rfl, _, SqL.of hw⟩, D, ws, j, rfl, rfl, SqL.of hw, opt, hj, hno, _, rfl, by omega, by omega, fun d hd => ((kN j fn).same (s1.trans s2)).now d hd⟩
      | false =>
        refine iteF ?_
        obtain ⟨rows, er⟩ : ∃ rows : List Row, rowsW t = rows.map some := by
          refine all_some fun o ho e => ?_
          obtain ⟨i, hi⟩ := List.mem_iff_getElem?.mp ho
          have il : i < ws.length := by have := (List.getElem?_eq_some_iff.mp hi).1; omega
          have := isn i ws[i] o (List.getElem?_eq_getElem il) hi
          rw [e] at this
          have h2 := List.any_eq_false.mp ea ws[i] (List.getElem_mem il)
          exact h2 this
        have pv : Paired (PieceV H2) ws rows := by
          rw [er] at pw
          exact paired_some pw
        have fine : ∀ r ∈ rows, LooseW r := fun r hr => by
          have : some r ∈ rowsW t := by rw [er]; exact List.mem_map.mpr ⟨r, hr, rfl⟩
          obtain ⟨ln, hln, e⟩ := List.mem_map.mp this
          exact pieceW_fine (words_wide (Nat.le_trans (lines_each ln hln) tlen)).2 e
        have rlen : rows.length ≤ 20000 := by
          have := congrArg List.length er
          rw [List.length_map] at this
          omega
        obtain ⟨kG, kP⟩ := kS rows er
        refine ⟨_, rfl, .ref D, rows, rfl, .inr ⟨D, rfl, ws, hw, pv⟩, fine, rlen, fun hG H3 s3 => ?_, fun i hi => (kP i hi).same (s1.trans s2)⟩
        refine ⟨_, rfl, D, ws, rfl, .inl ⟨SqL.of (s3 _ _ hw), fun u hu => ?_⟩⟩
        exact kG hG _ _ (s1.trans (s2.trans (s3.trans (Same.new hu)))) ⟨u, ws, rfl, upd_same, pairedMap pv fun _ _ x => x.tups (Same.tups (s3.trans (Same.new hu)))⟩
end
/-! ### written, of good patches -/
set_option pp.maxSteps 600
open TL
def spCheckPatchA : Sp := fun vs H Q _ => ∃ (v : V) (rows : List Row), vs = [v] ∧ (PatchAt H v rows ∨ ∃ p, v = .ref p ∧ PiecesAt H p rows) ∧ Good rows ∧ ∀ H', Same H H' → Q .non H'
def spRowOf : Sp := fun vs H Q _ => ∃ (q : Addr) (r : Row), vs = [.ref q] ∧ H q = some (.tup r.tup) ∧ r.ok 200 ∧ r.len ≤ 200 ∧ ∀ H', Same H H' → Q (.str (rowText r)) H'
def spWritten : Sp := fun vs H Q _ => ∃ (v : V) (rows : List Row), vs = [v] ∧ PatchAt H v rows ∧ Good rows ∧ ∀ H', Same H H' → Q (.str (patchText rows)) H'
section
variable {P : Program} {w : World} {K : PySem.W.Frag} {mg : Str → Option Value} {base : Heap}
theorem ok_check_patch (T : All K mg) : FnOk P w K mg base CX0 3 T.d_check_patch.f T.d_check_patch.fd ["patch"] spCheckPatchA := by
  have G_can_be : FnOk P w K mg base CX0 2 T.d_can_be.f T.d_can_be.fd ["piece"] spCanBe := ok_can_be T
  have G_length_of : FnOk P w K mg base CX0 1 T.d_length_of.f T.d_length_of.fd ["piece"] spLengthOf := ok_length_of T
  refine T.d_check_patch.F.ok sc_check_patch (fun vs H Q E h => ?_) (fun cdv A outer s H vs Q E hr h => ?_)
  · obtain ⟨v, _, rfl, _⟩ := h
    rfl
  · obtain ⟨v, rows, rfl, hP, ⟨hok, htot⟩, k⟩ := h
    refine ⟨_, (pss_cons 
      (ps_set (i := 1) sc_check_patch.nd rfl (Or.inl rfl) pe_int) (pss_one 
      (ps_for PassesOwn.never rfl (pi_enumTL (by rfl) T.b_enumerate (pa_cons (pv 0) pa_nil)) (pg_tup rfl (pgs_cons (pg_name (i := 2) sc_check_patch.nd rfl (Or.inl rfl)) (pgs_cons (pg_name (i := 3) sc_check_patch.nd rfl (Or.inl rfl)) pgs_nil))) (pss_cons 
      (ps_if (pt_not (pt_val (pe_call G_can_be (hr.mono (by decide)) rfl T.d_can_be.m T.d_can_be.F.kp T.d_can_be.b .nil pass0 (pa_cons (pv 3) pa_nil)))) (pss_one ps_never) pss_nil) (pss_cons 
      (ps_aug (i := 1) sc_check_patch.nd rfl (Or.inl rfl) (pe_call G_length_of (hr.mono (by decide)) rfl T.d_length_of.m T.d_length_of.F.kp T.d_length_of.b .nil pass0 (pa_cons (pv 3) pa_nil)) ip_add) (pss_one 
      (ps_if (pt_cmpR op_gt (pv 1) (pe_glob (v := .int 200) rfl T.c_MOST ⟨_, rfl⟩) (nomark _)) (pss_one ps_never) pss_nil))))))), ?_⟩
    have turn : ∀ (i : Nat) (r : Row) (q : Addr) (p : Addr) (v2 v3 : Option V) (H3 : Hp), rows[i]? = some r → H3 q = some (.tup r.tup) → True := fun _ _ _ _ _ _ _ _ _ => trivial
    rcases hP with ⟨p, vs, rfl, hv, hpr⟩ | ⟨p, rfl, vs, hv, hpr⟩
    · refine .inl ⟨_, rfl, p, vs, rfl, SqT.of hv, for_it walk_enumT (fun i σ H2 => ∃ v2 v3 : Option V, σ = [some (.ref p), some (.int (total (rows.take i))), v2, v3] ∧ Same H H2)
        ⟨none, none, rfl, Same.refl _⟩ (fun i σ H2 _ ⟨_, _, _, s2⟩ => SqT.of (s2 _ _ hv)) ?_ ?_⟩
      · rintro i x σ H2 H3 hi ⟨v2, v3, rfl, s2⟩ ⟨t, x1, y1, rfl, ht, rfl, e1, e2⟩
        cases e1
        obtain ⟨r, hr1, q, rfl, hq⟩ := pairedAt hpr e2
        have hro := hok r (List.mem_of_getElem? hr1)
        have hrl : r.len ≤ total rows := len_le_of hok (List.mem_of_getElem? hr1)
        have s3 : Same H (upd H2 t (.tup [.int (i : Nat), .ref q])) := s2.trans (Same.new ht)
        have hq3 := s3 _ _ hq
        refine ⟨t, _, rfl, SqT.of upd_same, rfl, _, _, rfl, _, _, rfl, rfl, ?_⟩
        refine ⟨_, rfl, q, r, rfl, hq3, hro, by omega, _, rfl, iteF ?_⟩
        refine ⟨_, rfl, _, rfl, q, r, rfl, hq3, hro, by omega, _, _, rfl, rfl, ?_⟩
        have ht1 := total_take hr1
        have ht2 := total_take_le hok (i + 1)
        refine ⟨_, rfl, _, _, rfl, rfl, _, rfl, ite2 (fun h => absurd (show (200 : Int) < total (rows.take i) + r.len from of_decide_eq_true h) (by omega)) fun _ => ?_⟩
        exact ⟨_, _, by rw [ht1]; rfl, s3⟩
      · rintro σ H2 ⟨v2, v3, rfl, s2⟩
        exact k H2 s2
    · refine .inr ⟨_, rfl, p, vs, rfl, SqL.of hv, for_it walk_enum (fun i σ H2 => ∃ v2 v3 : Option V, σ = [some (.ref p), some (.int (total (rows.take i))), v2, v3] ∧ Same H H2)
        ⟨none, none, rfl, Same.refl _⟩ (fun i σ H2 _ ⟨_, _, _, s2⟩ => SqL.of (s2 _ _ hv)) ?_ ?_⟩
      · rintro i x σ H2 H3 hi ⟨v2, v3, rfl, s2⟩ ⟨t, x1, y1, rfl, ht, rfl, e1, e2⟩
        cases e1
        obtain ⟨r, hr1, q, rfl, hq⟩ := pairedAt hpr e2
        have hro := hok r (List.mem_of_getElem? hr1)
        have hrl : r.len ≤ total rows := len_le_of hok (List.mem_of_getElem? hr1)
        have s3 : Same H (upd H2 t (.tup [.int (i : Nat), .ref q])) := s2.trans (Same.new ht)
        have hq3 := s3 _ _ hq
        refine ⟨t, _, rfl, SqT.of upd_same, rfl, _, _, rfl, _, _, rfl, rfl, ?_⟩
        refine ⟨_, rfl, q, r, rfl, hq3, hro, by omega, _, rfl, iteF ?_⟩
        refine ⟨_, rfl, _, rfl, q, r, rfl, hq3, hro, by omega, _, _, rfl, rfl, ?_⟩
        have ht1 := total_take hr1
        have ht2 := total_take_le hok (i + 1)
        refine ⟨_, rfl, _, _, rfl, rfl, _, rfl, ite2 (fun h => absurd (show (200 : Int) < total (rows.take i) + r.len from of_decide_eq_true h) (by omega)) fun _ => ?_⟩
        exact ⟨_, _, by rw [ht1]; rfl, s3⟩
      · rintro σ H2 ⟨v2, v3, rfl, s2⟩
        exact k H2 s2
def wordsV : V → List Str
  | .str z => [z]
  | .int n => [strI n]
  | .byt b => (PySem.W.KBw.bInts b).map strI
  | _ => []
theorem tup_words {r : Row} (h : r.ok 200) : r.tup.flatMap wordsV = rowWords r := by
  cases r with
  | copy b n => rfl
  | run b n => rfl
  | bring bs =>
    show ([("bring" : Str)] : List Str) ++ ((PySem.W.KBw.bInts (byteArr bs)).map strI ++ []) = (("bring" : Str) :: bs.map strI : List Str)
    rw [bInts_of h.2, List.append_nil]
    rfl
theorem tup_each {r : Row} (h : r.ok 200) (hl : r.len ≤ 200) : ∀ x ∈ r.tup, (∃ z, x = V.str z) ∨ (∃ n, x = V.int n ∧ 0 ≤ n ∧ n < 1000) ∨ ∃ bs, x = V.byt (byteArr bs) ∧ B8 bs ∧ bs.length ≤ 200 := by
  cases r with
  | copy b n =>
    have h1 := h.1
    have h2 := h.2.1
    have h3 := h.2.2
    intro x hx
    rcases List.mem_cons.mp hx with rfl | hx
    · exact .inl ⟨_, rfl⟩
    · rcases List.mem_cons.mp hx with rfl | hx
      · exact .inr (.inl ⟨_, rfl, h1, by omega⟩)
      · rw [List.mem_singleton.mp hx]
        exact .inr (.inl ⟨_, rfl, by omega, by omega⟩)
  | run b n =>
    have h1 := h.1
    have h2 := h.2.1
    have h3 := h.2.2
    have hl : n ≤ 200 := hl
    intro x hx
    rcases List.mem_cons.mp hx with rfl | hx
    · exact .inl ⟨_, rfl⟩
    · rcases List.mem_cons.mp hx with rfl | hx
      · exact .inr (.inl ⟨_, rfl, h1, by omega⟩)
      · rw [List.mem_singleton.mp hx]
        exact .inr (.inl ⟨_, rfl, by omega, by omega⟩)
  | bring bs =>
    have hl : (bs.length : Int) ≤ 200 := hl
    intro x hx
    rcases List.mem_cons.mp hx with rfl | hx
    · exact .inl ⟨_, rfl⟩
    · rw [List.mem_singleton.mp hx]
      exact .inr (.inr ⟨_, rfl, h.2, by omega⟩)
theorem str_any {X : Cx} : CallR X (.type "str") (fun xs H Q => (∃ i, xs = [.int i] ∧ i.natAbs.log2 < 1920 ∧ Q (.str (strI i)) H) ∨ ∃ a, xs = [.str a] ∧ Q (.str a) H) := callR_or call_str_int SkE.call_str_str
theorem log_ok {n : Int} (h0 : 0 ≤ n) (h1 : n < 1000) : n.natAbs.log2 < 1920 := by
  by_cases e : n.natAbs = 0
  · rw [e]; decide
  · have := (Nat.log2_lt e (k := 10)).mpr (by omega)
    omega
theorem ok_row_of (T : All K mg) : FnOk P w K mg base CX0 1 T.d_row_of.f T.d_row_of.fd ["things"] spRowOf := by
  refine T.d_row_of.F.ok sc_row_of (fun vs H Q E h => ?_) (fun cdv A outer s H vs Q E hr h => ?_)
  · obtain ⟨_, _, rfl, _⟩ := h
    rfl
  · obtain ⟨q, r, rfl, hq, hok, hl, k⟩ := h
    refine ⟨_, (pss_cons 
      (ps_set (i := 1) sc_row_of.nd rfl (Or.inl rfl) (pe_lst pa_nil)) (pss_cons 
      (ps_for PassesOwn.never rfl (pi_tup (pv 0)) (pg_name (i := 2) sc_row_of.nd rfl (Or.inl rfl)) (pss_one 
      (ps_if (pt_val (pe_callB call_isi (by rfl) T.b_isinstance (by decide +kernel) (pa_cons (pv 2) (pa_cons (pe_bltn (v := .ty "bytes") (by rfl) T.b_bytes (by decide +kernel) rfl) pa_nil)))) (pss_one 
      (ps_expr (pe_bm PySem.F.plainAttrs_list PySem.F.slot_list_extend PySem.F.type_list_extend mt_extend (pv 1) (pa_cons (pe_lc (own := [("byte", 3)]) (g := gName 3) (tt := tYes) rfl sc_row_of.nd (pi_byt (pv 2)) (blkOk_by (own := [("byte", 3)]) (N := ["things", "words", "thing", "byte"]) (sc := defScope s_row_of) (by decide +kernel)) (fun _ _ _ _ _ => (pg_name (i := 3) sc_row_of.nd rfl (Or.inl rfl))) (fun _ _ _ _ _ => pts_nil) (fun _ _ _ _ _ => (pe_callTy str_any (by rfl) T.b_str (by decide +kernel) (pa_cons (pv 3) pa_nil)))) pa_nil)))) (pss_one 
      (ps_expr (pe_bm PySem.F.plainAttrs_list PySem.F.slot_list_append PySem.F.type_list_append mt_append (pv 1) (pa_cons (pe_callTy str_any (by rfl) T.b_str (by decide +kernel) (pa_cons (pv 2) pa_nil)) pa_nil))))))) (pss_one 
      (ps_ret (pe_m1 PySem.F.slot_str_join PySem.F.type_str_join mt_join pe_str (pv 1)))))), ?_⟩
    have wl := words_len hok hl
    have wo := words_ok hok hl
    -- the last row
    have last : ∀ (H2 : Hp) (D : Addr), H2 D = some (.lst (strsV (rowWords r))) → Same H H2 → (SqL K H2 D ((rowWords r).map V.str) ∨ SqT K H2 D ((rowWords r).map V.str)) ∧ ((rowWords r).map (·.length)).sum + (rowWords r).length * (" " : Str).length ≤ 16777216 := by
      intro H2 D hd s2
      refine ⟨.inl (SqL.of hd), ?_⟩
      have b := sum_le (l := (rowWords r).map (·.length)) (k := 5) fun x hx => by
        obtain ⟨y, hy, rfl⟩ := List.mem_map.mp hx
        have := (wo y hy).few
        rw [← len_tl] at this
        exact this
      rw [List.length_map] at b
      have e1 : (" " : Str).length = 1 := by decide +kernel
      rw [e1, Nat.mul_one]
      omega
    refine ⟨sizeS (by show 0 ≤ 100000; decide), fun D hD => ?_⟩
    have each : ∀ x ∈ r.tup, (∃ z, x = V.str z) ∨ (∃ n, x = V.int n ∧ 0 ≤ n ∧ n < 1000) ∨ ∃ bs, x = V.byt (byteArr bs) ∧ B8 bs ∧ bs.length ≤ 200 := tup_each hok hl
    have whole : r.tup.flatMap wordsV = rowWords r := tup_words hok
    have tl3 : r.tup.length ≤ 3 := by cases r <;> (first | exact Nat.le_refl 3 | (show 2 ≤ 3; decide))
    refine ⟨_, rfl, q, rfl, ⟨_, SqT.of (Same.new hD _ _ hq)⟩, for_tup (K := K) (a := q) (xs := r.tup) (fun i σ H2 => ∃ v2 v3 : Option V, σ = [some (.ref q), some (.ref D), v2, v3] ∧ Same H H2 ∧ H2 D = some (.lst (strsV ((r.tup.take i).flatMap wordsV))) ∧ ((r.tup.take i).flatMap wordsV).length ≤ 201 * i)
      ⟨none, none, rfl, Same.new hD, upd_same, Nat.le_refl _⟩ (fun i σ H2 _ ⟨_, _, _, s2, _⟩ => SqT.of (s2 _ _ hq)) ?_ ?_⟩
    · rintro i x σ H2 hi ⟨v2, v3, rfl, s2, hd, dl⟩
      have il := (List.getElem?_eq_some_iff.mp hi).1
      have step : (r.tup.take (i + 1)).flatMap wordsV = (r.tup.take i).flatMap wordsV ++ wordsV x := by
        rw [take_snoc hi, List.flatMap_append, List.flatMap_cons, List.flatMap_nil, List.append_nil]
      have sv : (strsV ((r.tup.take i).flatMap wordsV)).length = ((r.tup.take i).flatMap wordsV).length := by unfold strsV; rw [List.length_map]
      rcases each x (List.mem_of_getElem? hi) with ⟨z, rfl⟩ | ⟨n, rfl, n0, n1⟩ | ⟨bs, rfl, hb, bl⟩
      · refine ⟨_, rfl, _, _, _, _, false, rfl, .ty _, .base (.str z), kit_ty (by decide +kernel), false, rfl, iteF ?_⟩
        refine ⟨_, rfl, .inl ⟨rfl, _, SqL.of hd⟩, _, rfl, .inr ⟨z, rfl, D, _, _, rfl, rfl, hd, sizeL (by omega), _, _, rfl, fun b o y => ?_, ?_, ?_⟩⟩
        · rw [upd_ne (ne_of_none y hD)]
          exact s2 _ _ y
        · rw [upd_same, step]
          unfold strsV
          rw [List.map_append]
          rfl
        · rw [step, List.length_append]
          show _ + 1 ≤ _
          omega
      · refine ⟨_, rfl, _, _, _, _, false, rfl, .ty _, .base (.int n), kit_ty (by decide +kernel), false, rfl, iteF ?_⟩
        refine ⟨_, rfl, .inl ⟨rfl, _, SqL.of hd⟩, _, rfl, .inl ⟨n, rfl, log_ok n0 n1, D, _, _, rfl, rfl, hd, sizeL (by omega), _, _, rfl, fun b o y => ?_, ?_, ?_⟩⟩
        · rw [upd_ne (ne_of_none y hD)]
          exact s2 _ _ y
        · rw [upd_same, step]
          unfold strsV
          rw [List.map_append]
          rfl
        · rw [step, List.length_append]
          show _ + 1 ≤ _
          omega
      · refine ⟨_, rfl, _, _, _, _, true, rfl, .ty _, .byt _, kit_ty (by decide +kernel), true, rfl, iteT ?_⟩
        refine ⟨_, rfl, .inl ⟨rfl, _, SqL.of hd⟩, _, rfl, _, rfl, fun G hG => ?_⟩
        refine lc_it walk_byt (fun j H3 => Same H2 H3 ∧ H3 G = some (.lst (strsV ((bs.take j).map strI)))) ⟨Same.new hG, upd_same⟩ (fun _ _ _ _ => trivial) ?_ ?_
        · rintro j x H3 H4 hj ⟨s3, hg⟩ ⟨rfl, c, hc, rfl⟩
          rw [byteArr_size] at hj
          have hz := byt_at hb hc
          have bz := hb _ (List.mem_of_getElem? hz)
          refine ⟨rfl, _, rfl, .inl ⟨_, rfl, log_ok bz.1 (by omega), _, hg, sizeL ?_, fun b o y => ?_, ?_⟩⟩
          · unfold strsV
            rw [List.length_map, List.length_map, List.length_take]
            omega
          · rw [upd_ne (ne_of_none y hG)]
            exact s3 _ _ y
          · rw [upd_same, take_snoc hz, List.map_append]
            unfold strsV
            rw [List.map_append]
            rfl
        · rintro H3 ⟨s3, hg⟩
          rw [byteArr_size, List.take_length] at hg
          have ew : wordsV (V.byt (byteArr bs)) = bs.map strI := by
            show (PySem.W.KBw.bInts (byteArr bs)).map strI = _
            rw [bInts_of hb]
          rw [ew] at step
          have el : (strsV (bs.map strI)).length = bs.length := by unfold strsV; rw [List.length_map, List.length_map]
          refine ⟨D, G, _, _, rfl, rfl, s3 _ _ hd, hg, sizeS (by omega), _, _, rfl, fun b o y => ?_, ?_, ?_⟩
          · rw [upd_ne (ne_of_none y hD)]
            exact s3 _ _ (s2 _ _ y)
          · rw [upd_same, step]
            unfold strsV
            rw [List.map_append]
          · rw [step, List.length_append, List.length_map]
            omega
    · rintro σ H2 ⟨v2, v3, rfl, s2, hd, _⟩
      rw [List.take_length, whole] at hd
      obtain ⟨l1, l2⟩ := last H2 D hd s2
      exact ⟨⟨_, rfl⟩, _, rfl, _, D, rowWords r, rfl, rfl, l1, l2, k H2 s2⟩
theorem text_room {rows : List Row} (h : ∀ r ∈ rows, r.ok 200 ∧ r.len ≤ 200) (hl : rows.length ≤ 200) : ((rows.map rowText).map (·.length)).sum + (rows.map rowText).length * ("\n" : Str).length ≤ 16777216 := by
  have b := sum_le (l := (rows.map rowText).map (·.length)) (k := 1206) fun x hx => by
    obtain ⟨y, hy, rfl⟩ := List.mem_map.mp hx
    obtain ⟨z, hz, rfl⟩ := List.mem_map.mp hy
    have := (rowText_fits (h z hz).1 (h z hz).2).1
    rw [← len_tl] at this
    exact this
  rw [List.length_map, List.length_map] at b
  have e1 : ("\n" : Str).length = 1 := by decide +kernel
  rw [e1, Nat.mul_one, List.length_map]
  omega
theorem ok_written (T : All K mg) : FnOk P w K mg base CX0 4 T.d_written.f T.d_written.fd ["patch"] spWritten := by
  have G_check_patch : FnOk P w K mg base CX0 3 T.d_check_patch.f T.d_check_patch.fd ["patch"] spCheckPatchA := ok_check_patch T
  have G_row_of : FnOk P w K mg base CX0 1 T.d_row_of.f T.d_row_of.fd ["things"] spRowOf := ok_row_of T
  refine T.d_written.F.ok sc_written (fun vs H Q E h => ?_) (fun cdv A outer s H vs Q E hr h => ?_)
  · obtain ⟨_, _, rfl, _⟩ := h
    rfl
  · obtain ⟨v, rows, rfl, hP, hG, k⟩ := h
    refine ⟨_, (pss_cons 
      (ps_expr (pe_call G_check_patch (hr.mono (by decide)) rfl T.d_check_patch.m T.d_check_patch.F.kp T.d_check_patch.b .nil pass0 (pa_cons (pv 0) pa_nil))) (pss_one 
      (ps_ret (pe_m1 PySem.F.slot_str_join PySem.F.type_str_join mt_join pe_str (pe_lc (own := [("piece", 1)]) (g := gName 1) (tt := tYes) rfl sc_written.nd (pi_tup (pv 0)) (blkOk_by (own := [("piece", 1)]) (N := ["patch", "piece"]) (sc := defScope s_written) (by decide +kernel)) (fun _ _ _ _ _ => (pg_name (i := 1) sc_written.nd rfl (Or.inl rfl))) (fun _ _ _ _ _ => pts_nil) (fun _ _ _ _ _ => (pe_call G_row_of (hr.mono (by decide)) rfl T.d_row_of.m T.d_row_of.F.kp T.d_row_of.b .nil pass0 (pa_cons (pv 1) pa_nil)))))))), ?_⟩
    refine ⟨_, rfl, v, rows, rfl, .inl hP, hG, fun H1 s1 => ?_⟩
    obtain ⟨p, vs, rfl, hv, hpr⟩ := hP
    have few := hG.nat
    refine ⟨⟨_, rfl⟩, _, rfl, p, rfl, ⟨vs, SqT.of (s1 _ _ hv)⟩, fun D hD => lc_tup (K := K) (a := p) (xs := vs) (fun i H2 => Same H1 H2 ∧ H2 D = some (.lst (strsV ((rows.take i).map rowText))))
      ⟨Same.new hD, upd_same⟩ (fun i H2 _ ⟨s2, _⟩ => SqT.of (s2 _ _ (s1 _ _ hv))) ?_ ?_⟩
    · rintro i x H2 hi ⟨s2, hd⟩
      obtain ⟨r, hr1, q, rfl, hq⟩ := pairedAt hpr hi
      obtain ⟨o1, o2⟩ := hG.each r (List.mem_of_getElem? hr1)
      have il := (List.getElem?_eq_some_iff.mp hr1).1
      refine ⟨rfl, _, rfl, q, r, rfl, s2 _ _ (s1 _ _ hq), o1, o2, fun H3 s3 => ?_⟩
      refine ⟨_, s3 _ _ hd, sizeL ?_, fun b o z => ?_, ?_⟩
      · unfold strsV
        rw [List.length_map, List.length_map, List.length_take]
        omega
      · rw [upd_ne (ne_of_none z hD)]
        exact s3 _ _ (s2 _ _ z)
      · rw [upd_same, take_snoc hr1, List.map_append]
        unfold strsV
        rw [List.map_append]
        rfl
    · rintro H2 ⟨s2, hd⟩
      rw [Paired.length hpr, List.take_length] at hd
      exact ⟨_, D, rows.map rowText, rfl, rfl, .inl (SqL.of hd), text_room hG.each few, k H2 (s1.trans s2)⟩
end
/-! ### the law's own texts -/
open TL
section
variable {P : Program} {w : World} {K : PySem.W.Frag} {mg : Str → Option Value} {base : Heap}
theorem ok_law_taken (T : All K mg) : FnOk P w K mg base CX0 1 T.d_law_taken.f T.d_law_taken.fd ["_law_row", "_law_many"] (spNext K) := by
  refine T.d_law_taken.F.ok sc_law_taken (fun vs H Q E h => ?_) (fun cdv A outer s H vs Q E hr h => ?_)
  · obtain ⟨_, _, d, n, rfl, _⟩ := h
    rfl
  · obtain ⟨a, ns, d, n, rfl, ⟨hS, hl, p, m, g, hp, hd⟩, n1, n2, k⟩ := h
    refine ⟨_, (pss_cons 
      (ps_if (pt_cmpR op_gt (pe_ix ix_list (pv 0) pe_int (fun _ _ => rfl)) pe_int (nomark _)) (pss_cons 
      (ps_set (i := 2) sc_law_taken.nd rfl (Or.inl rfl) (pe_op op_mod (pe_callTy call_int1 (by rfl) T.b_int PyProof.Rows.boot_int (pa_cons (pe_ix ix_list (pv 0) pe_int (fun _ _ => rfl)) pa_nil)) (pv 1))) (pss_cons 
      (ps_asg (pe_op op_fdiv (pe_ix ix_list (pv 0) pe_int (fun _ _ => rfl)) (pv 1)) (pg_sub (pv 0) pe_int set_list)) (pss_one 
      (ps_ret (pv 2))))) pss_nil) (pss_cons 
      (ps_asg (pe_op op_add (pe_ix ix_list (pv 0) pe_int (fun _ _ => rfl)) pe_int) (pg_sub (pv 0) pe_int set_list)) (pss_cons 
      (ps_if (pt_cmpR op_gt (pe_ix ix_list (pv 0) pe_int (fun _ _ => rfl)) (pe_callB call_len (by rfl) T.b_len PySem.boot_len (pa_cons (pe_ix ix_list (pv 0) pe_int (fun _ _ => rfl)) pa_nil)) (nomark _)) (pss_cons 
      (ps_asg (pe_op op_mod (pe_op op_add (pe_op op_mul (pe_ix ix_list (pv 0) pe_int (fun _ _ => rfl)) pe_int) pe_int) pe_int) (pg_sub (pv 0) pe_int set_list)) (pss_one 
      (ps_ret (pe_op op_mod (pe_op op_fdiv (pe_ix ix_list (pv 0) pe_int (fun _ _ => rfl)) pe_int) (pv 1))))) pss_nil) (pss_cons 
      (ps_set (i := 3) sc_law_taken.nd rfl (Or.inl rfl) (pe_ix ix_list (pe_ix ix_list (pv 0) pe_int (fun _ _ => rfl)) (pe_op op_sub (pe_ix ix_list (pv 0) pe_int (fun _ _ => rfl)) pe_int) (fun _ _ => rfl))) (pss_cons 
      (ps_asg (pe_op op_mod (pe_op op_add (pe_op op_add (pe_op op_mul (pe_ix ix_list (pv 0) pe_int (fun _ _ => rfl)) pe_int) (pv 3)) pe_int) pe_int) (pg_sub (pv 0) pe_int set_list)) (pss_cons 
      (ps_if (pt_cmpR op_ge (pv 3) (pe_op op_pow pe_int pe_int) (nomark _)) (pss_one 
      (ps_asg (pe_op op_fdiv (pv 3) (pv 1)) (pg_sub (pv 0) pe_int set_list))) pss_nil) (pss_one 
      (ps_ret (pe_op op_mod (pe_callTy call_int1 (by rfl) T.b_int PyProof.Rows.boot_int (pa_cons (pv 3) pa_nil)) (pv 1)))))))))), ?_⟩
    have i0 : ∀ {x0 x1 x2 x3 : V}, atI [x0, x1, x2, x3] 0 = some x0 := rfl
    have i1 : ∀ {x0 x1 x2 x3 : V}, atI [x0, x1, x2, x3] 1 = some x1 := rfl
    have i2 : ∀ {x0 x1 x2 x3 : V}, atI [x0, x1, x2, x3] 2 = some x2 := rfl
    have i3 : ∀ {x0 x1 x2 x3 : V}, atI [x0, x1, x2, x3] 3 = some x3 := rfl
    have npos : 0 < n := by omega
    refine ⟨_, rfl, d, _, _, _, rfl, rfl, SqL.of hd, i3, _, _, rfl, rfl, _, rfl, ite2 (fun hg => ?_) fun hg => ?_⟩
    · refine ⟨_, rfl, d, _, _, _, rfl, rfl, SqL.of hd, i3, .inl ⟨_, rfl, _, rfl, _, _, rfl, rfl, npos, ?_⟩⟩
      refine ⟨_, rfl, d, _, _, _, rfl, rfl, SqL.of hd, i3, _, rfl, _, _, rfl, rfl, ⟨npos, n2⟩, _, rfl, d, _, _, _, rfl, rfl, hd, rfl, _, rfl, ?_⟩
      exact k _ _ But.put (Dice.put hS hl hp hd) (Int.emod_nonneg _ (by omega)) (Int.emod_lt_of_pos _ npos)
    · refine ⟨_, rfl, d, _, _, _, rfl, rfl, SqL.of hd, i1, _, _, rfl, rfl, _, rfl, d, _, _, _, rfl, rfl, hd, rfl, ?_⟩
      have hd1 : (upd H d (.lst [V.ref a, V.int (p + 1), V.int m, V.int g])) d = some (.lst [V.ref a, V.int (p + 1), V.int m, V.int g]) := upd_same
      have hS1 : SqL K (upd H d (.lst [V.ref a, V.int (p + 1), V.int m, V.int g])) a (ns.map V.int) := sq_but But.put hd hS
      refine ⟨_, rfl, d, _, _, _, rfl, rfl, SqL.of hd1, i1, _, rfl, d, _, _, _, rfl, rfl, SqL.of hd1, i0, _, _, rfl, .inl ⟨_, hS1, rfl⟩, _, _, rfl, rfl, _, rfl, ite2 (fun hc => ?_) fun hc => ?_⟩
      · refine ⟨_, rfl, d, _, _, _, rfl, rfl, SqL.of hd1, i2, _, _, rfl, rfl, .inr ⟨by decide, by decide⟩, _, _, rfl, rfl, _, _, rfl, rfl, (by show (0 : Int) < 2147483647; decide), _, rfl, d, _, _, _, rfl, rfl, hd1, rfl, ?_⟩
        have hd2 : (upd (upd H d (.lst [V.ref a, V.int (p + 1), V.int m, V.int g])) d (.lst [V.ref a, V.int (p + 1), V.int ((m * 48271 + 11) % 2147483647), V.int g])) d = some (.lst [V.ref a, V.int (p + 1), V.int ((m * 48271 + 11) % 2147483647), V.int g]) := upd_same
        refine ⟨_, rfl, d, _, _, _, rfl, rfl, SqL.of hd2, i2, _, _, rfl, rfl, ⟨by decide, by decide⟩, _, rfl, _, _, rfl, rfl, npos, ?_⟩
        exact k _ _ (But.put.trans But.put) (Dice.put hS1 hl (by omega) hd1) (Int.emod_nonneg _ (by omega)) (Int.emod_lt_of_pos _ npos)
      · have hc' : p + 1 ≤ (ns.length : Int) := by
          have := of_decide_eq_false (Bool.not_eq_true _ ▸ hc)
          rw [List.length_map] at this
          omega
        obtain ⟨j, hj⟩ : ∃ j : Nat, p = (j : Int) := ⟨p.toNat, by omega⟩
        have hlt : j < ns.length := by omega
        have hat : atI (ns.map V.int) (p + 1 - 1) = some (V.int ns[j]) := at_of (j := j) (by omega) (by rw [List.getElem?_map, List.getElem?_eq_getElem hlt]; rfl)
        refine ⟨_, rfl, d, _, _, _, rfl, rfl, SqL.of hd1, i0, _, rfl, d, _, _, _, rfl, rfl, SqL.of hd1, i1, _, _, rfl, rfl, a, _, _, _, rfl, rfl, hS1, hat, ?_⟩
        refine ⟨_, rfl, d, _, _, _, rfl, rfl, SqL.of hd1, i2, _, _, rfl, rfl, .inr ⟨by decide, by decide⟩, _, rfl, _, _, rfl, rfl, _, _, rfl, rfl, _, _, rfl, rfl, (by show (0 : Int) < 2147483647; decide), _, rfl, d, _, _, _, rfl, rfl, hd1, rfl, ?_⟩
        have hd2 : (upd (upd H d (.lst [V.ref a, V.int (p + 1), V.int m, V.int g])) d (.lst [V.ref a, V.int (p + 1), V.int ((m * 48271 + ns[j] + 11) % 2147483647), V.int g])) d = some (.lst [V.ref a, V.int (p + 1), V.int ((m * 48271 + ns[j] + 11) % 2147483647), V.int g]) := upd_same
        have hS2 : SqL K (upd (upd H d (.lst [V.ref a, V.int (p + 1), V.int m, V.int g])) d (.lst [V.ref a, V.int (p + 1), V.int ((m * 48271 + ns[j] + 11) % 2147483647), V.int g])) a (ns.map V.int) := sq_but But.put hd1 hS1
        refine ⟨_, rfl, _, _, rfl, rfl, ⟨by decide, by decide, by decide⟩, _, _, rfl, rfl, _, rfl, ite2 (fun hb => ?_) fun hb => ?_⟩
        · refine ⟨_, rfl, _, rfl, _, _, rfl, rfl, ⟨npos, n2⟩, _, rfl, d, _, _, _, rfl, rfl, hd2, rfl, ?_⟩
          refine ⟨_, rfl, .inl ⟨_, rfl, _, rfl, _, _, rfl, rfl, npos, ?_⟩⟩
          exact k _ _ (But.put.trans (But.put.trans But.put)) (Dice.put hS2 hl (by omega) hd2) (Int.emod_nonneg _ (by omega)) (Int.emod_lt_of_pos _ npos)
        · refine ⟨_, rfl, .inl ⟨_, rfl, _, rfl, _, _, rfl, rfl, npos, ?_⟩⟩
          exact k _ _ (But.put.trans But.put) (Dice.put hS1 hl (by omega) hd1) (Int.emod_nonneg _ (by omega)) (Int.emod_lt_of_pos _ npos)

def spLPatch (K : PySem.W.Frag) : Sp := fun vs H Q _ => ∃ (a : Addr) (ns : List Int) (d : Addr) (m : Int), vs = [.ref d, .int m] ∧ Dice K a ns H d ∧ 0 ≤ m ∧ m ≤ 100 ∧ ∀ H' v rows, But d H H' → Dice K a ns H' d → PatchAt H' v rows → Good rows → rows.length ≤ m → Q v H'
theorem ok_law_patch (T : All K mg) : FnOk P w K mg base CX0 3 T.d_law_patch.f T.d_law_patch.fd ["_law_row", "_law_most"] (spLPatch K) := by
  have G_law_taken : FnOk P w K mg base CX0 1 T.d_law_taken.f T.d_law_taken.fd ["_law_row", "_law_many"] (spNext K) := ok_law_taken T
  have G_bytes_of : FnOk P w K mg base CX0 2 T.d_bytes_of.f T.d_bytes_of.fd ["numbers"] (spBytesOf K) := ok_bytes_of T
  refine T.d_law_patch.F.ok sc_law_patch (fun vs H Q E h => ?_) (fun cdv A outer s H vs Q E hr h => ?_)
  · obtain ⟨_, _, _, _, rfl, _⟩ := h
    rfl
  · obtain ⟨a, ns, d, m, rfl, D, m0, m1, k⟩ := h
    refine ⟨_, (pss_cons 
      (ps_par (i := 2) (j := 3) (by rfl) sc_law_patch.nd rfl rfl (by decide) rfl rfl (pa_cons (pe_lst pa_nil) (pa_cons pe_int pa_nil)) (by rfl)) (pss_cons 
      (ps_for PassesOwn.never rfl (pi_range1 (by rfl) T.b_range (pa_cons (pe_call G_law_taken (hr.mono (by decide)) rfl T.d_law_taken.m T.d_law_taken.F.kp T.d_law_taken.b .nil pass0 (pa_cons (pv 0) (pa_cons (pe_op op_add (pv 1) pe_int) pa_nil))) pa_nil)) (pg_name (i := 4) sc_law_patch.nd rfl (Or.inl rfl)) (pss_cons 
      (ps_par (i := 5) (j := 6) (by rfl) sc_law_patch.nd rfl rfl (by decide) rfl rfl (pa_cons (pe_call G_law_taken (hr.mono (by decide)) rfl T.d_law_taken.m T.d_law_taken.F.kp T.d_law_taken.b .nil pass0 (pa_cons (pv 0) (pa_cons pe_int pa_nil))) (pa_cons (pe_op op_add pe_int (pe_call G_law_taken (hr.mono (by decide)) rfl T.d_law_taken.m T.d_law_taken.F.kp T.d_law_taken.b .nil pass0 (pa_cons (pv 0) (pa_cons (pe_ix ix_list (pe_lst (pa_cons pe_int (pa_cons pe_int pa_nil))) (pe_call G_law_taken (hr.mono (by decide)) rfl T.d_law_taken.m T.d_law_taken.F.kp T.d_law_taken.b .nil pass0 (pa_cons (pv 0) (pa_cons pe_int pa_nil))) (fun _ _ => rfl)) pa_nil)))) pa_nil)) (by rfl)) (pss_one 
      (ps_if (pt_cmpR op_le (pe_op op_add (pv 3) (pv 6)) pe_int (nomark _)) (pss_cons 
      (ps_aug (i := 3) sc_law_patch.nd rfl (Or.inl rfl) (pv 6) ip_add) (pss_cons 
      (ps_setLc (i := 7) (own := [("_law_j", 8)]) (g := gName 8) (tt := tYes) rfl sc_law_patch.nd rfl rfl (sw_true rfl rfl rfl (by decide +kernel)) (pi_range1 (by rfl) T.b_range (pa_cons (pe_callB (call_min2 rfl) (by rfl) T.b_min (by decide +kernel) (pa_cons (pv 6) (pa_cons pe_int pa_nil))) pa_nil)) (blkOk_by (own := [("_law_j", 8)]) (N := ["_law_row", "_law_most", "_law_pieces", "_law_total", "_law_k", "_law_way_on", "_law_long", "_law_some", "_law_j", "_law_begin"]) (sc := defScope s_law_patch) (by decide +kernel)) (fun _ _ _ _ _ => (pg_name (i := 8) sc_law_patch.nd rfl (Or.inl rfl))) (fun _ _ _ _ _ => pts_nil) (fun _ _ _ _ _ => (pe_call G_law_taken (hr.mono (by decide)) rfl T.d_law_taken.m T.d_law_taken.F.kp T.d_law_taken.b .nil pass0 (pa_cons (pv 0) (pa_cons pe_int pa_nil))))) (pss_cons 
      (ps_set (i := 7) sc_law_patch.nd rfl (Or.inl rfl) (pe_slice sl_list (pe_op op_rep (pv 7) pe_int) po_none (po_some (pv 6)))) (pss_cons 
      (ps_set (i := 9) sc_law_patch.nd rfl (Or.inl rfl) (pe_call G_law_taken (hr.mono (by decide)) rfl T.d_law_taken.m T.d_law_taken.F.kp T.d_law_taken.b .nil pass0 (pa_cons (pv 0) (pa_cons (pe_op op_sub pe_int (pv 6)) pa_nil)))) (pss_one 
      (ps_expr (pe_bm PySem.F.plainAttrs_list PySem.F.slot_list_append PySem.F.type_list_append mt_append (pv 2) (pa_cons (pe_ix ix_list (pe_lst (pa_cons (pe_tup (pa_cons pe_str (pa_cons (pv 9) (pa_cons (pv 6) pa_nil)))) (pa_cons (pe_tup (pa_cons pe_str (pa_cons (pe_call G_bytes_of (hr.mono (by decide)) rfl T.d_bytes_of.m T.d_bytes_of.F.kp T.d_bytes_of.b .nil pass0 (pa_cons (pv 7) pa_nil)) pa_nil))) (pa_cons (pe_tup (pa_cons pe_str (pa_cons (pe_ix ix_list (pv 7) pe_int (fun _ _ => rfl)) (pa_cons (pv 6) pa_nil)))) pa_nil)))) (pv 5) (fun _ _ => rfl)) pa_nil)))))))) pss_nil)))) (pss_one 
      (ps_ret (pe_callTy call_tuple_of (by rfl) T.b_tuple (by decide +kernel) (pa_cons (pv 2) pa_nil)))))), ?_⟩
    refine ⟨sizeS (by show 0 ≤ 100000; decide), fun p hp => ⟨_, _, rfl, ?_⟩⟩
    have npd : p ≠ d := D.ne hp
    refine ⟨_, rfl, _, rfl, _, _, rfl, rfl, a, ns, d, m + 1, rfl, D.same (Same.new hp), by omega, by omega, fun H1 t b1 D1 t0 t1 => ?_⟩
    have B1 : But d H H1 := (But.new hp).trans b1
    refine ⟨t, rfl, by omega, by omega, for_range (lo := 0) (n := t.toNat) (fun i σ H2 => ∃ (tot : Int) (ws : List V) (rows : List Row) (v4 v5 v6 v7 v8 v9 : Option V), σ = [some (.ref d), some (.int m), some (.ref p), some (.int tot), v4, v5, v6, v7, v8, v9] ∧ But d H H2 ∧ Dice K a ns H2 d ∧ H2 p = some (.lst ws) ∧ Paired (PieceV H2) ws rows ∧ (∀ r ∈ rows, r.ok 200) ∧ total rows = tot ∧ tot ≤ 200 ∧ rows.length ≤ i)
      ⟨0, [], [], _, _, _, _, _, _, rfl, B1, D1, b1 p _ npd upd_same, .nil, fun r hr => (List.not_mem_nil hr).elim, rfl, by decide, Nat.le_refl _⟩ ?_ ?_⟩
    · rintro i σ H2 hi ⟨tot, ws, rows, v4, v5, v6, v7, v8, v9, rfl, b2, D2, hw, pw, hok, ht, t200, rl⟩
      have wl : ws.length = rows.length := Paired.length pw
      refine ⟨_, rfl, a, ns, d, 3, rfl, D2, by decide, by decide, fun H3 wy b3 D3 w0 w1 => ?_⟩
      refine ⟨_, rfl, sizeS (by show 2 ≤ 100000; decide), fun l hl => ⟨_, rfl, a, ns, d, 2, rfl, D3.same (Same.new hl), by decide, by decide, fun H4 kd b4 D4 k0 k1 => ?_⟩⟩
      have hl4 : H4 l = some (.lst [V.int 4, V.int 40]) := b4 l _ (D3.ne hl) upd_same
      obtain ⟨wd, hk, w2, w3⟩ : ∃ wd : Int, atI [V.int 4, V.int 40] kd = some (.int wd) ∧ 1 ≤ wd ∧ wd ≤ 40 := by
        have : kd = 0 ∨ kd = 1 := by omega
        rcases this with rfl | rfl
        · exact ⟨4, rfl, by decide, by decide⟩
        · exact ⟨40, rfl, by decide, by decide⟩
      refine ⟨l, _, _, _, rfl, rfl, SqL.of hl4, hk, a, ns, d, wd, rfl, D4, by omega, by omega, fun H5 z b5 D5 z0 z1 => ?_⟩
      have b25 : But d H2 H5 := b3.trans ((But.new hl).trans (b4.trans b5))
      have B5 : But d H H5 := b2.trans b25
      refine ⟨_, _, rfl, rfl, _, _, rfl, ?_⟩
      have hw5 : H5 p = some (.lst ws) := b25 p _ npd hw
      have pw5 : Paired (PieceV H5) ws rows := pairedMap pw fun _ _ x => by
        obtain ⟨q, e, x⟩ := x
        exact ⟨q, e, tup_but D2 b25 x⟩
      refine ⟨_, rfl, _, rfl, _, _, rfl, rfl, _, _, rfl, rfl, _, rfl, ite2 (fun hc => ?_) fun hc => ?_⟩
      · have hc' : tot + (1 + z) ≤ 200 := of_decide_eq_true hc
        refine ⟨_, rfl, _, rfl, _, _, rfl, rfl, _, rfl, _, _, rfl, ?_⟩
        obtain ⟨mn, hmn⟩ : ∃ mn : Int, mn = (if (9 : Int) < 1 + z then 9 else 1 + z) := ⟨_, rfl⟩
        have mn0 : 1 ≤ mn := by rw [hmn]; split <;> omega
        have mn9 : mn ≤ 9 := by rw [hmn]; split <;> omega
        have mnz : mn = 9 ∨ mn = 1 + z := by rw [hmn]; split <;> omega
        refine ⟨mn, by rw [hmn], by omega, by omega, fun e he => lc_range (lo := 0) (n := mn.toNat) (fun j H6 => ∃ bs : List Int, But d H5 H6 ∧ Dice K a ns H6 d ∧ H6 e = some (.lst (bs.map V.int)) ∧ B8 bs ∧ bs.length = j)
              ⟨[], But.new he, D5.same (Same.new he), upd_same, fun n hn => (List.not_mem_nil hn).elim, rfl⟩ ?_ ?_⟩
        · rintro j H6 hj ⟨bs, b6, D6, he6, hb, hblen⟩
          refine ⟨rfl, ?_⟩
          refine ⟨_, rfl, a, ns, d, 256, rfl, D6, by decide, by decide, fun H7 u b7 D7 u0 u1 => ?_⟩
          have he7 : H7 e = some (.lst (bs.map V.int)) := b7 e _ (D5.ne he) he6
          refine ⟨_, he7, sizeL (by rw [List.length_map]; omega), bs ++ [u], But.fresh (b6.trans b7) he, Dice.fresh D5 (b6.trans b7) he D7, ?_, ?_, ?_⟩
          · rw [upd_same, List.map_append]; rfl
          · exact hb.app (fun n hn => by
              rw [List.mem_singleton.mp hn]
              exact ⟨u0, u1⟩)
          · rw [List.length_append]; show bs.length + 1 = j + 1; omega
        · rintro H6 ⟨bs, b6, D6, he6, hb, hblen⟩
          refine ⟨_, rfl, _, _, _, rfl, rfl, he6, by decide, by decide, ?_, fun f hf => ?_⟩
          · rw [List.length_map, sizeLine_eq]; show bs.length * 9 ≤ _; omega
          have dl : ((List.replicate (Int.toNat 9) (bs.map V.int)).flatten) = ((List.replicate 9 bs).flatten).map V.int := by
            rw [List.map_flatten, List.map_replicate]
            rfl
          refine ⟨_, rfl, _, rfl, f, _, rfl, SqL.of upd_same, fun g hg => ?_⟩
          have he' : ∃ bz : List Int, cutV ((List.replicate (Int.toNat 9) (bs.map V.int)).flatten) none (some (1 + z)) = bz.map V.int ∧ B8 bz ∧ (bz.length : Int) = 1 + z := by
            obtain ⟨n, hn⟩ : ∃ n : Nat, 1 + z = (n : Int) := ⟨(1 + z).toNat, by omega⟩
            have fl : ((List.replicate 9 bs).flatten).length = 9 * bs.length := by rw [List.length_flatten, List.map_replicate, List.sum_replicate_nat]
            refine ⟨((List.replicate 9 bs).flatten).take n, ?_, ?_, ?_⟩
            · rw [dl, hn]
              unfold cutV
              rw [HT.sIx_nat, List.length_map, Nat.min_eq_left (by omega), List.map_take]
              rfl
            · intro x hx
              have := List.mem_of_mem_take hx
              obtain ⟨l', hl', hx'⟩ := List.mem_flatten.mp this
              rw [List.eq_of_mem_replicate hl'] at hx'
              exact hb x hx'
            · rw [List.length_take, hn]
              omega
          obtain ⟨bz, ebz, hbz, hlz⟩ := he'
          rw [ebz]
          refine ⟨_, rfl, _, rfl, _, _, rfl, rfl, a, ns, d, 201 - (1 + z), rfl, (D6.same (Same.new hf)).same (Same.new hg), by omega, by omega, fun H8 bg b8 D8 g0 g1 => ?_⟩
          have b58 : But d H5 H8 := b6.trans ((But.new hf).trans ((But.new hg).trans b8))
          have hw8 : H8 p = some (.lst ws) := b58 p _ npd hw5
          have pw8 : Paired (PieceV H8) ws rows := pairedMap pw5 fun _ _ x => by
            obtain ⟨q, e, x⟩ := x
            exact ⟨q, e, tup_but D5 b58 x⟩
          have hg8 : H8 g = some (.lst (bz.map V.int)) := b8 g _ (((D6.same (Same.new hf)).ne hg)) upd_same
          refine ⟨_, rfl, .inl ⟨rfl, _, SqL.of hw8⟩, ?_⟩
          refine ⟨_, rfl, _, rfl, sizeS (by show 3 ≤ 100000; decide), fun t1 ht1 => ?_⟩
          have hg9 := Same.new (o := .tup [.str "copy", .int bg, .int (1 + z)]) ht1 _ _ hg8
          refine ⟨_, rfl, g, bz, rfl, SqL.of hg9, hbz, ?_⟩
          refine ⟨sizeS (by show 2 ≤ 100000; decide), fun t2 ht2 => ?_⟩
          obtain ⟨x0, bz', rfl⟩ : ∃ x0 bz', bz = x0 :: bz' := by
            cases bz with
            | nil => exact absurd hlz (by show ((0 : Nat) : Int) ≠ 1 + z; omega)
            | cons x l => exact ⟨x, l, rfl⟩
          have hg10 := Same.new (o := .tup [.str "bring", .byt (byteArr (x0 :: bz'))]) ht2 _ _ hg9
          have at0 : atI (List.map V.int (x0 :: bz')) 0 = some (V.int x0) := at_of (j := 0) rfl rfl
          refine ⟨_, rfl, g, _, _, _, rfl, rfl, SqL.of hg10, at0, _, rfl, sizeS (by show 3 ≤ 100000; decide), fun t3 ht3 => ?_⟩
          refine ⟨sizeS (by show 3 ≤ 100000; decide), fun L hL => ?_⟩
          obtain ⟨HL, hHL⟩ : ∃ HL, HL = upd (upd (upd (upd H8 t1 (.tup [.str "copy", .int bg, .int (1 + z)])) t2 (.tup [.str "bring", .byt (byteArr (x0 :: bz'))])) t3 (.tup [.str "run", .int x0, .int (1 + z)])) L (.lst [.ref t1, .ref t2, .ref t3]) := ⟨_, rfl⟩
          have sL : Same H8 HL := by
            rw [hHL]
            exact ((Same.new ht1).trans (Same.new ht2)).trans ((Same.new ht3).trans (Same.new hL))
          have e1 : HL t1 = some (.tup [.str "copy", .int bg, .int (1 + z)]) := by
            rw [hHL]
            exact ((Same.new ht2).trans ((Same.new ht3).trans (Same.new hL))) _ _ upd_same
          have e2 : HL t2 = some (.tup [.str "bring", .byt (byteArr (x0 :: bz'))]) := by
            rw [hHL]
            exact ((Same.new ht3).trans (Same.new hL)) _ _ upd_same
          have e3 : HL t3 = some (.tup [.str "run", .int x0, .int (1 + z)]) := by
            rw [hHL]
            exact (Same.new hL) _ _ upd_same
          have hwL : HL p = some (.lst ws) := sL _ _ hw8
          have pwL : Paired (PieceV HL) ws rows := pairedMap pw8 fun _ _ x => x.tups (Same.tups sL)
          have bL : But d H HL := (B5.trans b58).trans (Same.but sL)
          have DL : Dice K a ns HL d := D8.same sL
          have fin : ∀ (tv : V) (r : Row), PieceV HL tv r → r.ok 200 → r.len = 1 + z → But d H (upd HL p (.lst (ws ++ [tv]))) ∧ Dice K a ns (upd HL p (.lst (ws ++ [tv]))) d ∧ Paired (PieceV (upd HL p (.lst (ws ++ [tv])))) (ws ++ [tv]) (rows ++ [r]) ∧ (∀ r' ∈ rows ++ [r], r'.ok 200) ∧ total (rows ++ [r]) = tot + (1 + z) ∧ (rows ++ [r]).length ≤ i + 1 := by
            intro tv r hp1 hro hrl
            refine ⟨But.fresh bL hp, Dice.fresh D bL hp DL, pairedApp (pairedMap pwL fun _ _ x => x.tups (Tups.lst hwL)) (.cons (hp1.tups (Tups.lst hwL)) .nil), fun x hx => ?_, ?_, ?_⟩
            · rcases List.mem_append.mp hx with hx | hx
              · exact hok x hx
              · rw [List.mem_singleton.mp hx]; exact hro
            · rw [total_app]
              have : total [r] = 1 + z := by show r.len + 0 = 1 + z; omega
              omega
            · rw [List.length_append]; show rows.length + 1 ≤ i + 1; omega
          have hx0 : 0 ≤ x0 ∧ x0 < 256 := hbz x0 (List.mem_cons_self ..)
          have hwy : wy = 0 ∨ wy = 1 ∨ wy = 2 := by omega
          rcases hwy with rfl | rfl | rfl
          · obtain ⟨q1, q2, q3, q4, q5, q6⟩ := fin (.ref t1) (.copy bg (1 + z)) ⟨t1, rfl, e1⟩ ⟨g0, by omega, by omega⟩ rfl
            subst hHL
            refine ⟨_, rfl, L, _, _, _, rfl, rfl, SqL.of upd_same, rfl, p, ws, _, rfl, rfl, hwL, sizeL (by omega), ?_⟩
            exact ⟨_, _, rows ++ [_], _, _, _, _, _, _, rfl, q1, q2, upd_same, q3, q4, q5, hc', q6⟩
          · obtain ⟨q1, q2, q3, q4, q5, q6⟩ := fin (.ref t2) (.bring (x0 :: bz')) ⟨t2, rfl, e2⟩ ⟨by omega, hbz⟩ hlz
            subst hHL
            refine ⟨_, rfl, L, _, _, _, rfl, rfl, SqL.of upd_same, rfl, p, ws, _, rfl, rfl, hwL, sizeL (by omega), ?_⟩
            exact ⟨_, _, rows ++ [_], _, _, _, _, _, _, rfl, q1, q2, upd_same, q3, q4, q5, hc', q6⟩
          · obtain ⟨q1, q2, q3, q4, q5, q6⟩ := fin (.ref t3) (.run x0 (1 + z)) ⟨t3, rfl, e3⟩ ⟨hx0.1, hx0.2, by omega⟩ rfl
            subst hHL
            refine ⟨_, rfl, L, _, _, _, rfl, rfl, SqL.of upd_same, rfl, p, ws, _, rfl, rfl, hwL, sizeL (by omega), ?_⟩
            exact ⟨_, _, rows ++ [_], _, _, _, _, _, _, rfl, q1, q2, upd_same, q3, q4, q5, hc', q6⟩
      · exact ⟨tot, ws, rows, _, _, _, _, _, _, rfl, B5, D5, hw5, pw5, hok, ht, t200, by omega⟩
    · rintro σ H2 ⟨tot, ws, rows, v4, v5, v6, v7, v8, v9, rfl, b2, D2, hw, pw, hok, ht, t200, rl⟩
      refine ⟨_, rfl, p, ws, rfl, .inl ⟨SqL.of hw, fun u hu => ?_⟩⟩
      exact k _ _ rows (b2.trans (But.new hu)) (D2.same (Same.new hu)) ⟨u, ws, rfl, upd_same, pairedMap pw fun _ _ x => x.tups (Same.tups (Same.new hu))⟩ ⟨hok, by omega⟩ (by omega)
end
/-! ### the law's own reader -/
set_option pp.maxSteps 600
open TL
def spLNumber : Sp := fun vs H Q _ => ∃ w : Str, vs = [.str w] ∧ w.length ≤ 3900000 ∧ ∀ H', Same H H' → Q (optV (numW w)) H'
section
variable {P : Program} {w : World} {K : PySem.W.Frag} {mg : Str → Option Value} {base : Heap}
theorem ok_law_number (T : All K mg) : FnOk P w K mg base CX0 1 T.d_law_number.f T.d_law_number.fd ["_law_word_here"] spLNumber := by
  refine T.d_law_number.F.ok sc_law_number (fun vs H Q E h => ?_) (fun cdv A outer s H vs Q E hr h => ?_)
  · obtain ⟨_, rfl, _⟩ := h
    rfl
  · obtain ⟨x, rfl, xl, k⟩ := h
    refine ⟨_, (pss_cons 
      (ps_if (PW.pt (pw_or (pt_cmpR op_notIn_seq (pe_callB call_len (by rfl) T.b_len PySem.boot_len (pa_cons (pv 0) pa_nil)) (pe_tup (pa_cons pe_int (pa_cons pe_int (pa_cons pe_int pa_nil)))) (by with_unfolding_all rfl)) (pw_or1 (pt_cmpR (op_neEmpty hr.units) (pe_lc (own := [("_law_sign", 1)]) (g := gName 1) rfl sc_law_number.nd (pi_str (pv 0)) (blkOk_by (own := [("_law_sign", 1)]) (N := ["_law_word_here", "_law_sign"]) (sc := defScope s_law_number) (by decide +kernel)) (fun _ _ _ _ _ => (pg_name (i := 1) sc_law_number.nd rfl (Or.inl rfl))) (fun _ _ _ _ _ => (pts_one (pt_cmpR op_notInS (pv 1) pe_str (by with_unfolding_all rfl)))) (fun _ _ _ _ _ => (pv 1))) (pe_lst pa_nil) (nomark _))))) (pss_one 
      (ps_ret pe_non)) pss_nil) (pss_one 
      (ps_ret (pe_ifExp (PW.pt (pw_and (pt_cmpR op_gt (pe_callB call_len (by rfl) T.b_len PySem.boot_len (pa_cons (pv 0) pa_nil)) pe_int (nomark _)) (pw_and1 (pt_cmpR op_eq (pe_item_str (pv 0) pe_int (fun _ _ => rfl)) pe_str (nomark _))))) pe_non (pe_callTy call_int_str (by rfl) T.b_int PyProof.Rows.boot_int (pa_cons (pv 0) pa_nil)))))), ?_⟩
    have len : x.length = (tl x).length := len_tl x
    have sz : x.length ≤ sizeLine := by rw [sizeLine_eq]; omega
    refine ⟨_, rfl, _, x.length, rfl, ⟨sz, rfl⟩, sizeS (by show 3 ≤ 100000; decide), fun tc htc => ?_⟩
    refine ⟨tc, _, rfl, .inr (SqT.of upd_same), rfl, rfl, _, rfl, ?_⟩
    have st : Same H (upd H tc (.tup [.int 1, .int 2, .int 3])) := Same.new htc
    have inq : inV (.int (x.length : Nat)) [.int 1, .int 2, .int 3] = (decide (1 ≤ x.length) && decide (x.length ≤ 3)) := by
      show (((1 : Int) == (x.length : Nat)) || (((2 : Int) == (x.length : Nat)) || (((3 : Int) == (x.length : Nat)) || false))) = _
      rw [Bool.eq_iff_iff]
      simp only [Bool.or_eq_true, beq_iff_eq, Bool.and_eq_true, decide_eq_true_iff, Bool.or_false]
      omega
    rw [if_pos rfl, inq]
    by_cases c1 : 1 ≤ x.length ∧ x.length ≤ 3
    · rw [decide_eq_true c1.1, decide_eq_true c1.2]
      refine iteF ?_
      refine ⟨_, rfl, _, rfl, fun D hD => lc_it walk_str (fun i H2 => Same (upd H tc (.tup [.int 1, .int 2, .int 3])) H2 ∧ H2 D = some (.lst ((((tl x).take i).filter fun c => !digB c).map fun c => V.str ⟨#[c]⟩))) ⟨Same.new hD, upd_same⟩ (fun _ _ _ _ => trivial) ?_ ?_⟩
      · rintro i y H2 H3 hi ⟨s2, hd⟩ ⟨rfl, c, hc, rfl⟩
        have hc' : (tl x)[i]? = some c := by rw [Array.getElem?_toList]; exact hc
        refine ⟨rfl, _, rfl, c, _, rfl, rfl, ?_⟩
        rw [dig_in]
        have dl : ((((tl x).take i).filter fun c => !digB c).map fun c => V.str ⟨#[c]⟩).length < sizeLine := by
          rw [List.length_map]
          have := List.length_filter_le (fun c => !digB c) ((tl x).take i)
          rw [List.length_take] at this
          exact sizeL (by omega)
        refine ⟨_, rfl, ite2 (fun h => ?_) fun h => ?_⟩
        · refine ⟨_, rfl, _, hd, dl, fun b o z => ?_, ?_⟩
          · rw [upd_ne (ne_of_none z hD)]
            exact s2 _ _ z
          · rw [upd_same, take_snoc hc', List.filter_append, List.filter_cons_of_pos (by exact h), List.map_append]
            rfl
        · refine ⟨s2, ?_⟩
          rw [take_snoc hc', List.filter_append, List.filter_cons_of_neg (by exact h), List.filter_nil, List.append_nil]
          exact hd
      · rintro H2 ⟨s2, hd⟩
        have hall : ((tl x).take x.cps.size) = tl x := List.take_of_length_le (by rw [← len]; exact Nat.le_refl _)
        rw [hall] at hd
        refine ⟨sizeS (by show 0 ≤ 100000; decide), fun l0 hl0 => ?_⟩
        refine ⟨D, l0, _, rfl, rfl, Same.new hl0 _ _ hd, upd_same, _, rfl, ?_⟩
        have s3 : Same H (upd H2 l0 (.lst [])) := st.trans (s2.trans (Same.new hl0))
        have emp : (!((((tl x).filter fun c => !digB c).map fun c => V.str ⟨#[c]⟩) : List V).isEmpty) = !(tl x).all digB := by
          congr 1
          rw [Bool.eq_iff_iff, List.isEmpty_iff, List.map_eq_nil_iff, List.filter_eq_nil_iff, List.all_eq_true]
          constructor
          · intro h c hc
            have := h c hc
            cases e : digB c with
            | true => rfl
            | false => rw [e] at this; exact absurd rfl this
          · intro h c hc
            rw [h c hc]
            decide
        rw [emp]
        cases c3 : (tl x).all digB with
        | false =>
          refine iteT ?_
          have : numW x = none := by unfold numW; rw [c3, Bool.and_false, Bool.false_and]; rfl
          have kk := k _ s3
          rw [this] at kk
          exact kk
        | true =>
          refine iteF ?_
          obtain ⟨c, rest, ec⟩ : ∃ c rest, tl x = c :: rest := by
            cases h : tl x with
            | nil => rw [h] at len; have : x.length = 0 := len; omega
            | cons c rest => exact ⟨c, rest, rfl⟩
          have hc : x.cps[(0 : Int).toNat]? = some c := by
            have z : (tl x)[0]? = some c := by rw [ec]; rfl
            rw [Array.getElem?_toList] at z
            exact z
          have base : (decide (1 ≤ (tl x).length) && decide ((tl x).length ≤ 3) && (tl x).all digB) = true := by
            rw [c3, decide_eq_true (show 1 ≤ (tl x).length by omega), decide_eq_true (show (tl x).length ≤ 3 by omega)]
            rfl
          have kk := k _ s3
          unfold numW at kk
          rw [base] at kk
          have lst : zeroB (tl x) = false → ∃ a n, [V.str x] = [V.str a] ∧ PySem.intText? a = some n ∧ a.length ≤ 640 ∧ Q (.int n) (upd H2 l0 (.lst [])) := fun z => by
            rw [z] at kk
            have kk : Q (.int (valL (tl x) : Int)) _ := kk
            have e := numL_val _ (tl x) rfl (by rw [ec]; simp) c3 z
            have ex : x = strI (valL (tl x) : Int) := by
              refine ext_tl ?_
              rw [tl_strI (by omega), Int.toNat_natCast, e]
            refine ⟨x, (valL (tl x) : Int), rfl, ?_, by omega, kk⟩
            have := int_num (n := valL (tl x)) (by rw [e]; omega)
            rw [show Str.ofString (toString ((valL (tl x) : Nat) : Int)) = x from ex.symm] at this
            exact this
          refine ⟨_, rfl, _, x.length, rfl, ⟨sz, rfl⟩, _, _, rfl, rfl, _, rfl, ite2 (fun h => ?_) fun h => ?_⟩
          · have h : (1 : Int) < (x.length : Int) := of_decide_eq_true h
            refine ⟨_, rfl, _, _, c, rfl, rfl, by decide, by decide, by omega, hc, rfl, _, rfl, ite2 (fun h2 => ?_) fun h2 => ?_⟩
            · have h2 := of_decide_eq_true h2
              injection h2 with h2
              have h3 : [c] = [48] := by
                have z := congrArg tl h2
                have y : tl ("0" : Str) = [48] := by decide +kernel
                rw [y] at z
                exact z
              injection h3 with h3 _
              subst h3
              have z : zeroB (tl x) = true := zeroB_yes (by rw [ec]; rfl) (by omega)
              rw [z] at kk
              exact kk
            · have z : zeroB (tl x) = false := zeroB_no (.inl (by
                rw [ec]
                rintro rfl
                exact h2 (decide_eq_true (by congr 1))))
              exact ⟨_, rfl, lst z⟩
          · have h : ¬ (1 : Int) < (x.length : Int) := fun q => h (decide_eq_true q)
            have z : zeroB (tl x) = false := zeroB_no (.inr (by omega))
            exact iteF ⟨_, rfl, lst z⟩
    · have : numW x = none := by
        unfold numW
        by_cases a : 1 ≤ (tl x).length
        · rw [decide_eq_false (show ¬ (tl x).length ≤ 3 by omega), Bool.and_false, Bool.false_and, Bool.false_and]; rfl
        · rw [decide_eq_false a, Bool.false_and, Bool.false_and, Bool.false_and]; rfl
      have e : (decide (1 ≤ x.length) && decide (x.length ≤ 3)) = false := by
        rw [Bool.and_eq_false_iff, decide_eq_false_iff_not, decide_eq_false_iff_not]
        omega
      rw [e]
      refine iteT (iteT ?_)
      have kk := k _ st
      rw [this] at kk
      exact kk
end
set_option pp.maxSteps 600
open TL
def rEqNil : R2 := fun x y H Q => ∃ a b xs, x = .ref a ∧ y = .ref b ∧ H a = some (.lst xs) ∧ H b = some (.lst []) ∧ Q (.bl xs.isEmpty) H
theorem op_eqNil {X : Cx} (hu : X.A.units + 64 < cLine) : OpR X (compareOp .Eq) rEqNil := by
  intro pins s σ H x y v u Q I rx ry h
  obtain ⟨a, b, xs, rfl, rfl, ha, hb, q⟩ := h
  cases (show v = Value.ref a from rx)
  cases (show u = Value.ref b from ry)
  obtain ⟨us, r1, p1, _⟩ := I.list (SqL.of ha)
  obtain ⟨ws, r2, p2, _⟩ := I.list (SqL.of hb)
  cases r2
  cases r1 with
  | nil =>
    have z := SeqAt.RcAt.lists (A := X.A) (e := fun _ => true) p1.isList p2.isList rfl (by omega) (fun j h1 => absurd h1 (Nat.not_lt_zero j))
    exact z X.prog X.w _ _ ⟨.bl true, H, I, rfl, q⟩
  | cons c t =>
    have z := SeqAt.RcAt.lists_lengths (A := X.A) p1.isList p2.isList (by simp) (by omega)
    exact z X.prog X.w _ _ ⟨.bl false, H, I, rfl, q⟩
def spLDue : Sp := fun vs H Q _ => ∃ t : Str, vs = [.str t] ∧ t.length ≤ 3900000 ∧ (linesW t).length ≤ 20000 ∧
  (∀ (i : Nat) H' u, firstNone (rowsW t) i → Same H H' → H' u = some (.tup [.str "text", .int (i : Int)]) → Q (.ref u) H') ∧
  ∀ (rows : List Row) H' u v, rowsW t = rows.map some → Same H H' → H' u = some (.tup [.str "pieces", v]) → PatchAt H' v rows → Q (.ref u) H'
section
variable {P : Program} {w : World} {K : PySem.W.Frag} {mg : Str → Option Value} {base : Heap}
theorem ok_law_due (T : All K mg) : FnOk P w K mg base CX0 3 T.d_law_due.f T.d_law_due.fd ["_law_text"] spLDue := by
  have G_law_number : FnOk P w K mg base CX0 1 T.d_law_number.f T.d_law_number.fd ["_law_word_here"] spLNumber := ok_law_number T
  have G_bytes_of : FnOk P w K mg base CX0 2 T.d_bytes_of.f T.d_bytes_of.fd ["numbers"] (spBytesOf K) := ok_bytes_of T
  refine T.d_law_due.F.ok sc_law_due (fun vs H Q E h => ?_) (fun cdv A outer s H vs Q E hr h => ?_)
  · obtain ⟨_, rfl, _⟩ := h
    rfl
  · obtain ⟨t, rfl, tlen, lfew, kN, kS⟩ := h
    refine ⟨_, (pss_cons (ps_join 
      (ps_par (i := 1) (j := 2) (by rfl) sc_law_due.nd rfl rfl (by decide) rfl rfl (pa_cons (pe_lst pa_nil) (pa_cons (pe_ifExp (pt_cmpR op_ne (pv 0) pe_str (nomark _)) (pe_m1 PySem.F.slot_str_split PySem.F.type_str_split mt_split (pv 0) pe_str) (pe_lst pa_nil)) pa_nil)) (by rfl))) (pss_cons 
      (ps_for PassesOwn.never rfl (pi_range1 (by rfl) T.b_range (pa_cons (pe_callB call_len (by rfl) T.b_len PySem.boot_len (pa_cons (pv 2) pa_nil)) pa_nil)) (pg_name (i := 3) sc_law_due.nd rfl (Or.inl rfl)) (pss_cons 
      (ps_set (i := 4) sc_law_due.nd rfl (Or.inl rfl) (pe_m1 PySem.F.slot_str_split PySem.F.type_str_split mt_split (pe_ix ix_list (pv 2) (pv 3) (fun _ _ ↦ rfl)) pe_str)) (pss_cons 
      (ps_setLc (i := 5) (own := [("_law_word_here", 6)]) (g := gName 6) (tt := tYes) rfl sc_law_due.nd rfl rfl (sw_true rfl rfl rfl (by decide +kernel)) (pi_list (pe_slice sl_list (pv 4) (po_some pe_int) po_none)) (blkOk_by (own := [("_law_word_here", 6)]) (N := ["_law_text", "_law_pieces", "_law_lines", "_law_k", "_law_words", "_law_numbers", "_law_word_here"]) (sc := defScope s_law_due) (by decide +kernel)) (fun _ _ _ _ _ => (pg_name (i := 6) sc_law_due.nd rfl (Or.inl rfl))) (fun _ _ _ _ _ => pts_nil) (fun _ _ _ _ _ => (pe_call G_law_number (hr.mono (by decide)) rfl T.d_law_number.m T.d_law_number.F.kp T.d_law_number.b .nil pass0 (pa_cons (pv 6) pa_nil)))) (pss_cons 
      (ps_if (PW.pt (pw_or (pt_cmpR op_notIn_seq (pe_ix ix_list (pv 4) pe_int (fun _ _ => rfl)) (pe_tup (pa_cons pe_str (pa_cons pe_str (pa_cons pe_str pa_nil)))) (by with_unfolding_all rfl)) (pw_or1 (pt_cmpR op_in_seq pe_non (pv 5) (by with_unfolding_all rfl))))) (pss_one 
      (ps_ret (pe_tup (pa_cons pe_str (pa_cons (pv 3) pa_nil))))) pss_nil) (pss_one 
      (ps_if (pt_cmpR op_eq (pe_ix ix_list (pv 4) pe_int (fun _ _ => rfl)) pe_str (nomark _)) (pss_cons 
      (ps_if (PW.pt (pw_or (pt_cmpR (op_eqNil hr.units) (pv 5) (pe_lst pa_nil) (nomark _)) (pw_or1 (pt_cmpR op_gt (pe_callB (cr_max rfl) (by rfl) T.b_max (by decide +kernel) (pa_cons (pv 5) pa_nil)) pe_int (nomark _))))) (pss_one 
      (ps_ret (pe_tup (pa_cons pe_str (pa_cons (pv 3) pa_nil))))) pss_nil) (pss_one 
      (ps_expr (pe_bm PySem.F.plainAttrs_list PySem.F.slot_list_append PySem.F.type_list_append mt_append (pv 1) (pa_cons (pe_tup (pa_cons pe_str (pa_cons (pe_call G_bytes_of (hr.mono (by decide)) rfl T.d_bytes_of.m T.d_bytes_of.F.kp T.d_bytes_of.b .nil pass0 (pa_cons (pv 5) pa_nil)) pa_nil))) pa_nil))))) (pss_one 
      (ps_if (pt_cmpR op_ne (pe_callB call_len (by rfl) T.b_len PySem.boot_len (pa_cons (pv 5) pa_nil)) pe_int (nomark _)) (pss_one 
      (ps_ret (pe_tup (pa_cons pe_str (pa_cons (pv 3) pa_nil))))) (pss_one 
      (ps_expr (pe_bm PySem.F.plainAttrs_list PySem.F.slot_list_append PySem.F.type_list_append mt_append (pv 1) (pa_cons (pe_tup (pa_cons (pe_ix ix_list (pv 4) pe_int (fun _ _ => rfl)) (pa_cons (pe_ix ix_list (pv 5) pe_int (fun _ _ => rfl)) (pa_cons (pe_ix ix_list (pv 5) pe_int (fun _ _ => rfl)) pa_nil)))) pa_nil)))))))))))) (pss_one 
      (ps_ret (pe_tup (pa_cons pe_str (pa_cons (pe_callTy call_tuple_of (by rfl) T.b_tuple (by decide +kernel) (pa_cons (pv 1) pa_nil)) pa_nil))))))), ?_⟩
    refine ⟨fun σ H1 => ∃ (p L : Addr) (v3 v4 v5 v6 : Option V), σ = [some (.str t), some (.ref p), some (.ref L), v3, v4, v5, v6] ∧ Same H H1 ∧ H p = none ∧ p ≠ L ∧ H1 p = some (.lst []) ∧ H1 L = some (.lst (strsV (linesW t))), ?_, ?_⟩
    · refine ⟨sizeS (by show 0 ≤ 100000; decide), fun p hp => ⟨_, rfl, rfl, _, rfl, ite2 (fun h => ?_) fun h => ?_⟩⟩
      · have ne : t ≠ "" := fun z => by
          rw [z] at h
          exact absurd h (by decide)
        refine ⟨_, rfl, ⟨_, rfl⟩, _, _, rfl, rfl, by decide +kernel, by rw [sizeLine_eq]; omega, fun L hL => ⟨_, _, rfl, ?_⟩⟩
        have npL : p ≠ L := ne_of_none upd_same hL
        refine ⟨p, L, _, _, _, _, rfl, (Same.new hp).trans (Same.new hL), hp, npL, Same.new hL _ _ upd_same, ?_⟩
        rw [upd_same]
        unfold linesW
        rw [if_neg ne]
        rfl
      · have e : t = "" := by
          by_cases z : t = ""
          · exact z
          · refine absurd ?_ h
            rw [dec_str, decide_eq_false z]
            rfl
        refine ⟨sizeS (by show 0 ≤ 100000; decide), fun L hL => ⟨_, _, rfl, ?_⟩⟩
        have npL : p ≠ L := ne_of_none upd_same hL
        refine ⟨p, L, _, _, _, _, rfl, (Same.new hp).trans (Same.new hL), hp, npL, Same.new hL _ _ upd_same, ?_⟩
        rw [upd_same]
        unfold linesW
        rw [if_pos e]
        rfl
    · rintro σ H1 ⟨p, L, v3, v4, v5, v6, rfl, s1, hp, npL, hp1, hL1⟩
      have ll : (strsV (linesW t)).length = (linesW t).length := by unfold strsV; rw [List.length_map]
      have rl : (rowsW t).length = (linesW t).length := by unfold rowsW; rw [List.length_map]
      refine ⟨_, rfl, _, (linesW t).length, rfl, .inl ⟨_, SqL.of hL1, ll.symm⟩, ((linesW t).length : Int), rfl, by omega, by omega, for_range (lo := 0) (n := (linesW t).length) (fun i σ H2 => ∃ (ws : List V) (rows : List Row) (v3 v4 v5 v6 : Option V), σ = [some (.str t), some (.ref p), some (.ref L), v3, v4, v5, v6] ∧ Same H H2 ∧ H2 p = some (.lst ws) ∧ H2 L = some (.lst (strsV (linesW t))) ∧ Paired (PieceV H2) ws rows ∧ (rowsW t).take i = rows.map some)
        ⟨[], [], _, _, _, _, rfl, s1, hp1, hL1, .nil, rfl⟩ ?_ ?_⟩
      · rintro i σ H2 hi ⟨ws, rows, v3, v4, v5, v6, rfl, s2, hw, hL2, pw, ht⟩
        obtain ⟨ln, hln⟩ : ∃ ln, (linesW t)[i]? = some ln := ⟨_, List.getElem?_eq_getElem hi⟩
        have lnl : ln.length ≤ 3900000 := Nat.le_trans (lines_each ln (List.mem_of_getElem? hln)) tlen
        obtain ⟨wne, wwd⟩ := words_wide lnl
        have hro : (rowsW t)[i]? = some (pieceW (Txt.split ln " ")) := by
          unfold rowsW
          rw [List.getElem?_map, hln]
          rfl
        have atL : atI (strsV (linesW t)) (0 + (i : Int)) = some (.str ln) := at_of (j := i) (by omega) (by unfold strsV; rw [List.getElem?_map, hln]; rfl)
        have wl : ws.length ≤ i := by
          have := congrArg List.length ht
          rw [List.length_take, List.length_map] at this
          rw [Paired.length pw]
          omega
        refine ⟨_, rfl, _, rfl, L, _, _, _, rfl, rfl, SqL.of hL2, atL, ⟨_, rfl⟩, _, _, rfl, rfl, by decide +kernel, by rw [sizeLine_eq]; omega, fun W hW => ?_⟩
        obtain ⟨wd, rest, ew⟩ : ∃ wd rest, Txt.split ln " " = wd :: rest := by
          cases e : Txt.split ln " " with
          | nil => exact absurd e wne
          | cons a l => exact ⟨a, l, rfl⟩
        rw [ew] at hro wwd ⊢
        have hwr : Wide rest := ⟨by have := wwd.1; rw [List.length_cons] at this; omega, fun x hx => wwd.2 x (List.mem_cons_of_mem _ hx)⟩
        have rlen : (strsV rest).length = rest.length := by unfold strsV; rw [List.length_map]
        have hW3 : (upd H2 W (.lst ((wd :: rest).map V.str))) W = some (.lst (.str wd :: strsV rest)) := upd_same
        have s23 : Same H2 (upd H2 W (.lst ((wd :: rest).map V.str))) := Same.new hW
        show (_ : Prop)
        generalize upd H2 W (.lst ((wd :: rest).map V.str)) = H3 at hW3 s23 ⊢
        refine ⟨_, rfl, 1, rfl, W, _, rfl, SqL.of hW3, fun S hS => ?_⟩
        rw [cutFrom1s]
        refine ⟨S, rfl, ⟨_, SqL.of upd_same⟩, fun N hN => lc_list (K := K) (a := S) (xs := strsV rest) (fun j H4 => Same (upd H3 S (.lst (strsV rest))) H4 ∧ H4 N = some (.lst (optsV (rest.take j))))
          ⟨Same.new hN, upd_same⟩ (fun j H4 _ ⟨s4, _⟩ => SqL.of (s4 _ _ upd_same)) ?_ ?_⟩
        · rintro j x H4 hj ⟨s4, hd⟩
          obtain ⟨z, hz, rfl⟩ := str_at hj
          have jl := (List.getElem?_eq_some_iff.mp hz).1
          have rw1 := hwr.1
          refine ⟨rfl, _, rfl, z, rfl, by have := hwr.2 z (List.mem_of_getElem? hz); have := (split_sp ln).2.1 z (by rw [ew]; exact List.mem_cons_of_mem _ (List.mem_of_getElem? hz)); omega, fun H5 s5 => ?_⟩
          refine ⟨_, s5 _ _ hd, by rw [sizeLine_eq, opts_len, List.length_take]; omega, fun b o y => ?_, ?_⟩
          · rw [upd_ne (ne_of_none y hN)]
            exact s5 _ _ (s4 _ _ y)
          · rw [upd_same, take_snoc hz]
            unfold optsV
            rw [List.map_append]
            rfl
        · rintro H4 ⟨s4, hd⟩
          rw [rlen, List.take_length] at hd
          have s24 : Same H2 H4 := s23.trans ((Same.new hS).trans s4)
          have hW4 : H4 W = some (.lst (.str wd :: strsV rest)) := s4 _ _ (Same.new hS _ _ hW3)
          have hw4 := s24 _ _ hw
          have hL4 := s24 _ _ hL2
          have sH4 : Same H H4 := s2.trans s24
          have e0 : (0 : Int) + (i : Int) = (i : Int) := Int.zero_add _
          -- the row can't be read
          have bad : pieceW (wd :: rest) = none → firstNone (rowsW t) i := fun e => by
            refine ⟨by rw [hro, e], fun m hm z => ?_⟩
            have h1 : ((rowsW t).take i)[m]? = some none := by rw [List.getElem?_take_of_lt hm]; exact z
            rw [ht, List.getElem?_map] at h1
            cases e2 : rows[m]? with
            | none => rw [e2] at h1; cases h1
            | some r => rw [e2] at h1; cases h1
          have good : ∀ (r : Row) (H5 : Hp) (v : V), pieceW (wd :: rest) = some r → Same H4 H5 → PieceV H5 v r →
              H5 p = some (.lst ws) ∧ Same H (upd H5 p (.lst (ws ++ [v]))) ∧ (upd H5 p (.lst (ws ++ [v]))) L = some (.lst (strsV (linesW t))) ∧ Paired (PieceV (upd H5 p (.lst (ws ++ [v])))) (ws ++ [v]) (rows ++ [r]) ∧ (rowsW t).take (i + 1) = (rows ++ [r]).map some := by
            intro r H5 v e s5 hv
            have hw5 := s5 _ _ hw4
            refine ⟨hw5, fun b o z => ?_, ?_, ?_, ?_⟩
            · rw [upd_ne (ne_of_none z hp)]
              exact s5 _ _ (sH4 _ _ z)
            · rw [upd_ne npL.symm]
              exact s5 _ _ hL4
            · exact pairedApp (pairedMap pw fun _ _ x => (x.tups (Same.tups (s24.trans s5))).tups (Tups.lst hw5)) (.cons (hv.tups (Tups.lst hw5)) .nil)
            · rw [take_snoc hro, ht, e, List.map_append]
              rfl
          refine ⟨_, rfl, W, _, _, _, rfl, rfl, SqL.of hW4, at_of (j := 0) rfl rfl, sizeS (by show 3 ≤ 100000; decide), fun tc htc => ?_⟩
          refine ⟨tc, _, rfl, .inr (SqT.of upd_same), rfl, rfl, _, rfl, ?_⟩
          have eS : ∀ a b : Str, eqV (.str a) (.str b) = decide (b = a) := fun a b => by
            show (a == b) = _
            by_cases h : b = a
            · rw [decide_eq_true h, h]; exact beq_self_eq_true a
            · rw [decide_eq_false h]
              exact beq_eq_false_iff_ne.mpr fun z => h z.symm
          have inq : inV (.str wd) [.str "copy", .str "bring", .str "run"] = (decide (wd = "copy") || (decide (wd = "bring") || decide (wd = "run"))) := by
            show (eqV (.str "copy") (.str wd) || (eqV (.str "bring") (.str wd) || (eqV (.str "run") (.str wd) || false))) = _
            rw [eS, eS, eS, Bool.or_false]
          rw [if_pos rfl, inq]
          have s45 : Same H4 (upd H4 tc (.tup [.str "copy", .str "bring", .str "run"])) := Same.new htc
          by_cases cw : wd = "copy" ∨ wd = "bring" ∨ wd = "run"
          · have e2 : (!(decide (wd = "copy") || (decide (wd = "bring") || decide (wd = "run")))) = false := by
              rcases cw with c | c | c
              · rw [decide_eq_true c]; rfl
              · rw [decide_eq_true c, Bool.true_or, Bool.or_true]; rfl
              · rw [decide_eq_true c, Bool.or_true, Bool.or_true]; rfl
            rw [e2]
 
            refine iteF ?_
            have hd5 := s45 _ _ hd
            have fl : (optsV rest).all flatV = true := List.all_eq_true.mpr fun x hx => by
              obtain ⟨z, _, rfl⟩ := List.mem_map.mp hx
              show flatV (optV (numW z)) = true
              rcases opt_cases z with e | ⟨n, e⟩ <;> rw [e] <;> rfl
            refine ⟨_, rfl, N, _, rfl, .inl (SqL.of hd5), rfl, fl, _, rfl, ?_⟩
            rw [if_neg (show ¬ (false = true) by decide)]
            cases ea : allNum rest with
            | none =>
              have inn : inV .non (optsV rest) = true := List.any_eq_true.mpr ⟨.non, opts_none ea, rfl⟩
              rw [inn]
              refine iteT ?_
              refine ⟨_, rfl, sizeS (by show 2 ≤ 100000; decide), fun u hu => ?_⟩
              have pn : pieceW (wd :: rest) = none := by
                show pieceN wd (allNum rest) = none
                rw [ea]
                rfl
              refine kN i _ u (bad pn) (sH4.trans (s45.trans (Same.new hu))) ?_
              rw [upd_same, e0]
            | some ns =>
              have each := allNum_each ea
              have nl : ns.length = rest.length := by
                have := congrArg List.length (allNum_some ea)
                rw [List.length_map, List.length_map] at this
                exact this.symm
              rw [opts_some ea] at hd hd5 ⊢
              have inn : inV .non (ns.map V.int) = false := List.any_eq_false.mpr fun x hx => by
                obtain ⟨z, _, rfl⟩ := List.mem_map.mp hx
                exact Bool.false_ne_true
              rw [inn]
              refine iteF ?_
              have hW5 := s45 _ _ hW4
              have pe : pieceW (wd :: rest) = if wd = "bring" then bringN ns else twoN wd ns := by
                show pieceN wd (allNum rest) = _
                rw [ea, pieceN_some]
              refine ⟨_, rfl, W, _, _, _, rfl, rfl, SqL.of hW5, at_of (j := 0) rfl rfl, rfl, _, rfl, ?_⟩
              rw [dec_str]
              by_cases cb : wd = "bring"
              · rw [decide_eq_true cb]
                rw [if_pos cb] at pe
                refine iteT ?_
                refine ⟨_, rfl, sizeS (by show 0 ≤ 100000; decide), fun em hem => ?_⟩
                refine ⟨N, em, _, rfl, rfl, Same.new hem _ _ hd5, upd_same, _, rfl, ?_⟩
                have s56 := s45.trans (Same.new (o := .lst []) hem)
                by_cases cn : ns = []
                · rw [show (ns.map V.int).isEmpty = true by rw [cn]; rfl]
                  refine iteT (iteT ?_)
                  refine ⟨_, rfl, sizeS (by show 2 ≤ 100000; decide), fun u hu => ?_⟩
                  have pn : pieceW (wd :: rest) = none := by
                    rw [pe]
                    unfold bringN
                    rw [decide_eq_true cn, Bool.true_or, if_pos rfl]
                  refine kN i _ u (bad pn) (sH4.trans (s56.trans (Same.new hu))) ?_
                  rw [upd_same, e0]
                · rw [show (ns.map V.int).isEmpty = false by cases ns with | nil => exact absurd rfl cn | cons _ _ => rfl]
                  refine iteF ?_
                  refine ⟨_, rfl, N, ns, rfl, SqL.of (s56 _ _ hd), List.length_pos_iff.mpr cn, fun mx hm1 hm2 => ⟨_, _, rfl, rfl, _, rfl, ite2 (fun hgt => ?_) fun hle => ?_⟩⟩
                  · have hgt : (255 : Int) < mx := of_decide_eq_true hgt
                    refine ⟨_, rfl, sizeS (by show 2 ≤ 100000; decide), fun u hu => ?_⟩
                    have pn : pieceW (wd :: rest) = none := by
                      rw [pe]
                      unfold bringN
                      rw [show ns.any (fun n => decide (255 < n)) = true from List.any_eq_true.mpr ⟨mx, hm1, decide_eq_true hgt⟩, Bool.or_true, if_pos rfl]
                    refine kN i _ u (bad pn) (sH4.trans (s56.trans (Same.new hu))) ?_
                    rw [upd_same, e0]
                  · have hle : ¬ (255 : Int) < mx := fun z => hle (decide_eq_true z)
                    have b8 : B8 ns := fun n hn => ⟨(each n hn).1, by have := hm2 n hn; omega⟩
                    have pn : pieceW (wd :: rest) = some (.bring ns) := by
                      rw [pe]
                      unfold bringN
                      rw [decide_eq_false cn, Bool.false_or, if_neg]
                      rw [List.any_eq_true]
                      rintro ⟨n, hn, q⟩
                      have q := of_decide_eq_true q
                      have := hm2 n hn
                      omega
                    have hw6 := s56 _ _ hw4
                    refine ⟨_, rfl, .inl ⟨rfl, _, SqL.of hw6⟩, _, rfl, N, ns, rfl, SqL.of (s56 _ _ hd), b8, sizeS (by show 2 ≤ 100000; decide), fun u hu => ?_⟩
                    obtain ⟨g1, g2, g3, g4, g5⟩ := good (.bring ns) _ (.ref u) pn (s56.trans (Same.new hu)) ⟨u, rfl, upd_same⟩
                    refine ⟨p, ws, _, rfl, rfl, g1, sizeL (by omega), ?_⟩
                    exact ⟨_, rows ++ [_], _, _, _, _, rfl, g2, upd_same, g3, g4, g5⟩
              · rw [decide_eq_false cb]
                rw [if_neg cb] at pe
                refine iteF ?_
                refine ⟨_, rfl, _, ns.length, rfl, .inl ⟨_, SqL.of hd5, (List.length_map _).symm⟩, rfl, _, rfl, ite2 (fun h2 => ?_) fun h2 => ?_⟩
                · refine ⟨_, rfl, sizeS (by show 2 ≤ 100000; decide), fun u hu => ?_⟩
                  have l2 : ns.length ≠ 2 := fun z => by
                    rw [z] at h2
                    exact absurd h2 (by decide)
                  refine kN i _ u (bad (by rw [pe]; exact twoN_not l2)) (sH4.trans (s45.trans (Same.new hu))) ?_
                  rw [upd_same, e0]
                · have l2 : ns.length = 2 := by
                    by_cases z : ns.length = 2
                    · exact z
                    · refine absurd ?_ h2
                      rw [decide_eq_false]
                      · rfl
                      · intro e
                        injection e with e
                        omega
                  obtain ⟨a, b, rfl⟩ : ∃ a b, ns = [a, b] := by
                    match ns, l2 with
                    | [a, b], _ => exact ⟨a, b, rfl⟩
                  have hw6 := s45 _ _ hw4
                  refine ⟨_, rfl, .inl ⟨rfl, _, SqL.of hw6⟩, _, rfl, W, _, _, _, rfl, rfl, SqL.of hW5, at_of (j := 0) rfl rfl, _, rfl, N, _, _, _, rfl, rfl, SqL.of hd5, rfl, _, rfl, N, _, _, _, rfl, rfl, SqL.of hd5, rfl, sizeS (by show 3 ≤ 100000; decide), fun u hu => ?_⟩
                  have hcr : wd = "copy" ∨ wd = "run" := by
                    rcases cw with c | c | c
                    · exact .inl c
                    · exact absurd c cb
                    · exact .inr c
                  obtain ⟨r, pn, hrt⟩ : ∃ r : Row, pieceW (wd :: rest) = some r ∧ r.tup = [.str wd, .int a, .int b] := by
                    rw [pe, twoN_two]
                    rcases hcr with rfl | rfl
                    · exact ⟨.copy a b, if_pos rfl, rfl⟩
                    · exact ⟨.run a b, by rw [if_neg (show ¬ (("run" : Str) = "copy") by decide), if_pos rfl], rfl⟩
                  obtain ⟨g1, g2, g3, g4, g5⟩ := good r _ (.ref u) pn (s45.trans (Same.new hu)) ⟨u, rfl, by rw [hrt]; exact upd_same⟩
                  refine ⟨p, ws, _, rfl, rfl, g1, sizeL (by omega), ?_⟩
                  exact ⟨_, rows ++ [_], _, _, _, _, rfl, g2, upd_same, g3, g4, g5⟩
          · have n1 : wd ≠ "copy" := fun z => cw (.inl z)
            have n2 : wd ≠ "bring" := fun z => cw (.inr (.inl z))
            have n3 : wd ≠ "run" := fun z => cw (.inr (.inr z))
            rw [decide_eq_false n1, decide_eq_false n2, decide_eq_false n3]
            refine iteT (iteT ?_)
            refine ⟨_, rfl, sizeS (by show 2 ≤ 100000; decide), fun u hu => ?_⟩
            refine kN i _ u (bad (not_word n2 n1 n3)) (sH4.trans (s45.trans (Same.new hu))) ?_
            rw [upd_same, e0]
      · rintro σ H2 ⟨ws, rows, v3, v4, v5, v6, rfl, s2, hw, hL2, pw, ht⟩
        rw [← rl, List.take_length] at ht
        refine ⟨_, rfl, p, ws, rfl, .inl ⟨SqL.of hw, fun u hu => ⟨sizeS (by show 2 ≤ 100000; decide), fun u2 hu2 => ?_⟩⟩⟩
        have sx := (Same.new (o := .tup ws) hu).trans (Same.new (o := .tup [.str "pieces", .ref u]) hu2)
        exact kS rows _ u2 (.ref u) ht (s2.trans sx) upd_same ⟨u, ws, rfl, Same.new hu2 _ _ upd_same, pairedMap pw fun _ _ x => x.tups (Same.tups sx)⟩
end
/-! ### a text changed a little -/
set_option pp.maxSteps 600
open TL
def rMulStr : R2 := fun x y H Q => ∃ z k, x = .str z ∧ y = .int k ∧ PySem.MulOk z k ∧ Q (.str (Txt.mul z k)) H
theorem op_mulStr {X : Cx} : OpR X (binaryOp .Mult) rMulStr := by
  intro pins s σ H x y v u Q I rx ry h
  obtain ⟨z, k, rfl, rfl, hok, q⟩ := h
  obtain ⟨t, rfl⟩ := rx
  obtain ⟨t', rfl⟩ := ry
  exact PySem.SB.mul hok fun t2 k2 => ⟨.str (Txt.mul z k), H, I.tok _, ⟨t2, rfl⟩, q⟩
theorem slice_take62 (x : Str) (n : Nat) : tl (Txt.slice x none (some (n : Int))) = (tl x).take n := by
  have h := SX.slice_to (a := tl x) (i := (n : Int)) (by omega)
  rw [show SX.S (tl x) = x from mk_tl x, Int.toNat_natCast] at h
  rw [h]
theorem slice_drop62 (x : Str) (n : Nat) : tl (Txt.slice x (some (n : Int)) none) = (tl x).drop n := by
  have h := SX.slice_from (a := tl x) (i := (n : Int)) (by omega)
  rw [show SX.S (tl x) = x from mk_tl x, Int.toNat_natCast] at h
  rw [h]
/-- how long, how many lines behind one another -/
def Fits62 (t : Str) (l c : Nat) : Prop := (tl t).length ≤ l ∧ (tl t).count 10 ≤ c
theorem spl_sum (s : Nat) : ∀ (l acc : List Nat), ((spl [s] 0 acc l).map List.length).sum + l.count s = acc.length + l.length
  | [], acc => by rw [spl_nil]; simp
  | c :: r, acc => by
    by_cases e : c = s
    · have hp : pre [s] (c :: r) = true := by
        unfold pre
        show ([c] == [s]) = true
        rw [e]
        exact beq_self_eq_true _
      have ih := spl_sum s r []
      rw [spl_hit hp]
      show ((acc :: spl [s] 0 [] r).map List.length).sum + _ = _
      rw [List.map_cons, List.sum_cons, e, List.count_cons_self, List.length_cons]
      have ih : ((spl [s] 0 [] r).map List.length).sum + r.count s = 0 + r.length := ih
      omega
    · have hp : pre [s] (c :: r) = false := by
        unfold pre
        show ([c] == [s]) = false
        exact beq_eq_false_iff_ne.mpr fun z => e (by injection z)
      have ih := spl_sum s r (acc ++ [c])
      rw [List.length_append] at ih
      have ih : ((spl [s] 0 (acc ++ [c]) r).map List.length).sum + r.count s = acc.length + 1 + r.length := ih
      rw [spl_miss hp, List.count_cons_of_ne e, List.length_cons]
      omega
theorem lines_sum (t : Str) : (((Txt.split t "\n").map tl).map List.length).sum + (tl t).count 10 = (tl t).length := by
  have e := split_spl t "\n" (by rw [tl_nl]; simp) (kind_ok (by decide +kernel))
  rw [tl_nl] at e
  have h := spl_sum 10 (tl t) []
  rw [← e] at h
  have h : _ = 0 + (tl t).length := h
  omega
theorem join_count : ∀ (ps : List (List Nat)), (∀ p ∈ ps, 10 ∉ p) → (joinL [10] ps).count 10 = ps.length - 1
  | [], _ => rfl
  | [p], h => by show p.count 10 = 0; exact List.count_eq_zero.mpr (h p List.mem_cons_self)
  | p :: q :: r, h => by
    have ih := join_count (q :: r) fun x hx => h x (List.mem_cons_of_mem _ hx)
    show (p ++ ([10] ++ joinL [10] (q :: r))).count 10 = _
    rw [List.count_append, List.count_append, ih, List.count_eq_zero.mpr (h p List.mem_cons_self)]
    show 0 + (1 + ((q :: r).length - 1)) = (p :: q :: r).length - 1
    simp only [List.length_cons]
    omega
theorem join_fits {ys : List Str} {l c : Nat} (h0 : ∀ y ∈ ys, 10 ∉ tl y) (h1 : ((ys.map tl).map List.length).sum + ys.length ≤ l) (h2 : ys.length ≤ c + 1) : Fits62 (Txt.join "\n" ys) l c := by
  have e : tl (Txt.join "\n" ys) = joinL [10] (ys.map tl) := by rw [tl_joinT, tl_nl]
  constructor
  · rw [e]
    have := joinL_len (S := [10]) (ys.map tl)
    rw [List.length_map] at this
    rw [show ([10] : List Nat).length = 1 from rfl] at this
    omega
  · rw [e, join_count _ (fun p hp => by
      obtain ⟨y, hy, rfl⟩ := List.mem_map.mp hp
      exact h0 y hy), List.length_map]
    omega
theorem room_of {ys : List Str} {l : Nat} (h1 : ((ys.map tl).map List.length).sum + ys.length ≤ l) (hl : l ≤ 10000000) : (ys.map (·.length)).sum + ys.length * ("\n" : Str).length ≤ 16777216 := by
  have e1 : ("\n" : Str).length = 1 := by decide +kernel
  have e2 : ys.map (·.length) = (ys.map tl).map List.length := by
    rw [List.map_map]
    exact List.map_congr_left fun y _ => len_tl y
  rw [e1, e2]
  omega
abbrev odd1 : List Str := ["", "copy 1", "copy 1 2 3", "copy 01 2", "run 256 1", "run 5 201", "bring", "bring 256", "bring 1  2"]
abbrev odd2 : List Str := ["bring 1 2 ", "copy 199 2", "copy 0 0", "Copy 1 1", "runs 1 1", "bring 00"]
abbrev odd3 : List Str := ["copy 1000 1", "run 005 1", "copy 012 1"]
theorem odd_each : ((odd1 ++ odd2 ++ odd3).all fun y => decide (10 ∉ tl y) && decide ((tl y).length ≤ 12)) = true := by decide +kernel
theorem odd_at {y : Str} (h : y ∈ odd1 ++ odd2 ++ odd3) : 10 ∉ tl y ∧ (tl y).length ≤ 12 := by
  have := List.all_eq_true.mp odd_each y h
  rw [Bool.and_eq_true, decide_eq_true_iff, decide_eq_true_iff] at this
  exact this
theorem sum_takedrop (ps : List Str) (j : Nat) : (((ps.take j).map tl).map List.length).sum + (((ps.drop j).map tl).map List.length).sum = ((ps.map tl).map List.length).sum := by
  rw [← List.sum_append, ← List.map_append, ← List.map_append, List.take_append_drop]
def spLChanged (K : PySem.W.Frag) : Sp := fun vs H Q _ => ∃ (a : Addr) (ns : List Int) (d : Addr) (t : Str) (l c : Nat), vs = [.ref d, .str t] ∧ Dice K a ns H d ∧ Fits62 t l c ∧ l ≤ 1000000 ∧ c ≤ 10000 ∧ ∀ H' t', But d H H' → Dice K a ns H' d → Fits62 t' (2 * l + 20) (c + 1) → Q (.str t') H'
section
variable {P : Program} {w : World} {K : PySem.W.Frag} {mg : Str → Option Value} {base : Heap}
theorem ok_law_changed (T : All K mg) : FnOk P w K mg base CX0 2 T.d_law_changed.f T.d_law_changed.fd ["_law_row", "_law_text"] (spLChanged K) := by
  have G_law_taken : FnOk P w K mg base CX0 1 T.d_law_taken.f T.d_law_taken.fd ["_law_row", "_law_many"] (spNext K) := ok_law_taken T
  refine T.d_law_changed.F.ok sc_law_changed (fun vs H Q E h => ?_) (fun cdv A outer s H vs Q E hr h => ?_)
  · obtain ⟨_, _, _, _, _, _, rfl, _⟩ := h
    rfl
  · obtain ⟨a, ns, d, t, l, c, rfl, D, ⟨tl1, tc1⟩, l1, c1, k⟩ := h
    refine ⟨_, (pss_cons 
      (ps_par (i := 2) (j := 3) (by rfl) sc_law_changed.nd rfl rfl (by decide) rfl rfl (pa_cons (pe_call G_law_taken (hr.mono (by decide)) rfl T.d_law_taken.m T.d_law_taken.F.kp T.d_law_taken.b .nil pass0 (pa_cons (pv 0) (pa_cons (pe_op op_add (pe_callB call_len (by rfl) T.b_len PySem.boot_len (pa_cons (pv 1) pa_nil)) pe_int) pa_nil))) (pa_cons (pe_call G_law_taken (hr.mono (by decide)) rfl T.d_law_taken.m T.d_law_taken.F.kp T.d_law_taken.b .nil pass0 (pa_cons (pv 0) (pa_cons pe_int pa_nil))) pa_nil)) (by rfl)) (pss_cons 
      (ps_if (pt_cmpR op_lt (pv 3) pe_int (nomark _)) (pss_cons 
      (ps_set (i := 4) sc_law_changed.nd rfl (Or.inl rfl) (pe_op op_mulStr (pe_item_str pe_str (pe_call G_law_taken (hr.mono (by decide)) rfl T.d_law_taken.m T.d_law_taken.F.kp T.d_law_taken.b .nil pass0 (pa_cons (pv 0) (pa_cons pe_int pa_nil))) (fun _ _ => rfl)) (pe_callTy call_int1 (by rfl) T.b_int PyProof.Rows.boot_int (pa_cons (pe_cmpR op_lt (pv 3) pe_int (nomark _)) pa_nil)))) (pss_one 
      (ps_ret (pe_op op_add_str (pe_op op_add_str (pe_slice C8.sl_txt (pv 1) po_none (po_some (pv 2))) (pv 4)) (pe_slice C8.sl_txt (pv 1) (po_some (pe_op op_add (pv 2) (pe_callTy call_int1 (by rfl) T.b_int PyProof.Rows.boot_int (pa_cons (pe_cmpR op_gt (pv 3) pe_int (nomark _)) pa_nil)))) po_none))))) pss_nil) (pss_cons 
      (ps_set (i := 5) sc_law_changed.nd rfl (Or.inl rfl) (pe_m1 PySem.F.slot_str_split PySem.F.type_str_split mt_split (pv 1) pe_str)) (pss_cons 
      (ps_set (i := 6) sc_law_changed.nd rfl (Or.inl rfl) (pe_call G_law_taken (hr.mono (by decide)) rfl T.d_law_taken.m T.d_law_taken.F.kp T.d_law_taken.b .nil pass0 (pa_cons (pv 0) (pa_cons (pe_callB call_len (by rfl) T.b_len PySem.boot_len (pa_cons (pv 5) pa_nil)) pa_nil)))) (pss_cons 
      (ps_if (pt_cmpR op_eq (pv 3) pe_int (nomark _)) (pss_cons 
      (ps_set (i := 7) sc_law_changed.nd rfl (Or.inl rfl) (pe_lst (pa_cons pe_str (pa_cons pe_str (pa_cons pe_str (pa_cons pe_str (pa_cons pe_str (pa_cons pe_str (pa_cons pe_str (pa_cons pe_str (pa_cons pe_str pa_nil))))))))))) (pss_cons 
      (ps_set (i := 7) sc_law_changed.nd rfl (Or.inl rfl) (pe_op op_cat (pv 7) (pe_lst (pa_cons pe_str (pa_cons pe_str (pa_cons pe_str (pa_cons pe_str (pa_cons pe_str (pa_cons pe_str pa_nil))))))))) (pss_cons 
      (ps_set (i := 7) sc_law_changed.nd rfl (Or.inl rfl) (pe_op op_cat (pv 7) (pe_lst (pa_cons pe_str (pa_cons pe_str (pa_cons pe_str pa_nil)))))) (pss_one 
      (ps_ret (pe_m1 PySem.F.slot_str_join PySem.F.type_str_join mt_join pe_str (pe_op op_cat (pe_op op_cat (pe_slice sl_list (pv 5) po_none (po_some (pv 6))) (pe_lst (pa_cons (pe_ix ix_list (pv 7) (pe_call G_law_taken (hr.mono (by decide)) rfl T.d_law_taken.m T.d_law_taken.F.kp T.d_law_taken.b .nil pass0 (pa_cons (pv 0) (pa_cons pe_int pa_nil))) (fun _ _ => rfl)) pa_nil))) (pe_slice sl_list (pv 5) (po_some (pv 6)) po_none)))))))) pss_nil) (pss_cons 
      (ps_set (i := 8) sc_law_changed.nd rfl (Or.inl rfl) (pe_op op_rep (pe_slice sl_list (pv 5) (po_some (pv 6)) (po_some (pe_op op_add (pv 6) pe_int))) (pe_op op_mul pe_int (pe_call G_law_taken (hr.mono (by decide)) rfl T.d_law_taken.m T.d_law_taken.F.kp T.d_law_taken.b .nil pass0 (pa_cons (pv 0) (pa_cons pe_int pa_nil)))))) (pss_one 
      (ps_ret (pe_m1 PySem.F.slot_str_join PySem.F.type_str_join mt_join pe_str (pe_op op_cat (pe_op op_cat (pe_slice sl_list (pv 5) po_none (po_some (pv 6))) (pv 8)) (pe_slice sl_list (pv 5) (po_some (pe_op op_add (pe_op op_add (pv 6) pe_int) (pe_op op_mod (pe_callTy call_int1 (by rfl) T.b_int PyProof.Rows.boot_int (pa_cons (pv 3) pa_nil)) pe_int))) po_none))))))))))), ?_⟩
    have len : t.length = (tl t).length := len_tl t
    have sz : t.length ≤ sizeLine := by rw [sizeLine_eq]; omega
    refine ⟨_, rfl, _, rfl, _, t.length, rfl, ⟨sz, rfl⟩, _, _, rfl, rfl, a, ns, d, (t.length : Int) + 1, rfl, D, by omega, by omega, fun H1 at' b1 D1 p0 p1 => ?_⟩
    refine ⟨_, rfl, a, ns, d, 6, rfl, D1, by decide, by decide, fun H2 wy b2 D2 w0 w1 => ⟨_, _, rfl, ?_⟩⟩
    have b12 := b1.trans b2
    obtain ⟨n, rfl⟩ : ∃ n : Nat, at' = (n : Int) := ⟨at'.toNat, by omega⟩
    refine ⟨_, rfl, _, _, rfl, rfl, _, rfl, ite2 (fun h3 => ?_) fun h3 => ?_⟩
    · refine ⟨_, rfl, a, ns, d, 10, rfl, D2, by decide, by decide, fun H3 r b3 D3 r0 r1 => ?_⟩
      obtain ⟨c0, hc0⟩ : ∃ c0, (" 0129cbr-\n" : Str).cps[r.toNat]? = some c0 := by
        have : r = 0 ∨ r = 1 ∨ r = 2 ∨ r = 3 ∨ r = 4 ∨ r = 5 ∨ r = 6 ∨ r = 7 ∨ r = 8 ∨ r = 9 := by omega
        rcases this with rfl | rfl | rfl | rfl | rfl | rfl | rfl | rfl | rfl | rfl <;> exact ⟨_, rfl⟩
      have l10 : ((" 0129cbr-\n" : Str).length : Int) = 10 := by decide +kernel
      refine ⟨_, _, c0, rfl, rfl, r0, by omega, by rw [l10]; exact r1, hc0, ?_⟩
      refine ⟨_, rfl, _, _, rfl, rfl, .inr ⟨_, rfl, ?_⟩⟩
      have b13 := b12.trans b3
      obtain ⟨kk, hkk, kk01⟩ : ∃ kk : Int, (if decide (wy < 2) = true then (1 : Int) else 0) = kk ∧ (kk = 0 ∨ kk = 1) := ⟨_, rfl, by split <;> simp⟩
      rw [show (if decide (wy < 2) = true then (1 : Int) else 0) = kk from hkk]
      have hmul : PySem.MulOk ⟨#[c0]⟩ kk := by
        rcases kk01 with rfl | rfl
        · exact ⟨by decide, fun h => absurd (by decide) h, fun h => absurd (by decide) h⟩
        · exact ⟨by decide, fun _ h => by simp at h, fun _ h => by simp at h⟩
      refine ⟨_, _, rfl, rfl, hmul, ?_⟩
      obtain ⟨sg, hsg, sgl⟩ : ∃ sg : Str, Txt.mul ⟨#[c0]⟩ kk = sg ∧ (tl sg).length ≤ 1 := by
        refine ⟨_, rfl, ?_⟩
        rcases kk01 with rfl | rfl
        · exact Nat.zero_le _
        · exact Nat.le_refl 1
      rw [hsg]
      have sgc : (tl sg).count 10 ≤ 1 := Nat.le_trans List.count_le_length sgl
      have sll : sg.length ≤ 1 := by rw [len_tl]; exact sgl
      refine ⟨_, rfl, _, rfl, _, rfl, _, rfl, sz, ?_⟩
      have t1l : (tl (Txt.slice t none (some (n : Int)))).length ≤ t.length := by rw [slice_take62, List.length_take, len]; exact Nat.min_le_right _ _
      refine ⟨_, rfl, _, _, rfl, rfl, by rw [len_tl (Txt.slice t none (some (n : Int))), sizeLine_eq]; omega, ?_⟩
      refine ⟨_, rfl, _, rfl, _, rfl, _, _, rfl, rfl, .inr ⟨_, rfl, ?_⟩⟩
      obtain ⟨jj, hjj, jj01⟩ : ∃ jj : Nat, (if decide (0 < wy) = true then (1 : Int) else 0) = (jj : Int) ∧ jj ≤ 1 := by
        by_cases q : 0 < wy
        · exact ⟨1, by rw [decide_eq_true q]; rfl, Nat.le_refl 1⟩
        · exact ⟨0, by rw [decide_eq_false q]; rfl, Nat.zero_le 1⟩
      rw [show (if decide (0 < wy) = true then (1 : Int) else 0) = (jj : Int) from hjj]
      refine ⟨_, _, rfl, rfl, _, rfl, _, rfl, sz, ?_⟩
      have ex : Txt.slice t (some ((n : Int) + (jj : Int))) none = Txt.slice t (some ((n + jj : Nat) : Int)) none := by rw [Int.natCast_add]
      rw [ex]
      have t2l : (tl (Txt.slice t (some ((n + jj : Nat) : Int)) none)).length ≤ t.length := by rw [slice_drop62, List.length_drop, len]; omega
      refine ⟨_, _, rfl, rfl, by rw [Str.length_append, len_tl (Txt.slice t none (some (n : Int))), len_tl (Txt.slice t (some ((n + jj : Nat) : Int)) none), sizeLine_eq]; omega, ?_⟩
      refine k H3 _ b13 D3 ?_
      have et : tl (Txt.slice t none (some (n : Int)) ++ sg ++ Txt.slice t (some ((n + jj : Nat) : Int)) none) = (tl t).take n ++ tl sg ++ (tl t).drop (n + jj) := by
        rw [tl_append, tl_append, slice_take62, slice_drop62]
      have dl : ((tl t).drop (n + jj)).length ≤ ((tl t).drop n).length := by rw [List.length_drop, List.length_drop]; omega
      have dc : ((tl t).drop (n + jj)).count 10 ≤ ((tl t).drop n).count 10 := by
        rw [← List.drop_drop]
        exact (List.drop_sublist _ _).count_le _
      have full : ((tl t).take n).length + ((tl t).drop n).length = (tl t).length := by
        rw [← List.length_append, List.take_append_drop]
      have fullc : ((tl t).take n).count 10 + ((tl t).drop n).count 10 = (tl t).count 10 := by
        rw [← List.count_append, List.take_append_drop]
      constructor
      · rw [et, List.length_append, List.length_append]
        omega
      · rw [et, List.count_append, List.count_append]
        omega
    · obtain ⟨hne, hps, hpl⟩ := split_nl t
      have hsum := lines_sum t
      refine ⟨_, rfl, ⟨_, rfl⟩, _, _, rfl, rfl, by decide +kernel, by rw [sizeLine_eq]; omega, fun L hL => ?_⟩
      have hL3 : (upd H2 L (.lst ((Txt.split t "\n").map V.str))) L = some (.lst (strsV (Txt.split t "\n"))) := upd_same
      have D3 := D2.same (Same.new (o := .lst ((Txt.split t "\n").map V.str)) hL)
      have b3 : But d H (upd H2 L (.lst ((Txt.split t "\n").map V.str))) := b12.trans (But.new hL)
      have nLd : L ≠ d := D2.ne hL
      show (_ : Prop)
      generalize upd H2 L (.lst ((Txt.split t "\n").map V.str)) = H3 at hL3 D3 b3 ⊢
      generalize Txt.split t "\n" = ps at hne hps hpl hsum hL3
      have psl : (strsV ps).length = ps.length := by unfold strsV; rw [List.length_map]
      have ps1 : 1 ≤ ps.length := List.length_pos_iff.mpr hne
      refine ⟨_, rfl, _, rfl, _, ps.length, rfl, .inl ⟨_, SqL.of hL3, psl.symm⟩, a, ns, d, ps.length, rfl, D3, by omega, by omega, fun H4 kq b4 D4 k0 k1 => ?_⟩
      obtain ⟨j, rfl⟩ : ∃ j : Nat, kq = (j : Int) := ⟨kq.toNat, by omega⟩
      have jl : j < ps.length := by omega
      have hL4 : H4 L = some (.lst (strsV ps)) := b4 L _ nLd hL3
      have b34 := b3.trans b4
      have tk : ((strsV ps).take j) = strsV (ps.take j) := by unfold strsV; rw [List.map_take]
      have ctk : cutV (strsV ps) none (some (j : Int)) = strsV (ps.take j) := by
        rw [← tk]
        unfold cutV
        rw [HT.sIx_none, HT.sIx_nat, List.drop_zero, Nat.sub_zero, Nat.min_eq_left (by omega)]
      have cdr : ∀ m : Nat, cutV (strsV ps) (some (m : Int)) none = strsV (ps.drop m) := fun m => by
        unfold cutV
        rw [HT.sIx_none, HT.sIx_nat]
        unfold strsV
        rw [List.map_drop, List.length_map]
        by_cases q : m ≤ ps.length
        · rw [Nat.min_eq_left q]
          exact List.take_of_length_le (by rw [List.length_drop, List.length_map]; exact Nat.le_refl _)
        · rw [Nat.min_eq_right (by omega), List.drop_of_length_le (by rw [List.length_map]; exact Nat.le_refl _), List.drop_of_length_le (by rw [List.length_map]; omega), List.take_nil]
      have td := sum_takedrop ps j
      refine ⟨_, rfl, rfl, _, rfl, ite2 (fun h5 => ?_) fun h5 => ?_⟩
      · refine ⟨sizeS (by show 9 ≤ 100000; decide), fun o1 ho1 => ?_⟩
        refine ⟨_, rfl, sizeS (by show 6 ≤ 100000; decide), fun o2 ho2 => ⟨o1, o2, strsV odd1, strsV odd2, rfl, rfl, Same.new ho2 _ _ upd_same, upd_same, sizeS (by show 15 ≤ 100000; decide), fun o3 ho3 => ?_⟩⟩
        refine ⟨_, rfl, sizeS (by show 3 ≤ 100000; decide), fun o4 ho4 => ⟨o3, o4, strsV odd1 ++ strsV odd2, strsV odd3, rfl, rfl, Same.new ho4 _ _ upd_same, upd_same, sizeS (by show 18 ≤ 100000; decide), fun o5 ho5 => ?_⟩⟩
        have s45 := ((Same.new (o := .lst (strsV odd1)) ho1).trans (Same.new (o := .lst (strsV odd2)) ho2)).trans ((Same.new (o := .lst (strsV odd1 ++ strsV odd2)) ho3).trans ((Same.new (o := .lst (strsV odd3)) ho4).trans (Same.new (o := .lst (strsV odd1 ++ strsV odd2 ++ strsV odd3)) ho5)))
        have ho5' : (upd (upd (upd (upd (upd H4 o1 (.lst (strsV odd1))) o2 (.lst (strsV odd2))) o3 (.lst (strsV odd1 ++ strsV odd2))) o4 (.lst (strsV odd3))) o5 (.lst (strsV odd1 ++ strsV odd2 ++ strsV odd3))) o5 = some (.lst (strsV (odd1 ++ odd2 ++ odd3))) := upd_same
        show (_ : Prop)
        generalize hH5 : upd (upd (upd (upd (upd H4 o1 _) o2 _) o3 _) o4 _) o5 _ = H5
        have s45 : Same H4 H5 := by rw [← hH5]; exact s45
        have ho5' : H5 o5 = some (.lst (strsV (odd1 ++ odd2 ++ odd3))) := by rw [← hH5]; exact ho5'
        clear hH5
        have D5 := D4.same s45
        have hL5 := s45 _ _ hL4
        have no5d : o5 ≠ d := fun z => by
          obtain ⟨xs, hx⟩ := D5.is
          rw [z, hx] at ho5'
          injection ho5' with ho5'
          injection ho5' with ho5'
          cases ho5'
        refine ⟨⟨_, rfl⟩, _, rfl, _, rfl, (j : Int), rfl, L, _, rfl, SqL.of hL5, fun q1 hq1 => ?_⟩
        rw [ctk]
        have D6 := D5.same (Same.new (o := .lst (strsV (ps.take j))) hq1)
        have nq1d : q1 ≠ d := D5.ne hq1
        refine ⟨_, rfl, _, rfl, a, ns, d, 18, rfl, D6, by decide, by decide, fun H7 r b7 D7 r0 r1 => ?_⟩
        have ho7 : H7 o5 = some (.lst (strsV (odd1 ++ odd2 ++ odd3))) := b7 _ _ no5d (Same.new hq1 _ _ ho5')
        have hq7 : H7 q1 = some (.lst (strsV (ps.take j))) := b7 _ _ nq1d upd_same
        have hL7 : H7 L = some (.lst (strsV ps)) := b7 _ _ nLd (Same.new hq1 _ _ hL5)
        have b07 : But d H H7 := b34.trans ((Same.but s45).trans ((But.new hq1).trans b7))
        obtain ⟨y, hy⟩ : ∃ y, (odd1 ++ odd2 ++ odd3)[r.toNat]? = some y := ⟨_, List.getElem?_eq_getElem (show r.toNat < 18 by omega)⟩
        have hat : atI (strsV (odd1 ++ odd2 ++ odd3)) r = some (.str y) := at_of (j := r.toNat) (by omega) (by unfold strsV; rw [List.getElem?_map, hy]; rfl)
        obtain ⟨y1, y2⟩ := odd_at (List.mem_of_getElem? hy)
        refine ⟨o5, _, _, _, rfl, rfl, SqL.of ho7, hat, sizeS (by show 1 ≤ 100000; decide), fun q2 hq2 => ?_⟩
        have tl8 : (ps.take j).length ≤ ps.length := by rw [List.length_take]; omega
        have dl8 : (ps.drop j).length = ps.length - j := List.length_drop
        have sv : ∀ l : List Str, (strsV l).length = l.length := fun l => by unfold strsV; rw [List.length_map]
        refine ⟨q1, q2, strsV (ps.take j), strsV [y], rfl, rfl, Same.new hq2 _ _ hq7, upd_same, by rw [sv, sv, sizeLine_eq]; show _ + 1 ≤ _; omega, fun q3 hq3 => ?_⟩
        have hL8 := Same.new (o := .lst (strsV (ps.take j) ++ strsV [y])) hq3 _ _ (Same.new (o := .lst (strsV [y])) hq2 _ _ hL7)
        refine ⟨_, rfl, _, rfl, (j : Int), rfl, L, _, rfl, SqL.of hL8, fun q4 hq4 => ?_⟩
        rw [cdr j]
        refine ⟨q3, q4, strsV (ps.take j) ++ strsV [y], strsV (ps.drop j), rfl, rfl, Same.new hq4 _ _ upd_same, upd_same, by rw [List.length_append, sv, sv, sv, sizeLine_eq]; show _ + 1 + _ ≤ _; omega, fun q5 hq5 => ?_⟩
        have tot : ((((ps.take j) ++ [y] ++ ps.drop j).map tl).map List.length).sum + ((ps.take j) ++ [y] ++ ps.drop j).length ≤ 2 * l + 20 := by
          rw [List.map_append, List.map_append, List.map_append, List.map_append, List.sum_append, List.sum_append, List.length_append, List.length_append, List.length_take]
          show _ + ((tl y).length + 0) + _ + (_ + 1 + _) ≤ _
          omega
        have free : ∀ x ∈ (ps.take j) ++ [y] ++ ps.drop j, 10 ∉ tl x := fun x hx => by
          rcases List.mem_append.mp hx with hx | hx
          · rcases List.mem_append.mp hx with hx | hx
            · exact (hps x (List.mem_of_mem_take hx)).2
            · rw [List.mem_singleton.mp hx]; exact y1
          · exact (hps x (List.mem_of_mem_drop hx)).2
        have evs : strsV (ps.take j) ++ strsV [y] ++ strsV (ps.drop j) = ((ps.take j) ++ [y] ++ ps.drop j).map V.str := by
          unfold strsV
          rw [List.map_append, List.map_append]
        refine ⟨_, q5, (ps.take j) ++ [y] ++ ps.drop j, rfl, rfl, .inl (SqL.of (by rw [upd_same, evs])), room_of tot (by omega), ?_⟩
        refine k _ _ ((b07.trans ((But.new hq2).trans (But.new hq3))).trans ((But.new hq4).trans (But.new hq5))) ((((D7.same (Same.new hq2)).same (Same.new hq3)).same (Same.new hq4)).same (Same.new hq5)) (join_fits free tot ?_)
        rw [List.length_append, List.length_append, List.length_take]
        show _ + 1 + _ ≤ _
        omega
      · have e01 : (j : Int) + 1 = ((j + 1 : Nat) : Int) := by omega
        have cone : cutV (strsV ps) (some ((j : Int))) (some ((j : Int) + 1)) = strsV ((ps.drop j).take 1) := by
          rw [e01]
          unfold cutV
          rw [HT.sIx_nat, HT.sIx_nat]
          unfold strsV
          rw [List.length_map, Nat.min_eq_left (by omega), Nat.min_eq_left (by omega), List.map_take, List.map_drop, show j + 1 - j = 1 by omega]
        refine ⟨_, rfl, _, rfl, (j : Int), rfl, _, rfl, _, _, rfl, rfl, (j : Int) + 1, rfl, L, _, rfl, SqL.of hL4, fun q1 hq1 => ?_⟩
        rw [cone]
        have D6 := D4.same (Same.new (o := .lst (strsV ((ps.drop j).take 1))) hq1)
        have nq1d : q1 ≠ d := D4.ne hq1
        refine ⟨_, rfl, a, ns, d, 2, rfl, D6, by decide, by decide, fun H7 r b7 D7 r0 r1 => ?_⟩
        have hq7 : H7 q1 = some (.lst (strsV ((ps.drop j).take 1))) := b7 _ _ nq1d upd_same
        have hL7 : H7 L = some (.lst (strsV ps)) := b7 _ _ nLd (Same.new hq1 _ _ hL4)
        have b07 : But d H H7 := b34.trans ((But.new hq1).trans b7)
        have one : ((ps.drop j).take 1).length = 1 := by rw [List.length_take, List.length_drop]; omega
        have sv : ∀ l : List Str, (strsV l).length = l.length := fun l => by unfold strsV; rw [List.length_map]
        refine ⟨_, _, rfl, rfl, .inl ⟨by decide, by decide⟩, ?_⟩
        refine ⟨q1, 2 * r, _, rfl, rfl, hq7, by omega, by omega, by rw [sv, one, sizeLine_eq]; omega, fun q2 hq2 => ?_⟩
        obtain ⟨tw, htw, twl, tws, twf⟩ : ∃ tw : List Str, (List.replicate (2 * r).toNat (strsV ((ps.drop j).take 1))).flatten = strsV tw ∧ tw.length ≤ 2 ∧ ((tw.map tl).map List.length).sum ≤ 2 * ((((ps.drop j).take 1).map tl).map List.length).sum ∧ ∀ x ∈ tw, x ∈ ps := by
          have hx : ∀ x ∈ (ps.drop j).take 1, x ∈ ps := fun x hx => List.mem_of_mem_drop (List.mem_of_mem_take hx)
          have : r = 0 ∨ r = 1 := by omega
          rcases this with rfl | rfl
          · exact ⟨[], rfl, Nat.zero_le _, Nat.zero_le _, fun x hx => (List.not_mem_nil hx).elim⟩
          · refine ⟨(ps.drop j).take 1 ++ (ps.drop j).take 1, ?_, by rw [List.length_append, one]; decide, ?_, fun x h => ?_⟩
            · show strsV _ ++ (strsV _ ++ []) = _
              unfold strsV
              rw [List.append_nil, List.map_append]
            · rw [List.map_append, List.map_append, List.sum_append]
              omega
            · rcases List.mem_append.mp h with h | h
              · exact hx x h
              · exact hx x h
        rw [htw]
        have hq2' : (upd H7 q2 (.lst (strsV tw))) q2 = some (.lst (strsV tw)) := upd_same
        have hL8 := Same.new (o := .lst (strsV tw)) hq2 _ _ hL7
        have D8 := D7.same (Same.new (o := .lst (strsV tw)) hq2)
        have b08 : But d H (upd H7 q2 (.lst (strsV tw))) := b07.trans (But.new hq2)
        show (_ : Prop)
        generalize upd H7 q2 (.lst (strsV tw)) = H8 at hq2' hL8 D8 b08 ⊢
        refine ⟨⟨_, rfl⟩, _, rfl, _, rfl, (j : Int), rfl, L, _, rfl, SqL.of hL8, fun q3 hq3 => ?_⟩
        rw [ctk]
        have tl8 : (ps.take j).length ≤ ps.length := by rw [List.length_take]; omega
        refine ⟨_, rfl, q3, q2, strsV (ps.take j), strsV tw, rfl, rfl, upd_same, Same.new hq3 _ _ hq2', by rw [sv, sv, sizeLine_eq]; omega, fun q4 hq4 => ?_⟩
        have hL9 := Same.new (o := .lst (strsV (ps.take j) ++ strsV tw)) hq4 _ _ (Same.new (o := .lst (strsV (ps.take j))) hq3 _ _ hL8)
        refine ⟨_, rfl, _, rfl, _, _, rfl, rfl, _, rfl, .inl ⟨_, rfl, _, _, rfl, rfl, (by show (0 : Int) < 2; decide), ?_⟩⟩
        obtain ⟨bb, hbb⟩ : ∃ bb : Nat, wy % 2 = (bb : Int) := ⟨(wy % 2).toNat, by omega⟩
        have em : (j : Int) + 1 + wy % 2 = ((j + 1 + bb : Nat) : Int) := by omega
        refine ⟨_, _, rfl, rfl, (j : Int) + 1 + wy % 2, rfl, L, _, rfl, SqL.of hL9, fun q5 hq5 => ?_⟩
        rw [em, cdr (j + 1 + bb)]
        have dl8 : (ps.drop (j + 1 + bb)).length ≤ ps.length - (j + 1) := by rw [List.length_drop]; omega
        refine ⟨q4, q5, strsV (ps.take j) ++ strsV tw, strsV (ps.drop (j + 1 + bb)), rfl, rfl, Same.new hq5 _ _ upd_same, upd_same, by rw [List.length_append, sv, sv, sv, sizeLine_eq]; omega, fun q6 hq6 => ?_⟩
        have hdrop : (((ps.drop (j + 1 + bb)).map tl).map List.length).sum + ((((ps.drop j).take 1).map tl).map List.length).sum ≤ (((ps.drop j).map tl).map List.length).sum := by
          have e1 := sum_takedrop (ps.drop j) 1
          have e2 := sum_takedrop ((ps.drop j).drop 1) bb
          rw [List.drop_drop, List.drop_drop] at e2
          rw [List.drop_drop] at e1
          rw [show j + 1 + bb = j + (1 + bb) by omega] at *
          omega
        have tot : ((((ps.take j) ++ tw ++ ps.drop (j + 1 + bb)).map tl).map List.length).sum + ((ps.take j) ++ tw ++ ps.drop (j + 1 + bb)).length ≤ 2 * l + 20 := by
          rw [List.map_append, List.map_append, List.map_append, List.map_append, List.sum_append, List.sum_append, List.length_append, List.length_append, List.length_take]
          omega
        have free : ∀ x ∈ (ps.take j) ++ tw ++ ps.drop (j + 1 + bb), 10 ∉ tl x := fun x hx => by
          rcases List.mem_append.mp hx with hx | hx
          · rcases List.mem_append.mp hx with hx | hx
            · exact (hps x (List.mem_of_mem_take hx)).2
            · exact (hps x (twf x hx)).2
          · exact (hps x (List.mem_of_mem_drop hx)).2
        have evs : strsV (ps.take j) ++ strsV tw ++ strsV (ps.drop (j + 1 + bb)) = ((ps.take j) ++ tw ++ ps.drop (j + 1 + bb)).map V.str := by
          unfold strsV
          rw [List.map_append, List.map_append]
        refine ⟨_, q6, (ps.take j) ++ tw ++ ps.drop (j + 1 + bb), rfl, rfl, .inl (SqL.of (by rw [upd_same, evs])), room_of tot (by omega), ?_⟩
        refine k _ _ ((b08.trans ((But.new hq3).trans (But.new hq4))).trans ((But.new hq5).trans (But.new hq6))) ((((D8.same (Same.new hq3)).same (Same.new hq4)).same (Same.new hq5)).same (Same.new hq6)) (join_fits free tot ?_)
        rw [List.length_append, List.length_append, List.length_take]
        omega
end
/-! ### all stays but tables -/
theorem Tups.ext {H H' : Hp} (e : LamX.ExtN H H') : Tups H H' := fun b xs hb => e _ _ hb fun ps z => by cases z
theorem Dice.ext {K : PySem.W.Frag} {a d : Addr} {ns : List Int} {H H' : Hp} (D : Dice K a ns H d) (e : LamX.ExtN H H') : Dice K a ns H' d := by
  obtain ⟨g1, g2, pp, mm, gg, g3, g4⟩ := D
  refine ⟨?_, g2, pp, mm, gg, g3, e _ _ g4 fun ps z => by cases z⟩
  rcases g1 with (g1 | ⟨og, g1⟩) | g1
  · exact .inl (.inl (e _ _ g1 fun ps z => by cases z))
  · exact .inl (.inr ⟨og, e _ _ g1 fun ps z => by cases z⟩)
  · exact .inr g1
section
open LamX
theorem Tabs.same {T : List (Addr × Str)} {H H' : Hp} (t : Tabs T H) (e : Same H H') : Tabs T H' := t.ext fun b o h => e b o h
theorem Tabs.but {T : List (Addr × Str)} {H H' : Hp} {d : Addr} {xs : List V} (t : Tabs T H) (hd : H d = some (.lst xs)) (e : But d H H') : Tabs T H' := fun p hp => by
  obtain ⟨ps, h1, h2, h3⟩ := t p hp
  refine ⟨ps, e.at hd h1 (fun z => by cases z), h2, fun pos cv hc => ?_⟩
  obtain ⟨c, e1, e2⟩ := h3 pos cv hc
  exact ⟨c, e1, e.at hd e2 (fun z => by unfold CodeO at z; cases z)⟩
end
theorem dp_ref3 {K : PySem.W.Frag} {H : Hp} {p : Addr} {x y : Str} {i : Int} (h : H p = some (.tup [.str x, .str y, .int i])) : Dp K H (.ref p) (.tuple [.str x, .str y, .int i]) := .tup (SqT.of h) (.cons (.str _) (.cons (.str _) (.cons (.int _) .nil)))
theorem sh_ref3 (x y : Str) (i : Int) (hx : PyData.strOk x = true := by decide +kernel) (hy : PyData.strOk y = true := by decide +kernel) : SeqAt.shaped (.tuple [.str x, .str y, .int i]) = true := by simp [hx, hy, SeqAt.shaped, PyData.canLay0, PyData.canLayAll0, PyData.depth, PyData.depthAll]
theorem eqv_ref3 (x y : Str) (i : Int) (hx : PyData.strOk x = true := by decide +kernel) (hy : PyData.strOk y = true := by decide +kernel) : PyData.eqv (.tuple [.str x, .str y, .int i]) (.tuple [.str x, .str y, .int i]) = true := SeqAt.eqv_refl _ (SeqAt.canLay_of_shaped (sh_ref3 x y i hx hy))
/-! ### isinstance of a caught error, count of flat items, fields of a caught error -/
open PySem.W in
def rIsX (K : Frag) (a : Addr) (cls : Value) (d : Option Addr) : List V → Hp → VK → Prop := fun xs H Q => ∃ (D : Addr) (c : V) (cv : Value) (b : Bool), cls = .ref D ∧ ExcC K D ∧ (d = none ∨ ∃ dd fs, d = some dd ∧ H dd = some (.xd fs)) ∧ xs = [.ref a, c] ∧ (∀ u, RelV c u → u = cv) ∧ kitOne K (.ref D) cv = some b ∧ Q (.bl b) H
open PySem.W in
theorem call_isX {X : Cx} {a : Addr} {oe : Obj} {cls : Value} {d : Option Addr} {pn : List (Addr × Obj)} (hz : Zc cls d oe) (hf : ∃ vs, oe.data = .fields vs) : CallR (X.suite a ((a, oe) :: pn)) (.builtin "isinstance") (rIsX X.K a cls d) := by
  intro pins s σ H xs us Q I r h
  obtain ⟨D, c, cv, b, rfl, C, hd, rfl, hcv, e, q⟩ := h
  cases r with
  | cons rx rr =>
    cases rr with
    | cons rt rr =>
      cases rr
      cases rx
      have ec := hcv _ rt
      subst ec
      obtain ⟨hget, _⟩ := I.pin (a, oe) (List.mem_append.mpr (.inl List.mem_cons_self))
      obtain ⟨vs, hv⟩ := hf
      obtain ⟨od, J⟩ : ∃ od, InstAt s.heap a oe D od := by
        rcases hd with rfl | ⟨dd, fs, rfl, hxd⟩
        · exact ⟨none, hget, hz.1, by unfold notCls; rw [hv] <;> rfl, by rw [hz.2]; trivial⟩
        · have hx : ObjOk X.prog X.w H s.heap dd (.xd fs) := I.hok dd _ hxd
          obtain ⟨mA, hns, hr⟩ := hx
          obtain ⟨od, ho, hl⟩ := lookIn_ns hns
          exact ⟨some od, hget, hz.1, by unfold notCls; rw [hv] <;> rfl, by rw [hz.2]; exact ho⟩
      obtain ⟨cdD, hcD, _⟩ := any_some C.hd
      exact kia_one (kitx_exc (by rw [hcD]; rfl) C.hg C.hk C.hs C.ha C.hn C.ht C.hm) I.kIn J e (fun z => nomatch z) fun tk => ⟨.bl b, H, I.kept (t' := tk) fun _ _ z => z, rfl, q⟩
def rCountF (K : PySem.W.Frag) : V → List V → Hp → VK → Prop := fun x xs H Q => ∃ (a : Addr) (ys : List V) (y : V), x = .ref a ∧ xs = [y] ∧ SqL K H a ys ∧ flatV y = true ∧ ys.all flatV = true ∧ Q (.int (ys.countP fun z => eqV z y : Nat)) H
theorem count_eqU {y : V} : ∀ {ys : List V} {us : List Value}, Vals ys us → ys.all flatV = true → us.countP (eqU y) = ys.countP fun z => eqV z y
  | _, _, .nil, _ => rfl
  | z :: ys, u :: us, .cons r t, f => by
    rw [List.all_cons, Bool.and_eq_true] at f
    rw [List.countP_cons, List.countP_cons, count_eqU t f.2, eqU_of r f.1]
theorem mt_countF {X : Cx} : MtR X "list.count" (rCountF X.K) := by
  intro pins s σ H x xs v us Q I rx rxs h
  obtain ⟨a, ys, y, rfl, rfl, hs, fy, fys, q⟩ := h
  cases rx
  cases rxs with
  | cons ry rt =>
    rename_i uy ut
    cases rt
    obtain ⟨its, rv, ⟨⟨cls, dd, data, sl⟩, n, ho, hc, hdn, hd⟩, hlen⟩ := I.list hs
    simp only at hc hd
    subst hc hd
    refine call_meets PySem.F.slot_list_count ⟨_, ho, rfl⟩ PySem.F.entry_list_count (PySem.F.args_list_count_2 _ _)
      (SeqAt.list_countAt a its.toArray n dd sl uy (eqU y)) ⟨ho, fun u' hu' => mem_eqAt ry fy rv fys u' (by simpa using hu'), ?_⟩
    refine ⟨.int (ys.countP fun z => eqV z y : Nat), H, I.tok _, ⟨s.toks, ?_⟩, q⟩
    show Value.int ((its.toArray.toList.countP (eqU y) : Nat) : Int) s.toks = _
    rw [show its.toArray.toList = its from rfl, count_eqU rv fys]
def tXfA (K : PySem.W.Frag) (a : Addr) (cls : Value) (d : Option Addr) (f : Str) (te : TE) : TE := fun σ H Q => te σ H fun x H1 => x = .ref a ∧ ∃ C, cls = .ref C ∧ XfC K C ∧ PySem.W.findIn K (.ref C) f = some none ∧ ∃ (dd : Addr) (fs : List (Str × V)) (v : V), d = some dd ∧ H1 dd = some (.xd fs) ∧ fs.lookup f = some v ∧ Q v H1
section
variable {X : Cx} {a : Addr} {oe : Obj} {pn : List (Addr × Obj)}
theorem pe_xfA {cls : Value} {d : Option Addr} {e : Expr} {te : TE} {pos : Pos} {n : Str}
    (hz : Zc cls d oe) (hf : ∃ vs, oe.data = .fields vs) (he : PE (X.suite a ((a, oe) :: pn)) e te) (hb : attributeBase e n X.env (eval e X.env) = eval e X.env := by rfl) :
    PE (X.suite a ((a, oe) :: pn)) (.Attribute e n pos) (tXfA X.K a cls d n te) := by
  refine ⟨fun pins s σ H Q I h => ?_⟩
  refine attr_of hb (thn (he.run pins s σ H _ I h) fun u s1 hh => ?_)
  obtain ⟨x, H1, I1, rx, ex, C, ec, T, hno, dd, fs, v, ed, ea, l, q⟩ := hh
  subst ex
  obtain rfl : u = Value.ref a := rx
  subst ec
  subst ed
  obtain ⟨ha, _⟩ := I1.pin (a, oe) (List.mem_append_left _ List.mem_cons_self)
  obtain ⟨vs, hd⟩ := hf
  have hx : ObjOk X.prog X.w H1 s1.heap dd (.xd fs) := I1.hok dd _ ea
  obtain ⟨mA, hns, hr⟩ := hx
  obtain ⟨od, ho, hl⟩ := lookIn_ns hns
  obtain ⟨u, hu, ru⟩ := RelO.some_of (v := v) (o := mA n) (by rw [← l]; exact hr n)
  have J : PySem.W.InstAt s1.heap a oe C (some od) := ⟨ha, hz.1, by unfold PySem.W.notCls; rw [hd] <;> rfl, by rw [hz.2]; exact ho⟩
  exact HandSPX.exc_get I1.kIn J T.ga T.gg T.exC (PySem.W.findObj_own T.hdC hno rfl (by rw [hl, hu])) (handed_of ru) ⟨v, H1, I1.tok _, ru, q⟩
theorem mtcS : MtR (X.suite a ((a, oe) :: pn)) "list.count" (rCountF X.K) := mt_countF
theorem mtiS : MtR (X.suite a ((a, oe) :: pn)) "list.index" (rIndex X.K) := mt_index
theorem opinS : OpR (X.suite a ((a, oe) :: pn)) (compareOp .In) (rIn X.K false) := op_in_seq
theorem opcatS : OpR (X.suite a ((a, oe) :: pn)) (binaryOp .Add) (rCatA X.K) := op_catA
theorem ixlS : IxR (X.suite a ((a, oe) :: pn)) (rIxL X.K) := ix_list
theorem pe_bmS {T : String} {name : Str} {id : String} {r : V → List V → Hp → VK → Prop} {o e : Expr} {es : List Expr} {to : TE} {t : TA} {apos cpos : Pos} (pa : PlainAttrs T) (slot : Slot T name id) (hty : typeOf (.builtin id) = pure (.type "method_descriptor")) (hm : MtR (X.suite a ((a, oe) :: pn)) id r)
    (ho : PE (X.suite a ((a, oe) :: pn)) o to) (ha : PA (X.suite a ((a, oe) :: pn)) (e :: es) t)
    (hbase : attributeBase o name X.env (eval o X.env) = eval o X.env := by rfl)
    (hfew : ((backTo cpos (starEach (e :: es) X.env)).all (fun x => !x.1) && (backToKw cpos (keywordEach [] X.env)).all (fun x => x.1.isSome)
      && decide ((e :: es).length + ([] : List Keyword).length + (if ([] : List Keyword).isEmpty then 0 else 1) < 30)) = true := by rfl)
    (hline : (apos.endLine == cpos.line) = true := by rfl)
    (he : starEach (e :: es) X.env = (false, eval e X.env) :: starEach es X.env := by rfl) (hpl : (backTo cpos (starEach es X.env)).any (·.1) = false := by rfl) :
    PE (X.suite a ((a, oe) :: pn)) (.Call (.Attribute o name apos) (e :: es) [] cpos) (tBM X.K T r to t) := pe_bm pa slot hty hm ho ha hbase hfew hline he hpl
end
/-! ### _law_word: a refusal told -/
structure ToldC {K : PySem.W.Frag} {mg : Str → Option Value} (T : All K mg) (C : Addr) (me : Nat) : Prop where
  ec : ExcC K C
  xf : XfC K C
  exm : PySem.W.exmOne K (.ref C) (.ref T.k_PatchError) = some true
  ve : PySem.W.kitOne K (.ref C) (.type "ValueError") = some true
  i_BadDeed : PySem.W.kitOne K (.ref C) (.ref T.k_BadDeed) = some (decide (me = 0))
  i_BadImage : PySem.W.kitOne K (.ref C) (.ref T.k_BadImage) = some (decide (me = 1))
  i_BadText : PySem.W.kitOne K (.ref C) (.ref T.k_BadText) = some (decide (me = 2))
  i_Halted : PySem.W.kitOne K (.ref C) (.ref T.k_Halted) = some (decide (me = 3))
  i_BadPatch : PySem.W.kitOne K (.ref C) (.ref T.k_BadPatch) = some (decide (me = 4))
  i_Around : PySem.W.kitOne K (.ref C) (.ref T.k_Around) = some (decide (me = 5))
  i_Asleep : PySem.W.kitOne K (.ref C) (.ref T.k_Asleep) = some (decide (me = 6))
  i_Awake : PySem.W.kitOne K (.ref C) (.ref T.k_Awake) = some (decide (me = 7))
  i_BadCount : PySem.W.kitOne K (.ref C) (.ref T.k_BadCount) = some (decide (me = 8))
  i_BadEdition : PySem.W.kitOne K (.ref C) (.ref T.k_BadEdition) = some (decide (me = 9))
  i_BadName : PySem.W.kitOne K (.ref C) (.ref T.k_BadName) = some (decide (me = 10))
  i_InUse : PySem.W.kitOne K (.ref C) (.ref T.k_InUse) = some (decide (me = 11))
  i_Known : PySem.W.kitOne K (.ref C) (.ref T.k_Known) = some (decide (me = 12))
  i_NoDevice : PySem.W.kitOne K (.ref C) (.ref T.k_NoDevice) = some (decide (me = 13))
  i_NoName : PySem.W.kitOne K (.ref C) (.ref T.k_NoName) = some (decide (me = 14))
  i_TooMany : PySem.W.kitOne K (.ref C) (.ref T.k_TooMany) = some (decide (me = 15))
set_option pp.maxSteps 600
/-- what the law is told of a refusal -/
def TellW {K : PySem.W.Frag} {mg : Str → Option Value} (T : All K mg) (cls : Value) (d : Option Addr) (H' : Hp) (Q : VK) : Prop :=
  ∃ (j : Nat) (C : Addr) (dd : Addr) (i : Int) (f wd : Str), cls = .ref C ∧ ToldC T C j ∧ ((j = 2 ∧ f = "row" ∧ wd = "text") ∨ (j = 4 ∧ f = "piece" ∧ wd = "patch")) ∧ PySem.W.findIn K (.ref C) f = some none ∧ d = some dd ∧ H' dd = some (.xd [(f, .int i)]) ∧
    ∀ H'' p, Same H' H'' → H' p = none → H'' p = some (.tup [.str wd, .int i]) → Q (.ref p) H''
def TToldW {K : PySem.W.Frag} {mg : Str → Option Value} (T : All K mg) : (XK → Hp → VK → Prop) → Hp → VK → Prop := fun tl H Q => tl (fun cls d H' => TellW T cls d H' Q) H fun _ H' => Q .non H'
abbrev sorts (j : Nat) (a n : Nat) : List V := (List.range' a n).map fun k => V.bl (decide (j = k))
theorem notw : ¬ (HT.sIx 2 0 none = 0 ∧ HT.sIx 2 2 (some 1) = 2) := by decide
theorem takes_len {X : Cx} {W : WX} (tk : Takes X W) : Takes X (fun cls d σ H => σ.length = X.N.length → W cls d σ H) := fun u s' ⟨a, B, sI, pins, σ, H, cls, d, e, I, nb, up, sky, na, os, ag, w⟩ =>
  tk u s' ⟨a, B, sI, pins, σ, H, cls, d, e, I, nb, up, sky, na, os, ag, w I.len⟩
theorem sltS {X : Cx} {a : Addr} {oe : Obj} {pn : List (Addr × Obj)} : SlR (X.suite a ((a, oe) :: pn)) (rSlT X.K) := sl_tup
theorem told_w {X : Cx} {g : Addr} {cdg : Value} {q : Str} (T : All X.K X.mg) :
    LamX.GivesTo X ["_law_work", "e", "_law_kinds", "_law_at", "_law_words"] "_law_word" (defScope s_law_word) g cdg (defBody s_law_word) "_law_work" q (TToldW T) := by
  intro f c' s H Q tl act hc h
  refine ⟨_, pss_cons (ps_try_as (X := (cxOf C8.CX0 X.prog X.w X.K X.mg X.base ["_law_work", "e", "_law_kinds", "_law_at", "_law_words"] "_law_word" (defScope s_law_word) g cdg X.A X.stack s H C8.E0).nox) (i := 1) (c := .ref T.k_PatchError)
      (tb := fun W D σ H => ∃ Ech : XK, (∀ cls d σ' H', Ech cls d H' → σ'.length = 5 → W cls d σ' H') ∧ σ[0]? = some (some (.ref f)) ∧ H c' = some (LamX.CodeO c' q) ∧ tl Ech H fun _ H' => D.nx σ H')
      rfl rfl sc_law_word.nd rfl rfl ⟨rfl, by decide, .inl T.m_PatchError⟩ LamX.takes0 (fun W pn xe tk _ => ?_) (fun a oe cls d pn hz hf => (pss_cons 
      (ps_set (i := 2) sc_law_word.nd rfl (Or.inl rfl) (pe_lst (pa_cons (pe_callB (call_isX hz hf) (by rfl) T.b_isinstance (by decide +kernel) (pa_cons (pv 1) (pa_cons (pe_glob (v := .ref T.k_BadDeed) rfl T.m_BadDeed rfl) pa_nil))) (pa_cons (pe_callB (call_isX hz hf) (by rfl) T.b_isinstance (by decide +kernel) (pa_cons (pv 1) (pa_cons (pe_glob (v := .ref T.k_BadImage) rfl T.m_BadImage rfl) pa_nil))) (pa_cons (pe_callB (call_isX hz hf) (by rfl) T.b_isinstance (by decide +kernel) (pa_cons (pv 1) (pa_cons (pe_glob (v := .ref T.k_BadText) rfl T.m_BadText rfl) pa_nil))) (pa_cons (pe_callB (call_isX hz hf) (by rfl) T.b_isinstance (by decide +kernel) (pa_cons (pv 1) (pa_cons (pe_glob (v := .ref T.k_Halted) rfl T.m_Halted rfl) pa_nil))) pa_nil)))))) (pss_cons 
      (ps_set (i := 2) sc_law_word.nd rfl (Or.inl rfl) (pe_op op_cat (pv 2) (pe_lst (pa_cons (pe_callB (call_isX hz hf) (by rfl) T.b_isinstance (by decide +kernel) (pa_cons (pv 1) (pa_cons (pe_glob (v := .ref T.k_BadPatch) rfl T.m_BadPatch rfl) pa_nil))) (pa_cons (pe_callB (call_isX hz hf) (by rfl) T.b_isinstance (by decide +kernel) (pa_cons (pv 1) (pa_cons (pe_glob (v := .ref T.k_Around) rfl T.m_Around rfl) pa_nil))) (pa_cons (pe_callB (call_isX hz hf) (by rfl) T.b_isinstance (by decide +kernel) (pa_cons (pv 1) (pa_cons (pe_glob (v := .ref T.k_Asleep) rfl T.m_Asleep rfl) pa_nil))) (pa_cons (pe_callB (call_isX hz hf) (by rfl) T.b_isinstance (by decide +kernel) (pa_cons (pv 1) (pa_cons (pe_glob (v := .ref T.k_Awake) rfl T.m_Awake rfl) pa_nil))) pa_nil))))))) (pss_cons 
      (ps_set (i := 2) sc_law_word.nd rfl (Or.inl rfl) (pe_op op_cat (pv 2) (pe_lst (pa_cons (pe_callB (call_isX hz hf) (by rfl) T.b_isinstance (by decide +kernel) (pa_cons (pv 1) (pa_cons (pe_glob (v := .ref T.k_BadCount) rfl T.m_BadCount rfl) pa_nil))) (pa_cons (pe_callB (call_isX hz hf) (by rfl) T.b_isinstance (by decide +kernel) (pa_cons (pv 1) (pa_cons (pe_glob (v := .ref T.k_BadEdition) rfl T.m_BadEdition rfl) pa_nil))) (pa_cons (pe_callB (call_isX hz hf) (by rfl) T.b_isinstance (by decide +kernel) (pa_cons (pv 1) (pa_cons (pe_glob (v := .ref T.k_BadName) rfl T.m_BadName rfl) pa_nil))) pa_nil)))))) (pss_cons 
      (ps_set (i := 2) sc_law_word.nd rfl (Or.inl rfl) (pe_op op_cat (pv 2) (pe_lst (pa_cons (pe_callB (call_isX hz hf) (by rfl) T.b_isinstance (by decide +kernel) (pa_cons (pv 1) (pa_cons (pe_glob (v := .ref T.k_InUse) rfl T.m_InUse rfl) pa_nil))) (pa_cons (pe_callB (call_isX hz hf) (by rfl) T.b_isinstance (by decide +kernel) (pa_cons (pv 1) (pa_cons (pe_glob (v := .ref T.k_Known) rfl T.m_Known rfl) pa_nil))) (pa_cons (pe_callB (call_isX hz hf) (by rfl) T.b_isinstance (by decide +kernel) (pa_cons (pv 1) (pa_cons (pe_glob (v := .ref T.k_NoDevice) rfl T.m_NoDevice rfl) pa_nil))) (pa_cons (pe_callB (call_isX hz hf) (by rfl) T.b_isinstance (by decide +kernel) (pa_cons (pv 1) (pa_cons (pe_glob (v := .ref T.k_NoName) rfl T.m_NoName rfl) pa_nil))) pa_nil))))))) (pss_cons 
      (ps_set (i := 2) sc_law_word.nd rfl (Or.inl rfl) (pe_op op_cat (pv 2) (pe_lst (pa_cons (pe_callB (call_isX hz hf) (by rfl) T.b_isinstance (by decide +kernel) (pa_cons (pv 1) (pa_cons (pe_glob (v := .ref T.k_TooMany) rfl T.m_TooMany rfl) pa_nil))) pa_nil)))) (pss_cons 
      (ps_if (PW.pt (pw_or (pt_cmpR op_ne (pe_bmS PySem.F.plainAttrs_list PySem.F.slot_list_count PySem.F.type_list_count mtcS (pv 2) (pa_cons pe_bl pa_nil)) pe_int (nomark _)) (pw_or1 (pt_not (pt_val (pe_callB (call_isX hz hf) (by rfl) T.b_isinstance (by decide +kernel) (pa_cons (pv 1) (pa_cons (pe_bltn (v := .ty "ValueError") (by rfl) T.b_ValueError (by decide +kernel) rfl) pa_nil)))))))) (pss_one 
      (ps_ret (pe_tup (pa_cons pe_str pa_nil)))) pss_nil) (pss_cons 
      (ps_set (i := 3) sc_law_word.nd rfl (Or.inl rfl) (pe_bmS PySem.F.plainAttrs_list PySem.F.slot_list_index PySem.F.type_list_index mtiS (pv 2) (pa_cons pe_bl pa_nil))) (pss_cons 
      (ps_if (pt_cmpR op_lt (pv 3) pe_int (nomark _)) (pss_one 
      (ps_ret (pe_ifExp (pt_cmpR op_eq (pv 3) pe_int (nomark _)) (pe_tup (pa_cons pe_str (pa_cons (pe_xfA hz hf (pv 1)) pa_nil))) (pe_tup (pa_cons pe_str (pa_cons (pe_xfA hz hf (pv 1)) pa_nil)))))) pss_nil) (pss_cons 
      (ps_if (pt_cmpR op_lt (pv 3) pe_int (nomark _)) (pss_one 
      (ps_ret (pe_op opcatS (pe_slice sltS (pe_ix ixlS (pe_lst (pa_cons (pe_tup (pa_cons pe_str (pa_cons (pv 1) pa_nil))) (pa_cons (pe_tup (pa_cons pe_str (pa_cons (pv 1) pa_nil))) (pa_cons (pe_tup (pa_cons pe_str (pa_cons (pv 1) pa_nil))) pa_nil)))) (pe_op op_sub (pv 3) pe_int) (fun _ _ => rfl)) po_none (po_some pe_int)) (pe_tup (pa_cons (pe_ifExp (pt_cmpR op_eq (pv 3) pe_int (nomark _)) (pe_xfA hz hf (pv 1)) (pe_xfA hz hf (pv 1))) pa_nil))))) pss_nil) (pss_cons 
      (ps_set (i := 4) sc_law_word.nd rfl (Or.inl rfl) (pe_lst (pa_cons pe_str (pa_cons pe_str (pa_cons pe_str (pa_cons pe_str (pa_cons pe_str (pa_cons pe_str (pa_cons pe_str (pa_cons pe_str (pa_cons pe_str (pa_cons pe_str (pa_cons pe_str pa_nil))))))))))))) (pss_one 
      (ps_ret (pe_tup (pa_cons (pe_ix ixlS (pv 4) (pe_op op_sub (pv 3) pe_int) (fun _ _ => rfl)) pa_nil)))))))))))))))) (pss_one (ps_ret pe_non)), ?_⟩
  · refine ⟨fun pins s' σ H' D I h' => ?_⟩
    obtain ⟨Ech, hW, h1, h2, h3⟩ := h'
    exact (pss_one (ps_expr (act _ pn xe Ech _ _ (takes_len tk) fun cls d σ' H' h hl => hW cls d σ' H' h hl))).run pins s' σ H' D I ⟨h1, h2, h3⟩
  · refine ⟨_, fun cls d σ' H' h hl => ?_, rfl, hc, h⟩
    obtain ⟨j, C, dd, i, f0, wd, rfl, TC, hj, hno, rfl, hxd, k⟩ := h
    refine ⟨true, TC.exm, fun _ a0 ha0 => ?_, fun q => Bool.noConfusion q⟩
    obtain ⟨x0, x1, x2, x3, x4, rfl⟩ : ∃ x0 x1 x2 x3 x4, σ' = [x0, x1, x2, x3, x4] := by
      match σ', hl with
      | [x0, x1, x2, x3, x4], _ => exact ⟨_, _, _, _, _, rfl⟩
    have hd : ∀ H2, Same H' H2 → (some dd : Option Addr) = none ∨ ∃ d2 fs, (some dd : Option Addr) = some d2 ∧ H2 d2 = some (.xd fs) := fun H2 s2 => .inr ⟨dd, _, rfl, s2 _ _ hxd⟩
    rcases hj with ⟨rfl, rfl, rfl⟩ | ⟨rfl, rfl, rfl⟩
    ·
      have s0 := Same.refl H'
      refine ⟨_, rfl, C, _, _, _, rfl, TC.ec, hd _ s0, rfl, fun u hu => hu, TC.i_BadDeed, _, rfl, C, _, _, _, rfl, TC.ec, hd _ s0, rfl, fun u hu => hu, TC.i_BadImage, _, rfl, C, _, _, _, rfl, TC.ec, hd _ s0, rfl, fun u hu => hu, TC.i_BadText, _, rfl, C, _, _, _, rfl, TC.ec, hd _ s0, rfl, fun u hu => hu, TC.i_Halted, sizeS (by show 4 ≤ 100000; decide), fun l1 hl1 => ?_⟩
      have t1 := s0.trans (Same.new (o := .lst (sorts 2 0 4)) hl1)
      refine ⟨_, rfl, _, rfl, C, _, _, _, rfl, TC.ec, hd _ t1, rfl, fun u hu => hu, TC.i_BadPatch, _, rfl, C, _, _, _, rfl, TC.ec, hd _ t1, rfl, fun u hu => hu, TC.i_Around, _, rfl, C, _, _, _, rfl, TC.ec, hd _ t1, rfl, fun u hu => hu, TC.i_Asleep, _, rfl, C, _, _, _, rfl, TC.ec, hd _ t1, rfl, fun u hu => hu, TC.i_Awake, sizeS (by show 4 ≤ 100000; decide), fun k2 hk2 => ⟨l1, k2, _, _, rfl, rfl, Same.new hk2 _ _ upd_same, upd_same, sizeS (by show 8 ≤ 100000; decide), fun l2 hl2 => ?_⟩⟩
      have t2 := (t1.trans (Same.new (o := .lst (sorts 2 4 4)) hk2)).trans (Same.new (o := .lst (sorts 2 0 8)) hl2)
      refine ⟨_, rfl, _, rfl, C, _, _, _, rfl, TC.ec, hd _ t2, rfl, fun u hu => hu, TC.i_BadCount, _, rfl, C, _, _, _, rfl, TC.ec, hd _ t2, rfl, fun u hu => hu, TC.i_BadEdition, _, rfl, C, _, _, _, rfl, TC.ec, hd _ t2, rfl, fun u hu => hu, TC.i_BadName, sizeS (by show 3 ≤ 100000; decide), fun k3 hk3 => ⟨l2, k3, _, _, rfl, rfl, Same.new hk3 _ _ upd_same, upd_same, sizeS (by show 11 ≤ 100000; decide), fun l3 hl3 => ?_⟩⟩
      have t3 := (t2.trans (Same.new (o := .lst (sorts 2 8 3)) hk3)).trans (Same.new (o := .lst (sorts 2 0 11)) hl3)
      refine ⟨_, rfl, _, rfl, C, _, _, _, rfl, TC.ec, hd _ t3, rfl, fun u hu => hu, TC.i_InUse, _, rfl, C, _, _, _, rfl, TC.ec, hd _ t3, rfl, fun u hu => hu, TC.i_Known, _, rfl, C, _, _, _, rfl, TC.ec, hd _ t3, rfl, fun u hu => hu, TC.i_NoDevice, _, rfl, C, _, _, _, rfl, TC.ec, hd _ t3, rfl, fun u hu => hu, TC.i_NoName, sizeS (by show 4 ≤ 100000; decide), fun k4 hk4 => ⟨l3, k4, _, _, rfl, rfl, Same.new hk4 _ _ upd_same, upd_same, sizeS (by show 15 ≤ 100000; decide), fun l4 hl4 => ?_⟩⟩
      have t4 := (t3.trans (Same.new (o := .lst (sorts 2 11 4)) hk4)).trans (Same.new (o := .lst (sorts 2 0 15)) hl4)
      refine ⟨_, rfl, _, rfl, C, _, _, _, rfl, TC.ec, hd _ t4, rfl, fun u hu => hu, TC.i_TooMany, sizeS (by show 1 ≤ 100000; decide), fun k5 hk5 => ⟨l4, k5, _, _, rfl, rfl, Same.new hk5 _ _ upd_same, upd_same, sizeS (by show 16 ≤ 100000; decide), fun l5 hl5 => ?_⟩⟩
      have t5 := (t4.trans (Same.new (o := .lst (sorts 2 15 1)) hk5)).trans (Same.new (o := .lst (sorts 2 0 16)) hl5)
      have hl5' := upd_same (H := upd (upd (upd (upd (upd (upd (upd (upd H' l1 (.lst (sorts 2 0 4))) k2 (.lst (sorts 2 4 4))) l2 (.lst (sorts 2 0 8))) k3 (.lst (sorts 2 8 3))) l3 (.lst (sorts 2 0 11))) k4 (.lst (sorts 2 11 4))) l4 (.lst (sorts 2 0 15))) k5 (.lst (sorts 2 15 1))) (a := l5) (o := HO.lst (sorts 2 0 16))
      refine ⟨_, rfl, .inl ⟨rfl, _, SqL.of hl5'⟩, l5, sorts 2 0 16, _, rfl, rfl, SqL.of hl5', rfl, rfl, rfl, _, rfl, ite2 (fun h => absurd h (by decide)) fun _ => ?_⟩
      refine ⟨_, rfl, C, _, _, _, rfl, TC.ec, hd _ t5, rfl, fun u hu => hu, TC.ve, _, rfl, ite2 (fun h => absurd h (by decide)) fun _ => ?_⟩
      refine ⟨_, rfl, .inl ⟨rfl, _, SqL.of hl5'⟩, l5, sorts 2 0 16, _, 2, V.bl true, rfl, rfl, SqL.of hl5', rfl, rfl, rfl, rfl, fun m z hm hz => ?_, ?_⟩
      · have : m = 0 ∨ m = 1 := by omega
        rcases this with rfl | rfl <;> (injection hz with hz; subst hz; rfl)
      refine ⟨_, rfl, _, _, rfl, rfl, _, rfl, ite2 (fun h => absurd h (by decide)) fun _ => ?_⟩
      refine ⟨_, rfl, _, _, rfl, rfl, _, rfl, ite2 (fun _ => ?_) fun h => absurd (by decide) h⟩
      refine ⟨_, rfl, sizeS (by show 2 ≤ 100000; decide), fun p1 hp1 => ⟨_, rfl, sizeS (by show 2 ≤ 100000; decide), fun p2 hp2 => ⟨_, rfl, sizeS (by show 2 ≤ 100000; decide), fun p3 hp3 => ⟨sizeS (by show 3 ≤ 100000; decide), fun L hL => ?_⟩⟩⟩⟩
      have u1 := t5.trans (((Same.new (o := .tup [.str "text", .ref a0]) hp1).trans (Same.new (o := .tup [.str "halted", .ref a0]) hp2)).trans ((Same.new (o := .tup [.str "patch", .ref a0]) hp3).trans (Same.new (o := .lst [.ref p1, .ref p2, .ref p3]) hL)))
      refine ⟨_, rfl, _, _, rfl, rfl, L, _, _, _, rfl, rfl, SqL.of upd_same, rfl, 1, rfl, p1, [.str "text", .ref a0], rfl, SqT.of (((Same.new hp2).trans ((Same.new hp3).trans (Same.new hL))) _ _ upd_same), notw, fun y1 hy1 => ?_⟩
      have u2 := u1.trans (Same.new (o := .tup [.str "text"]) hy1)
      refine ⟨_, rfl, rfl, _, rfl, ite2 (fun h => absurd h (by decide)) fun _ => ?_⟩
      refine ⟨_, rfl, rfl, C, rfl, TC.xf, hno, dd, _, _, rfl, u2 _ _ hxd, rfl, sizeS (by show 1 ≤ 100000; decide), fun pz hpz => ?_⟩
      refine ⟨y1, pz, [.str "text"], [.int i], rfl, rfl, SqT.of (Same.new hpz _ _ upd_same), SqT.of upd_same, sizeS (by show 1 + 1 ≤ 100000; decide), fun h => absurd h (by simp), fun _ h => absurd h (by simp), fun _ _ y hy => ?_⟩
      have u3 := u2.trans (Same.new (o := .tup [.int i]) hpz)
      exact k _ y (u3.trans (Same.new hy)) (Same.free u3 hy) upd_same
    ·
      have s0 := Same.refl H'
      refine ⟨_, rfl, C, _, _, _, rfl, TC.ec, hd _ s0, rfl, fun u hu => hu, TC.i_BadDeed, _, rfl, C, _, _, _, rfl, TC.ec, hd _ s0, rfl, fun u hu => hu, TC.i_BadImage, _, rfl, C, _, _, _, rfl, TC.ec, hd _ s0, rfl, fun u hu => hu, TC.i_BadText, _, rfl, C, _, _, _, rfl, TC.ec, hd _ s0, rfl, fun u hu => hu, TC.i_Halted, sizeS (by show 4 ≤ 100000; decide), fun l1 hl1 => ?_⟩
      have t1 := s0.trans (Same.new (o := .lst (sorts 4 0 4)) hl1)
      refine ⟨_, rfl, _, rfl, C, _, _, _, rfl, TC.ec, hd _ t1, rfl, fun u hu => hu, TC.i_BadPatch, _, rfl, C, _, _, _, rfl, TC.ec, hd _ t1, rfl, fun u hu => hu, TC.i_Around, _, rfl, C, _, _, _, rfl, TC.ec, hd _ t1, rfl, fun u hu => hu, TC.i_Asleep, _, rfl, C, _, _, _, rfl, TC.ec, hd _ t1, rfl, fun u hu => hu, TC.i_Awake, sizeS (by show 4 ≤ 100000; decide), fun k2 hk2 => ⟨l1, k2, _, _, rfl, rfl, Same.new hk2 _ _ upd_same, upd_same, sizeS (by show 8 ≤ 100000; decide), fun l2 hl2 => ?_⟩⟩
      have t2 := (t1.trans (Same.new (o := .lst (sorts 4 4 4)) hk2)).trans (Same.new (o := .lst (sorts 4 0 8)) hl2)
      refine ⟨_, rfl, _, rfl, C, _, _, _, rfl, TC.ec, hd _ t2, rfl, fun u hu => hu, TC.i_BadCount, _, rfl, C, _, _, _, rfl, TC.ec, hd _ t2, rfl, fun u hu => hu, TC.i_BadEdition, _, rfl, C, _, _, _, rfl, TC.ec, hd _ t2, rfl, fun u hu => hu, TC.i_BadName, sizeS (by show 3 ≤ 100000; decide), fun k3 hk3 => ⟨l2, k3, _, _, rfl, rfl, Same.new hk3 _ _ upd_same, upd_same, sizeS (by show 11 ≤ 100000; decide), fun l3 hl3 => ?_⟩⟩
      have t3 := (t2.trans (Same.new (o := .lst (sorts 4 8 3)) hk3)).trans (Same.new (o := .lst (sorts 4 0 11)) hl3)
      refine ⟨_, rfl, _, rfl, C, _, _, _, rfl, TC.ec, hd _ t3, rfl, fun u hu => hu, TC.i_InUse, _, rfl, C, _, _, _, rfl, TC.ec, hd _ t3, rfl, fun u hu => hu, TC.i_Known, _, rfl, C, _, _, _, rfl, TC.ec, hd _ t3, rfl, fun u hu => hu, TC.i_NoDevice, _, rfl, C, _, _, _, rfl, TC.ec, hd _ t3, rfl, fun u hu => hu, TC.i_NoName, sizeS (by show 4 ≤ 100000; decide), fun k4 hk4 => ⟨l3, k4, _, _, rfl, rfl, Same.new hk4 _ _ upd_same, upd_same, sizeS (by show 15 ≤ 100000; decide), fun l4 hl4 => ?_⟩⟩
      have t4 := (t3.trans (Same.new (o := .lst (sorts 4 11 4)) hk4)).trans (Same.new (o := .lst (sorts 4 0 15)) hl4)
      refine ⟨_, rfl, _, rfl, C, _, _, _, rfl, TC.ec, hd _ t4, rfl, fun u hu => hu, TC.i_TooMany, sizeS (by show 1 ≤ 100000; decide), fun k5 hk5 => ⟨l4, k5, _, _, rfl, rfl, Same.new hk5 _ _ upd_same, upd_same, sizeS (by show 16 ≤ 100000; decide), fun l5 hl5 => ?_⟩⟩
      have t5 := (t4.trans (Same.new (o := .lst (sorts 4 15 1)) hk5)).trans (Same.new (o := .lst (sorts 4 0 16)) hl5)
      have hl5' := upd_same (H := upd (upd (upd (upd (upd (upd (upd (upd H' l1 (.lst (sorts 4 0 4))) k2 (.lst (sorts 4 4 4))) l2 (.lst (sorts 4 0 8))) k3 (.lst (sorts 4 8 3))) l3 (.lst (sorts 4 0 11))) k4 (.lst (sorts 4 11 4))) l4 (.lst (sorts 4 0 15))) k5 (.lst (sorts 4 15 1))) (a := l5) (o := HO.lst (sorts 4 0 16))
      refine ⟨_, rfl, .inl ⟨rfl, _, SqL.of hl5'⟩, l5, sorts 4 0 16, _, rfl, rfl, SqL.of hl5', rfl, rfl, rfl, _, rfl, ite2 (fun h => absurd h (by decide)) fun _ => ?_⟩
      refine ⟨_, rfl, C, _, _, _, rfl, TC.ec, hd _ t5, rfl, fun u hu => hu, TC.ve, _, rfl, ite2 (fun h => absurd h (by decide)) fun _ => ?_⟩
      refine ⟨_, rfl, .inl ⟨rfl, _, SqL.of hl5'⟩, l5, sorts 4 0 16, _, 4, V.bl true, rfl, rfl, SqL.of hl5', rfl, rfl, rfl, rfl, fun m z hm hz => ?_, ?_⟩
      · have : m = 0 ∨ m = 1 ∨ m = 2 ∨ m = 3 := by omega
        rcases this with rfl | rfl | rfl | rfl <;> (injection hz with hz; subst hz; rfl)
      refine ⟨_, rfl, _, _, rfl, rfl, _, rfl, ite2 (fun h => absurd h (by decide)) fun _ => ?_⟩
      refine ⟨_, rfl, _, _, rfl, rfl, _, rfl, ite2 (fun _ => ?_) fun h => absurd (by decide) h⟩
      refine ⟨_, rfl, sizeS (by show 2 ≤ 100000; decide), fun p1 hp1 => ⟨_, rfl, sizeS (by show 2 ≤ 100000; decide), fun p2 hp2 => ⟨_, rfl, sizeS (by show 2 ≤ 100000; decide), fun p3 hp3 => ⟨sizeS (by show 3 ≤ 100000; decide), fun L hL => ?_⟩⟩⟩⟩
      have u1 := t5.trans (((Same.new (o := .tup [.str "text", .ref a0]) hp1).trans (Same.new (o := .tup [.str "halted", .ref a0]) hp2)).trans ((Same.new (o := .tup [.str "patch", .ref a0]) hp3).trans (Same.new (o := .lst [.ref p1, .ref p2, .ref p3]) hL)))
      refine ⟨_, rfl, _, _, rfl, rfl, L, _, _, _, rfl, rfl, SqL.of upd_same, rfl, 1, rfl, p3, [.str "patch", .ref a0], rfl, SqT.of ((Same.new hL) _ _ upd_same), notw, fun y1 hy1 => ?_⟩
      have u2 := u1.trans (Same.new (o := .tup [.str "patch"]) hy1)
      refine ⟨_, rfl, rfl, _, rfl, ite2 (fun _ => ?_) fun h => absurd (by decide) h⟩
      refine ⟨_, rfl, rfl, C, rfl, TC.xf, hno, dd, _, _, rfl, u2 _ _ hxd, rfl, sizeS (by show 1 ≤ 100000; decide), fun pz hpz => ?_⟩
      refine ⟨y1, pz, [.str "patch"], [.int i], rfl, rfl, SqT.of (Same.new hpz _ _ upd_same), SqT.of upd_same, sizeS (by show 1 + 1 ≤ 100000; decide), fun h => absurd h (by simp), fun _ h => absurd h (by simp), fun _ _ y hy => ?_⟩
      have u3 := u2.trans (Same.new (o := .tup [.int i]) hpz)
      exact k _ y (u3.trans (Same.new hy)) (Same.free u3 hy) upd_same
def lamQ : Str := ("law" : Str) ++ ".<locals>." ++ "<lambda>"
def spLawT (K : PySem.W.Frag) (PL : Addr) : Sp := fun vs H Q _ => ∃ (a : Addr) (ns : List Int), vs = [.ref a] ∧ SqL K H a (ns.map V.int) ∧ ns.length ≤ 63 ∧ H PL = some (.tbl #[]) ∧ ∀ H', Q (.bl true) H'
/-! ### read, of a text that tells a good patch -/
set_option pp.maxSteps 600
open TL
def spReadG : Sp := fun vs H Q _ => ∃ (t : Str) (rows : List Row), vs = [.str t] ∧ t.length ≤ 3900000 ∧ (linesW t).length ≤ 20000 ∧ rowsW t = rows.map some ∧ Good rows ∧ ∀ H' v, Same H H' → PatchAt H' v rows → Q v H'
section
variable {P : Program} {w : World} {K : PySem.W.Frag} {mg : Str → Option Value} {base : Heap}
theorem ok_read (T : All K mg) : FnOk P w K mg base CX0 4 T.d_read.f T.d_read.fd ["text"] spReadG := by
  have G_check_patch : FnOk P w K mg base CX0 3 T.d_check_patch.f T.d_check_patch.fd ["patch"] spCheckPatchA := ok_check_patch T
  have G_rows_of : FnOk P w K mg base CX0 1 T.d_rows_of.f T.d_rows_of.fd ["text"] spRowsX := ok_rows_of T
  have G_piece_of : FnOk P w K mg base CX0 3 T.d_piece_of.f T.d_piece_of.fd ["words"] spPieceX := ok_piece_of T
  refine T.d_read.F.ok sc_read (fun vs H Q E h => ?_) (fun cdv A outer s H vs Q E hr h => ?_)
  · obtain ⟨_, _, rfl, _⟩ := h
    rfl
  · obtain ⟨t, rows, rfl, tlen, lfew, er, hG, kG⟩ := h
    refine ⟨_, (pss_cons 
      (ps_setLc (i := 1) (own := [("row", 2)]) (g := gName 2) (tt := tYes) rfl sc_read.nd rfl rfl (sw_true rfl rfl rfl (by decide +kernel)) (pi_list (pe_call G_rows_of (hr.mono (by decide)) rfl T.d_rows_of.m T.d_rows_of.F.kp T.d_rows_of.b .nil pass0 (pa_cons (pv 0) pa_nil))) (blkOk_by (own := [("row", 2)]) (N := ["text", "pieces", "row"]) (sc := defScope s_read) (by decide +kernel)) (fun _ _ _ _ _ => (pg_name (i := 2) sc_read.nd rfl (Or.inl rfl))) (fun _ _ _ _ _ => pts_nil) (fun _ _ _ _ _ => (pe_call G_piece_of (hr.mono (by decide)) rfl T.d_piece_of.m T.d_piece_of.F.kp T.d_piece_of.b .nil pass0 (pa_cons (pe_m1 PySem.F.slot_str_split PySem.F.type_str_split mt_split (pv 2) pe_str) pa_nil)))) (pss_cons 
      (ps_if (pt_cmpR (op_noneOpt hr.units) pe_non (pv 1) (by with_unfolding_all rfl)) (pss_one ps_never) pss_nil) (pss_cons 
      (ps_expr (pe_call G_check_patch (hr.mono (by decide)) rfl T.d_check_patch.m T.d_check_patch.F.kp T.d_check_patch.b .nil pass0 (pa_cons (pv 1) pa_nil))) (pss_one 
      (ps_ret (pe_callTy call_tuple_of (by rfl) T.b_tuple (by decide +kernel) (pa_cons (pv 1) pa_nil))))))), ?_⟩
    refine ⟨_, rfl, t, rfl, tlen, fun H1 l s1 hl hl1 => ?_⟩
    have ll : (strsV (linesW t)).length = (linesW t).length := by unfold strsV; rw [List.length_map]
    refine ⟨l, rfl, ⟨_, SqL.of hl1⟩, fun D hD => lc_list (K := K) (a := l) (xs := strsV (linesW t)) (fun i H2 => ∃ ws : List V, Same H1 H2 ∧ H2 D = some (.lst ws) ∧ Paired (PieceO H2) ws ((rowsW t).take i))
      ⟨[], Same.new hD, upd_same, .nil⟩ (fun i H2 _ ⟨_, s2, _⟩ => SqL.of (s2 _ _ hl1)) ?_ ?_⟩
    · rintro i x H2 hi ⟨ws, s2, hw, pw⟩
      obtain ⟨ln, hln, rfl⟩ := str_at hi
      have il := (List.getElem?_eq_some_iff.mp hln).1
      have wl : ws.length ≤ i := by rw [Paired.length pw, List.length_take]; omega
      have lnl : ln.length ≤ 3900000 := Nat.le_trans (lines_each ln (List.mem_of_getElem? hln)) tlen
      obtain ⟨wne, wwd⟩ := words_wide lnl
      have hro : (rowsW t)[i]? = some (pieceW (Txt.split ln " ")) := by
        unfold rowsW
        rw [List.getElem?_map, hln]
        rfl
      refine ⟨rfl, _, rfl, ⟨_, rfl⟩, _, _, rfl, rfl, by decide +kernel, by rw [sizeLine_eq]; omega, fun q hq => ?_⟩
      have s3 := Same.new (o := .lst (strsV (Txt.split ln " "))) hq
      refine ⟨q, Txt.split ln " ", rfl, upd_same, wne, wwd, fun H4 v s4 hv => ?_⟩
      have s24 := s3.trans s4
      have hw4 := s24 _ _ hw
      refine ⟨ws, hw4, sizeL (by omega), ws ++ [v], fun b o z => ?_, upd_same, ?_⟩
      · rw [upd_ne (ne_of_none z hD)]
        exact s24 _ _ (s2 _ _ z)
      · rw [take_snoc hro]
        have tk : Tups H4 (upd H4 D (.lst (ws ++ [v]))) := Tups.lst hw4
        refine pairedApp (pairedMap pw fun a o x => ?_) (.cons ?_ .nil)
        · exact PieceO.tups tk (PieceO.same s24 x)
        · exact PieceO.tups tk hv
    · rintro H2 ⟨ws, s2, hw, pw⟩
      have rl : (rowsW t).length = (linesW t).length := by unfold rowsW; rw [List.length_map]
      rw [ll, ← rl, List.take_length] at pw
      have wl : ws.length = (rowsW t).length := Paired.length pw
      have opt : OptTups K H2 ws := fun z hz => by
        obtain ⟨i, hi⟩ := List.mem_iff_getElem?.mp hz
        obtain ⟨o, _, ho⟩ := pairedAt pw hi
        cases o with
        | none => exact .inl ho
        | some r =>
          obtain ⟨a, ea, ha⟩ := ho
          exact .inr ⟨a, _, ea, SqT.of ha⟩
      have isn : ∀ (i : Nat) (z : V) (o : Option Row), ws[i]? = some z → (rowsW t)[i]? = some o → isNon z = o.isNone := fun i z o hz ho => by
        obtain ⟨o', ho', hp⟩ := pairedAt pw hz
        rw [ho] at ho'
        injection ho' with ho'
        subst ho'
        cases o with
        | none => rw [show z = .non from hp]; rfl
        | some r =>
          obtain ⟨a, ea, ha⟩ := hp
          rw [ea]
          rfl
      refine ⟨_, rfl, D, ws, rfl, rfl, SqL.of hw, opt, _, rfl, ?_⟩
      have ea : ws.any isNon = false := by
        cases ea : ws.any isNon with
        | false => rfl
        | true =>
          obtain ⟨j, z, hj, hz, _⟩ := first_idx ea
          obtain ⟨o, ho, hp⟩ := pairedAt pw hj
          have h2 := isn j z o hj ho
          rw [hz] at h2
          rw [er, List.getElem?_map] at ho
          cases e3 : rows[j]? with
          | none => rw [e3] at ho; cases ho
          | some r => rw [e3] at ho; injection ho with ho; rw [← ho] at h2; cases h2
      rw [ea]
      refine iteF ?_
      have pv : Paired (PieceV H2) ws rows := by
        rw [er] at pw
        exact paired_some pw
      refine ⟨_, rfl, .ref D, rows, rfl, .inr ⟨D, rfl, ws, hw, pv⟩, hG, fun H3 s3 => ?_⟩
      refine ⟨_, rfl, D, ws, rfl, .inl ⟨SqL.of (s3 _ _ hw), fun u hu => ?_⟩⟩
      exact kG _ _ (s1.trans (s2.trans (s3.trans (Same.new hu)))) ⟨u, ws, rfl, upd_same, pairedMap pv fun _ _ x => x.tups (Same.tups (s3.trans (Same.new hu)))⟩
end
/-! ### a lambda of one parameter with a default, that captures names of its def, handed to a def -/
section
open LamX PySem.W
structure LamSD (sc scope : Scope) (la : Str) : Prop where
  kind : scope.kind = .function
  co : scope.isCoroutine = false
  gen : scope.isGenerator = false
  own : ∀ y ∈ scope.names, y.2 ≠ .cell ∧ (y.2 = .local → y.1 = la)
  free : ∀ y ∈ scope.names, y.2 = .free → sc.names.lookup y.1 = some .cell ∨ sc.names.lookup y.1 = some .free
  par : scope.names.lookup la = some .local
def lamSDB (sc scope : Scope) (la : Str) : Bool :=
  decide (scope.kind = .function) && !scope.isCoroutine && !scope.isGenerator && (scope.names.all fun y => !decide (y.2 = .cell) && (!decide (y.2 = .local) || decide (y.1 = la)) && (!decide (y.2 = .free) || decide (sc.names.lookup y.1 = some .cell) || decide (sc.names.lookup y.1 = some .free))) && decide (scope.names.lookup la = some .local)
theorem lamSD_by {sc scope : Scope} {la : Str} (h : lamSDB sc scope la = true) : LamSD sc scope la := by
  unfold lamSDB at h
  simp only [Bool.and_eq_true, Bool.or_eq_true, Bool.not_eq_true', decide_eq_true_eq, decide_eq_false_iff_not, List.all_eq_true] at h
  obtain ⟨⟨⟨⟨h1, h2⟩, h3⟩, h4⟩, h5⟩ := h
  refine ⟨h1, h2, h3, fun y hy => ⟨(h4 y hy).1.1, fun e => ?_⟩, fun y hy e => ?_, h5⟩
  · rcases (h4 y hy).1.2 with z | z
    · exact absurd e z
    · exact z
  · rcases (h4 y hy).2 with (z | z) | z
    · exact absurd e z
    · exact .inl z
    · exact .inr z
theorem LamSD.has {X : Cx} {scope : Scope} {la : Str} (L : LamSD X.env.scope scope la) (ok : X.Ok) : ∀ y ∈ scope.names, y.2 = .free → ∃ c, X.env.cells.lookup y.1 = some c := fun y hy e => by
  rcases L.free y hy e with k | k
  · exact ok.has _ (.inl k)
  · exact ok.has _ (.inr k)
variable {X : Cx} {pins : List (Addr × Obj)} {σ : L2.St} {H HZ : Hp} {s s1 : Shared}
theorem lam_startD {A : Around} {outer : List Env} {E : XK} {scope : Scope} {la : Str} {f c' : Addr} {h₁ : Heap} {tk : Nat} {bi : List (Str × Value)} (I : Inv X pins σ H s) (L : LamSD X.env.scope scope la) (hla : la ∉ X.N) (e0 : Env0 X.prog X.w X.K X.mg X.base A outer s1 HZ) (hd : A.handled = none)
    (un : Un (frs X.stack) [] H HZ s.heap s1.heap) (hns : h₁.Ns s1.heap.objs.size fun y => bi.reverse.lookup y) (kp : ∀ b o, s1.heap.get? b = some o → h₁.get? b = some o) :
    Inv (lamCx X A outer s1 HZ E scope f c') [] σ HZ { s1 with heap := h₁, toks := tk } := by
  have hfree := L.has I.ok
  have cm : ∀ {y c}, (cloFrom X.env.cells scope.names []).lookup y = some c → X.env.cells.lookup y = some c := fun {y c} e => by
    rcases cloFrom_mem (PySem.mem_of_lookup e) with hm | ⟨h1, h2⟩
    · cases hm
    · obtain ⟨c1, hc⟩ := hfree _ h1 rfl
      have hc : X.env.cells.lookup y = some c1 := hc
      have e2 : c = c1 := by
        rw [h2, hc] <;> rfl
      rw [e2]
      exact hc
  have look : ∀ {y}, scope.names.lookup y = some .free → ∃ c, (cloFrom X.env.cells scope.names []).lookup y = some c := fun {y} hl => by
    have hy : (y, NameKind.free) ∈ scope.names := PySem.mem_of_lookup hl
    exact mem_lookup (cloFrom_has (cells := X.env.cells) (acc := []) hy)
  have cellK : ∀ {c : Addr} {v : Option Value}, H c = none → s.heap.IsCell c v → h₁.IsCell c v := fun {c v} n ⟨o, ho, hd⟩ => by
    obtain ⟨sl, q⟩ := un.any ho n (by simp)
    exact ⟨_, kp _ _ q, hd⟩
  have noA : ∀ b : Addr, b ∉ (lamCx X A outer s1 HZ E scope f c').ex := fun b z => absurd (show b ∈ ([] : List Addr) from z) (by simp)
  refine ⟨⟨e0.mod, L.kind, rfl, rfl, Nat.le_refl _, fun y z c e1 e2 => I.ok.inj y z c (cm e1) (cm e2), fun y hy => ?_, fun y c z _ => ?_, fun _ => hd, Around.frames_deeper e0.frames, .inr ⟨rfl, rfl⟩, fun b z => absurd z (noA b), e0.bs, e0.bsz, fun b _ _ => noA b,
      fun b z => absurd z (noA b), e0.funs, e0.frf⟩,
    rfl, e0.bare, Un.kept kp, ⟨_, hns, fun i y v e1 e2 e3 => ?_⟩, fun y c e => ?_, e0.hok.fresh (Nat.le_refl _), fun y c e => ?_, fun q hq => absurd (show q ∈ ([] : List (Addr × Obj)) ++ [] from hq) (by simp), e0.hok.kept kp, I.len⟩
  · have hy : scope.names.lookup y = some .cell ∨ scope.names.lookup y = some .free := hy
    rcases hy with hy | hy
    · exact absurd rfl (L.own _ (PySem.mem_of_lookup hy)).1
    · exact look hy
  · have z : false = true := z
    cases z
  · have e3 : Vis scope y := e3
    have e1 : X.N[i]? = some y := e1
    rcases e3 with k | k | k
    · have z := (L.own _ (PySem.mem_of_lookup k)).2 rfl
      have z : y = la := z
      rw [z] at e1
      exact absurd (List.mem_of_getElem? e1) hla
    · exact absurd rfl (L.own _ (PySem.mem_of_lookup k)).1
    · obtain ⟨m, hn, hl⟩ := I.loc
      have hvis : Vis X.env.scope y := (L.free _ (PySem.mem_of_lookup k) rfl).elim (fun k => .inr (.inl k)) (fun k => .inr (.inr k))
      obtain ⟨w', r, q⟩ := hl i y v e1 e2 hvis
      obtain ⟨c2, h2⟩ := look k
      refine ⟨w', r, .inr ⟨.inr k, c2, h2, ?_⟩⟩
      have c1 := cm h2
      rcases q with ⟨k', _⟩ | ⟨_, c3, e', z⟩
      · have k' : X.env.scope.names.lookup y = some .local := k'
        rcases L.free _ (PySem.mem_of_lookup k) rfl with k2 | k2 <;> rw [show X.env.scope.names.lookup y = _ from k2] at k' <;> cases k'
      · rw [c1] at e'
        cases e'
        exact cellK (I.freeC y _ c1) z
  · obtain ⟨w', z⟩ := I.cell y c (cm e)
    exact ⟨w', cellK (I.freeC y c (cm e)) z⟩
  · obtain ⟨v, o, ho, hd⟩ := I.cell y c (cm e)
    exact un.free c o ho (I.freeC y c (cm e)) (by simp)
theorem lamdc_make {T : List (Addr × Str)} {c P : Addr} {params : Arguments} {body : Expr} {scope : Scope} {pos p0 : Pos} {k0 : Nat} {E : Value → Shared → Prop} {Q : Value → Shared → Prop} {i : Int} (I : Inv X pins σ H s) (TB : TabB X.base X.mg c P) (hcode : X.env.code = .ref c)
    (hm : (P, X.env.qual ++ "<lambda>") ∈ T) (hu : ∀ p ∈ T, p.1 = P → p.2 = X.env.qual ++ "<lambda>") (hT : Tabs T H) (hdef : params.defaults = [.Constant (.int i) k0 p0]) (hk0 : params.kw_defaults = []) (hfree : ∀ y ∈ scope.names, y.2 = .free → ∃ c, X.env.cells.lookup y.1 = some c)
    (h : ∀ (f c' T0 : Addr) (tk0 : Tok) (doc pm ctv : Value) (H1 : Hp) (s' : Shared), Inv X pins σ H1 s' → ExtN H H1 → Tabs T H1 →
      s'.heap.get? f = some (kdv_obj "<lambda>" (X.env.qual ++ "<lambda>") params (.expr body) scope (cloFrom X.env.cells scope.names []) (.ref T0) doc pm c' ctv) → H1 f = none → f ∉ frs X.stack →
      s'.heap.get? T0 = some (kdv_tup [.int i tk0]) → H1 T0 = none → T0 ∉ frs X.stack → H1 c' = some (CodeO c' (X.env.qual ++ "<lambda>")) → Q (.ref f) s') :
    wpAny (model X.prog X.w) X.A (eval (.Lambda params body scope pos) X.env) Q E s := by
  refine kdv_lam (by rw [hdef]; rfl) hk0 ?_
  rw [hdef]
  refine kdv_all1 (wpAny_Constant_int (kdv_all0 ?_))
  rw [makeFunction_eq]
  simp only [List.zip_nil_right, List.filterMap_nil, List.isEmpty_nil, List.isEmpty_cons, if_true, Bool.false_eq_true, if_false, pure_bind]
  refine wpAny_bind (wpAny_newTextTuple ?_)
  have hcl := closure_ok (env := X.env) hfree
  obtain ⟨ps, hP, ht, ha⟩ := hT _ hm
  have I2 : Inv X pins σ H { s with heap := s.heap.push (kdv_tup [.int i s.toks]), toks := s.toks + 1 } := I.kept fun b o e => Heap.get?_push_of_some _ e
  have bP := TB.bm.keeps I2.bk
  have hP' := I2.hok P _ hP
  have hT0 : (s.heap.push (kdv_tup [.int i s.toks])).get? s.heap.objs.size = some (kdv_tup [.int i s.toks]) := Heap.get?_push_size _ rfl
  have nT0 : H s.heap.objs.size = none := I.hok.fresh (Nat.le_refl _)
  have nofr : ∀ f, s.heap.objs.size ≤ f → f ∉ frs X.stack := fun f hf z => by
    rcases List.mem_cons.mp (I.stkSub _ z) with e | e
    · have h1 := I.lt
      rw [← e] at h1
      exact Nat.lt_irrefl _ (Nat.lt_of_lt_of_le h1 hf)
    · exact I.nofs hf e
  have up1 : s.heap.objs.size ≤ (s.heap.push (kdv_tup [.int i s.toks])).objs.size := by rw [Heap.size_push]; omega
  cases hc : codeAmong pos ps.toList with
  | none =>
    refine kdv_makeTail (mg := X.mg) (c := c) (P := P) (ps := ps) hcl I2.ok.glob (I2.mod.glob.keeps I2.bk) hcode (TB.code.keeps I2.bk) hP' ht hc TB.gP bP fun c' ctv doc h' tk hx hge hlt hrec htb => ?_
    obtain ⟨c2, oc, vs, t, e2, hoc, hd, hv⟩ := hrec
    cases e2
    have hsz : s.heap.objs.size ≤ h'.objs.size := Nat.le_trans up1 (Nat.le_trans hge (Nat.le_of_lt hlt))
    have nC : H c' = none := I.hok.fresh (Nat.le_trans up1 hge)
    have nT0P : s.heap.objs.size ≠ P := fun z => by rw [z, hP] at nT0; cases nT0
    have nT0c : s.heap.objs.size ≠ c' := fun z => by
      have z2 : (s.heap.push (kdv_tup [.int i s.toks])).objs.size ≤ c' := hge
      rw [Heap.size_push] at z2
      omega
    have I1 := inv_table (t' := tk) (more := #[rawInt pos.line, rawInt pos.col, .ref c']) (h' := h'.push (kdv_obj "<lambda>" (X.env.qual ++ "<lambda>") params (.expr body) scope (cloFrom X.env.cells scope.names []) (.ref s.heap.objs.size) doc ((X.mg "__name__").getD .none) c' ctv)) I2 hP
      (fun b o hb e => Heap.get?_push_of_some _ (hx b o hb e)) (Heap.get?_push_of_some _ htb) hge ⟨oc, vs, t, Heap.get?_push_of_some _ hoc, hd, hv⟩
    have hE : ExtN H (upd (upd H P (.tbl (ps ++ #[rawInt pos.line, rawInt pos.col, .ref c']))) c' (CodeO c' (X.env.qual ++ "<lambda>"))) := fun b o e n => by
      rw [upd_ne (ne_of_none e nC), upd_ne (fun z => n ps (Option.some.inj (e.symm.trans (by rw [z]; exact hP))))]
      exact e
    have eL : (ps ++ #[rawInt pos.line, rawInt pos.col, .ref c']).toList = ps.toList ++ [rawInt pos.line, rawInt pos.col, .ref c'] := by simp
    refine h h'.objs.size c' s.heap.objs.size s.toks doc ((X.mg "__name__").getD .none) ctv _ _ I1 hE (fun p hp => ?_) (Heap.get?_push_size _ rfl) ?_ (nofr _ hsz) (Heap.get?_push_of_some _ (hx _ _ nT0P hT0)) ?_ (nofr _ (Nat.le_refl _)) upd_same
    · by_cases hb : p.1 = P
      · rw [hu p hp hb, hb]
        refine ⟨_, by rw [upd_ne (ne_of_none hP nC), upd_same], by rw [eL]; exact PySem.TriplesOk_snoc _ _ _ _ ht, fun p' cv hcv => ?_⟩
        rw [eL] at hcv
        rcases among_app _ ht hcv with z | z
        · obtain ⟨c0, e1, e2⟩ := ha p' cv z
          exact ⟨c0, e1, hE _ _ e2 codeO_ne⟩
        · exact ⟨c', z, upd_same⟩
      · obtain ⟨ps', a1, a2, a3⟩ := hT p hp
        refine ⟨ps', by rw [upd_ne (ne_of_none a1 nC), upd_ne hb]; exact a1, a2, fun p' cv hcv => ?_⟩
        obtain ⟨c0, e1, e2⟩ := a3 p' cv hcv
        exact ⟨c0, e1, hE _ _ e2 codeO_ne⟩
    · have n1 : h'.objs.size ≠ c' := Nat.ne_of_gt hlt
      have n2 : h'.objs.size ≠ P := Nat.ne_of_gt (Nat.lt_of_lt_of_le (Heap.lt_size hP') (Nat.le_trans hge (Nat.le_of_lt hlt)))
      rw [upd_ne n1, upd_ne n2]
      exact I.hok.fresh hsz
    · rw [upd_ne nT0c, upd_ne nT0P]
      exact nT0
  | some cv =>
    obtain ⟨c', e, hco⟩ := ha pos cv hc
    subst e
    refine kdv_makeTailHit (mg := X.mg) (c := c) (P := P) (ps := ps) hcl I2.ok.glob (I2.mod.glob.keeps I2.bk) hcode (TB.code.keeps I2.bk) hP' ht hc bP fun ctv doc h' tk hx hsz => ?_
    have I1 : Inv X pins σ H { s with heap := h'.push (kdv_obj "<lambda>" (X.env.qual ++ "<lambda>") params (.expr body) scope (cloFrom X.env.cells scope.names []) (.ref s.heap.objs.size) doc ((X.mg "__name__").getD .none) c' ctv), toks := tk } := I2.kept fun b o e => Heap.get?_push_of_some _ (hx b o e)
    exact h h'.objs.size c' s.heap.objs.size s.toks doc ((X.mg "__name__").getD .none) ctv H _ I1 (ExtN.refl H) hT (Heap.get?_push_size _ rfl) (I.hok.fresh (Nat.le_trans up1 hsz)) (nofr _ (Nat.le_trans up1 hsz)) (Heap.get?_push_of_some _ (hx _ _ hT0)) nT0 (nofr _ (Nat.le_refl _)) hco
/-- x(), in the def that got the lambda -/
theorem pe_actdc {CXg : CXT} {Eg : XK} {Ng : List Str} {qg : Str} {sg : Scope} {g f c' T0 : Addr} {cdg doc pm ctv : Value} {params : Arguments} {body : Expr} {scope : Scope} {k j : Nat} {a la : Str} {pn : List (Addr × Obj)} {xe : Value → Shared → Prop} {W : WX} {E : XK} {tb : TE} {p1 p2 : Pos} {i : Int} {tk0 : Tok}
    (I : Inv X pins σ H s) (L : LamSD X.env.scope scope la) (hla : la ∉ X.N) (hf : s.heap.get? f = some (kdv_obj "<lambda>" (X.env.qual ++ "<lambda>") params (.expr body) scope (cloFrom X.env.cells scope.names []) (.ref T0) doc pm c' ctv)) (hfn : H f = none) (hfr : f ∉ frs X.stack)
    (hT : s.heap.get? T0 = some (kdv_tup [.int i tk0])) (hTn : H T0 = none) (hTr : T0 ∉ frs X.stack)
    (hbind : ∀ (s1 : Shared), s1.heap.get? T0 = some (kdv_tup [.int i tk0]) → BindsTo s1 (kdv_fn "<lambda>" (X.env.qual ++ "<lambda>") params (.expr body) scope (cloFrom X.env.cells scope.names []) (.ref T0) doc pm (.ref c') ctv) ⟨[], []⟩ [(la, .int i tk0)])
    (tk : Takes ((cxOf CXg X.prog X.w X.K X.mg X.base Ng qg sg g cdg X.A X.stack s H Eg).tr pn xe) W) (hW : ∀ cls d σ' H', E cls d H' → W cls d σ' H') (hr : Room (k + 1) (X.A.deeper (envOfC qg sg s.heap.objs.size g cdg)))
    (hbody : ∀ (A : Around) (outer : List Env) (s : Shared) (H : Hp), Room k (A.deeper (lamEnv X scope s.heap.objs.size f c')) → PE (lamCx X A outer s H E scope f c') body tb)
    (hN : Ng[j]? = some a) (hv : Vis sg a) (hd : (a == ("__debug__" : Str)) = false := by decide) (hcd : (a == ("__classdict__" : Str)) = false := by decide) :
    PE ((cxOf CXg X.prog X.w X.K X.mg X.base Ng qg sg g cdg X.A X.stack s H Eg).tr pn xe) (.Call (.Name a p1) [] [] p2)
      (fun σZ HZ Q => σZ[j]? = some (some (.ref f)) ∧ HZ c' = some (CodeO c' (X.env.qual ++ "<lambda>")) ∧ tb σ HZ Q) := by
  refine ⟨fun pinsZ sZ σZ HZ Q IZ h => ?_⟩
  obtain ⟨hs, hc, ht⟩ := h
  refine wpAny_Call_Name_kw (thn ((pe_var (pos := p1) (i := j) hN hv hd hcd).run pinsZ sZ σZ HZ (fun v H1 => v = .ref f ∧ H1 = HZ) IZ ⟨.ref f, hs, rfl, rfl⟩) fun u s1 ⟨v, H1, I1, r1, q1⟩ => ?_)
  obtain ⟨ev, eH⟩ := q1
  subst ev
  rw [eH] at I1
  obtain rfl : u = Value.ref f := r1
  have of1 := I1.base.keep f _ hf hfn hfr (fun z => nomatch (show f ∈ ([] : List Addr) from z))
  have oT1 := I1.base.keep T0 _ hT hTn hTr (fun z => nomatch (show T0 ∈ ([] : List Addr) from z))
  refine PySem.W.callWith_F0 ⟨_, _, _, _, of1⟩ ?_
  have un : Un (frs X.stack) [] H HZ s.heap s1.heap := I1.base
  obtain ⟨⟨oc, vs, t, hoc, hdc, hvc⟩, _, _⟩ := I1.hok c' _ hc
  have rc : codeAny (model X.prog X.w) (X.A.deeper (envOfC qg sg s.heap.objs.size g cdg)) (.call (.ref f) ⟨[], []⟩) (CR (L2.CX X.prog X.w) (envOfC qg sg s.heap.objs.size g cdg :: X.stack) X.prog X.w HZ s1 Q E) s1 := by
    refine PySem.W.kla_callFunE hr.depth of1 rfl L.co L.gen rfl ⟨c', oc, vs, t, rfl, hoc, hdc, hvc⟩ ?_
    refine hbind s1 oT1 _ _ _ _ ?_
    refine wpAny_newFunctionEnv (fun y hy => (L.own y hy).1) (fun y hy => by rw [List.mem_singleton.mp hy]; exact L.par) (fun h₁ hns hsb => ⟨I1.nolimit.fresh _ hsb, ?_⟩) L.kind
    show codeAny _ _ (.expr body (lamEnv X scope s1.heap.objs.size f c')) _ _
    have kp : ∀ b o, s1.heap.get? b = some o → h₁.get? b = some o := fun b o e => hsb.extBut b o (Nat.ne_of_lt (Heap.lt_size e)) (Heap.get?_push_of_some _ e)
    have J : Inv (lamCx X (X.A.deeper (envOfC qg sg s.heap.objs.size g cdg)) (envOfC qg sg s.heap.objs.size g cdg :: X.stack) s1 HZ E scope f c') [] σ HZ { s1 with heap := h₁, toks := s1.toks + ([(la, Value.int i tk0)] : List (Str × Value)).length } :=
      lam_startD I L hla I1.env0 hr.hd un hns kp
    refine PySem.W.kla_codeExpr (wpAny_mono ((hbody _ _ s1 HZ (hr.deeper _)).run [] _ _ HZ Q J ht) (fun v s' hq => ?_) fun e s' hq => hq)
    obtain ⟨w', H', J', rv, q⟩ := hq
    exact ⟨w', H', J'.os, J'.bare, J'.base, J'.hok, rv, q⟩
  have hx : Passes (L2.CX X.prog X.w) ((cxOf CXg X.prog X.w X.K X.mg X.base Ng qg sg g cdg X.A X.stack s H Eg).tr pn xe) E := passes_call tk hW
  refine wpAny_call (codeAny_mono rc fun r s' hq => ?_)
  cases r with
  | error e => exact hx pinsZ σZ HZ s1 e s' I1 hq
  | ok fl =>
    cases fl with
    | ret u => exact I1.after hq
    | next => exact False.elim hq
    | brk => exact False.elim hq
    | cont => exact False.elim hq
theorem pe_lamcallDC {T : List (Addr × Str)} {TT : (XK → Hp → VK → Prop) → Hp → VK → Prop} {x a la : Str} {g c P : Addr} {k : Nat} {pg : Arguments} {bg : List Stmt} {sg : Scope} {dV kV doc pm cdv ct oc : Value} {an od : Option Addr} {osl : Array (Option Value)} {Ng : List Str}
    {params : Arguments} {body : Expr} {scope : Scope} {t : XK → TE} {p lpos pos p0 : Pos} {k0 : Nat} {i : Int} (hg : Gl X x) (hm : X.mg x = some (.ref g)) (hk : keepIn X.K (.ref g) = true)
    (lk : X.K.lookup g = some ⟨oc, od, .func (fnOf x x pg bg sg dV kV doc pm an cdv ct), osl⟩) (hcg : codeIn X.K cdv x = true) (hb : L2.Binds X.K (fnOf x x pg bg sg dV kV doc pm an cdv ct) [a] []) (Sg : FnScope Ng [a] sg) (hNg : Ng[0]? = some a) (hva : Vis sg a)
    (hG : GivesTo X Ng x sg g cdv bg a (X.env.qual ++ "<lambda>") TT)
    (TB : TabB X.base X.mg c P) (hcode : X.env.code = .ref c) (hmT : (P, X.env.qual ++ "<lambda>") ∈ T) (hu : ∀ p ∈ T, p.1 = P → p.2 = X.env.qual ++ "<lambda>") (hr : Room (k + 2) X.A) (L : LamSD X.env.scope scope la) (hla : la ∉ X.N) (hdef : params.defaults = [.Constant (.int i) k0 p0]) (hk0 : params.kw_defaults = [])
    (hbind : ∀ (ql : Str) (clos : List (Str × Addr)) (T0 : Addr) (doc pm cv ctv : Value) (tk0 : Tok) (s1 : Shared), s1.heap.get? T0 = some (kdv_tup [.int i tk0]) → BindsTo s1 (kdv_fn "<lambda>" ql params (.expr body) scope clos (.ref T0) doc pm cv ctv) ⟨[], []⟩ [(la, .int i tk0)])
    (hbody : ∀ (A : Around) (outer : List Env) (s : Shared) (H : Hp) (E : XK) (f c' : Addr), Room k (A.deeper (lamEnv X scope s.heap.objs.size f c')) → PE (lamCx X A outer s H E scope f c') body (t E))
    (hdb : (x == ("__debug__" : Str)) = false := by decide) (hd : (a == ("__debug__" : Str)) = false := by decide) (hcd : (a == ("__classdict__" : Str)) = false := by decide) :
    PE X (.Call (.Name x p) [.Lambda params body scope lpos] [] pos) (tLam T TT t) := by
  refine ⟨fun pins s σ H Q I h => ?_⟩
  obtain ⟨hT, h⟩ := h
  refine wpAny_Call_Name_kw (ld_glob I hg hm ?_ hdb)
  refine callWith_K (h₀ := X.base) I.ok.mod.kin hk ?_ (by rfl) (by rfl)
  show wpAny _ _ (spliced ((false, eval (.Lambda params body scope lpos) X.env) :: backTo pos (starEach [] X.env))) _ _ s
  refine Calls.spliced_cons (lamdc_make I TB hcode hmT hu hT hdef hk0 (L.has I.ok) fun f c' T0 tk0 doc' pm' ctv H1 s' I1 eN T1 hf hfn hfr hT0 nT0 rT0 hco => ?_)
  refine Calls.spliced_nil ⟨I1.kIn, ?_⟩
  have rc : codeAny (model X.prog X.w) X.A (.call (.ref g) ⟨[.ref f], []⟩) (CR C8.CX0 X.stack X.prog X.w H1 s' Q C8.E0) s' := by
    refine run_ofS (N := Ng) (ps := [a]) (us := [.ref f]) (vs := [.ref f]) lk hcg Sg hr I1.env0 (hb s' [.ref f] I1.kIn rfl) (.cons rfl .nil) rfl fun hr' => ?_
    obtain ⟨t', ht', hq'⟩ := hG f c' s' H1 Q (fun E H' Q' => t E σ H' Q') (fun W pn xe E p1 p2 tk hW => pe_actdc (j := 0) I1 L hla hf hfn hfr hT0 nT0 rT0 (fun s1 h1 => hbind _ _ _ _ _ _ _ _ _ h1) tk hW hr' (fun A outer s H hr2 => hbody A outer s H E f c' hr2) hNg hva hd hcd) hco (h H1 eN T1)
    exact ⟨t', ht'.nox, hq'⟩
  refine wpAny_call (codeAny_mono rc fun r s2 hq => ?_)
  cases r with
  | error e => exact (show False from hq).elim
  | ok fl =>
    cases fl with
    | ret u => exact I1.after hq
    | next => exact False.elim hq
    | brk => exact False.elim hq
    | cont => exact False.elim hq
end
/-! ### texts that can't be read -/
set_option pp.maxSteps 700
open TL
theorem text8 {rows : List Row} (hG : Good rows) (h8 : rows.length ≤ 8) : Fits62 (patchText rows) 10000 8 := by
  refine join_fits (fun y hy => ?_) ?_ (by rw [List.length_map]; omega)
  · obtain ⟨r, hr, rfl⟩ := List.mem_map.mp hy
    exact (rowText_fits (hG.each r hr).1 (hG.each r hr).2).2.1
  · have b := sum_le (l := ((rows.map rowText).map tl).map List.length) (k := 1206) fun x hx => by
      obtain ⟨y, hy, rfl⟩ := List.mem_map.mp hx
      obtain ⟨z, hz, rfl⟩ := List.mem_map.mp hy
      obtain ⟨r, hr, rfl⟩ := List.mem_map.mp hz
      exact (rowText_fits (hG.each r hr).1 (hG.each r hr).2).1
    rw [List.length_map, List.length_map, List.length_map] at b
    rw [List.length_map]
    omega
def lenAt : Nat → Nat
  | 0 => 10000
  | j + 1 => 2 * lenAt j + 20
theorem lenAt_le {j : Nat} (h : j ≤ 3) : lenAt j ≤ 100000 := by
  have : j = 0 ∨ j = 1 ∨ j = 2 ∨ j = 3 := by omega
  rcases this with rfl | rfl | rfl | rfl <;> decide
theorem fits_lines {t : Str} (h : Fits62 t 100000 20) : t.length ≤ 3900000 ∧ (linesW t).length ≤ 20000 := by
  obtain ⟨h1, h2⟩ := h
  refine ⟨by rw [len_tl]; omega, ?_⟩
  unfold linesW
  by_cases e : t = ""
  · rw [if_pos e]; exact Nat.zero_le _
  · rw [if_neg e, (split_nl t).2.2]; omega
theorem odd4 : ∀ y ∈ (["", "\n", " ", "copy"] : List Str), Fits62 y 100000 20 := by
  have h : ((["", "\n", " ", "copy"] : List Str).all fun y => decide ((tl y).length ≤ 100000) && decide ((tl y).count 10 ≤ 20)) = true := by decide +kernel
  intro y hy
  have := List.all_eq_true.mp h y hy
  rw [Bool.and_eq_true, decide_eq_true_iff, decide_eq_true_iff] at this
  exact this
theorem some_inj {a b : List Row} (h : a.map some = b.map some) : a = b := by
  have := congrArg (fun l : List (Option Row) => l.filterMap id) h
  simpa [List.filterMap_map] using this
theorem first_one {os : List (Option Row)} {i j : Nat} (h : firstNone os i) (g : firstNone os j) : i = j := by
  have a : ¬ i < j := fun z => g.2 i z h.1
  have b : ¬ j < i := fun z => h.2 j z g.1
  omega
theorem first_not {os : List (Option Row)} {i : Nat} {rows : List Row} (h : firstNone os i) (e : os = rows.map some) : False := by
  have := h.1
  rw [e, List.getElem?_map] at this
  cases e2 : rows[i]? with
  | none => rw [e2] at this; cases this
  | some r => rw [e2] at this; cases this
section
variable {P : Program} {w : World} {K : PySem.W.Frag} {mg : Str → Option Value} {base : Heap} {C fI CP fP : Addr}
theorem lawT_ok (T : All K mg) (O_BadPatch : N_BadPatch.OwnErr P K mg CP fP) (TCP : ToldC T CP 4) (O_BadText : N_BadText.OwnErr P K mg C fI) (TC : ToldC T C 2) {f cL PL : Addr} {kV doc pm ct oc : Value} {an od : Option Addr} {osl : Array (Option Value)}
    (lk : K.lookup f = some ⟨oc, od, .func (PySem.W.fnOf "law" "law" (defArgs s_law) (defBody s_law) (defScope s_law) .none kV doc pm an (.ref cL) ct), osl⟩) (hcd : PySem.W.codeIn K (.ref cL) "law" = true) (TB : LamX.TabB base mg cL PL) :
    FnOk P w K mg base CX0 11 f (PySem.W.fnOf "law" "law" (defArgs s_law) (defBody s_law) (defScope s_law) .none kV doc pm an (.ref cL) ct) ["_law_script"] (spLawT K PL) := by
  have G_law_taken : FnOk P w K mg base CX0 1 T.d_law_taken.f T.d_law_taken.fd ["_law_row", "_law_many"] (spNext K) := ok_law_taken T
  have G_law_patch : FnOk P w K mg base CX0 3 T.d_law_patch.f T.d_law_patch.fd ["_law_row", "_law_most"] (spLPatch K) := ok_law_patch T
  have G_written : FnOk P w K mg base CX0 4 T.d_written.f T.d_written.fd ["patch"] spWritten := ok_written T
  have G_law_changed : FnOk P w K mg base CX0 2 T.d_law_changed.f T.d_law_changed.fd ["_law_row", "_law_text"] (spLChanged K) := ok_law_changed T
  have G_law_due : FnOk P w K mg base CX0 3 T.d_law_due.f T.d_law_due.fd ["_law_text"] spLDue := ok_law_due T
  have G_read : FnOk P w K mg base CX0 4 T.d_read.f T.d_read.fd ["text"] spReadG := ok_read T
  have GX_read : FnOk P w K mg base (L2.CX P w) 4 T.d_read.f T.d_read.fd ["text"] (spReadX C CP) := okx_read T O_BadPatch O_BadText
  have G_makes := okx_makes (P := P) (w := w) (base := base) T O_BadPatch
  obtain ⟨ocT, odT, kVT, docT, pmT, anT, cdvT, ctT, oslT, efd, lkT, hcT⟩ := T.d_law_word.F.ex
  have bT := T.d_law_word.b
  rw [efd] at lkT bT
  refine fn_of lk hcd sc_law (fun vs H Q E h => ?_) (fun A outer s H vs Q E hr h => ?_)
  · obtain ⟨a, ns, rfl, _⟩ := h
    rfl
  · obtain ⟨a, ns, rfl, hS, hl, hP, k⟩ := h
    suffices z : ∃ t, PSs (cxOf CX0 P w K mg base _ "law" (defScope s_law) f (.ref cL) A outer s H E).nox (defBody s_law) t ∧ t { nx := fun _ H' => Q .non H', rt := Q } (start _ [.ref a]) H by
      obtain ⟨t, h, q⟩ := z
      exact ⟨t, h.nox, q⟩
    refine ⟨_, (pss_cons 
      (ps_set (i := 1) sc_law.nd rfl (Or.inl rfl) (pe_lst (pa_cons (pv 0) (pa_cons pe_int (pa_cons pe_int (pa_cons pe_int pa_nil)))))) (pss_cons 
      (ps_for PassesOwn.never rfl (pi_range1 (by rfl) T.b_range (pa_cons pe_int pa_nil)) (pg_name (i := 2) sc_law.nd rfl (Or.inl rfl)) (pss_cons 
      (ps_set (i := 3) sc_law.nd rfl (Or.inl rfl) (pe_call G_written (hr.mono (by decide)) rfl T.d_written.m T.d_written.F.kp T.d_written.b .nil pass0 (pa_cons (pe_call G_law_patch (hr.mono (by decide)) rfl T.d_law_patch.m T.d_law_patch.F.kp T.d_law_patch.b .nil pass0 (pa_cons (pv 1) (pa_cons pe_int pa_nil))) pa_nil))) (pss_cons 
      (ps_for PassesOwn.never rfl (pi_range1 (by rfl) T.b_range (pa_cons (pe_call G_law_taken (hr.mono (by decide)) rfl T.d_law_taken.m T.d_law_taken.F.kp T.d_law_taken.b .nil pass0 (pa_cons (pv 1) (pa_cons pe_int pa_nil))) pa_nil)) (pg_name (i := 4) sc_law.nd rfl (Or.inl rfl)) (pss_one 
      (ps_set (i := 3) sc_law.nd rfl (Or.inl rfl) (pe_call G_law_changed (hr.mono (by decide)) rfl T.d_law_changed.m T.d_law_changed.F.kp T.d_law_changed.b .nil pass0 (pa_cons (pv 1) (pa_cons (pv 3) pa_nil)))))) (pss_one 
      (ps_for PassesOwn.never rfl (pi_list (pe_lst (pa_cons (pv 3) (pa_cons (pe_ix ix_list (pe_lst (pa_cons pe_str (pa_cons pe_str (pa_cons pe_str (pa_cons pe_str pa_nil))))) (pe_call G_law_taken (hr.mono (by decide)) rfl T.d_law_taken.m T.d_law_taken.F.kp T.d_law_taken.b .nil pass0 (pa_cons (pv 1) (pa_cons pe_int pa_nil))) (fun _ _ => rfl)) pa_nil)))) (pg_name (i := 5) sc_law.nd rfl (Or.inr rfl)) (pss_cons 
      (ps_set (i := 6) sc_law.nd rfl (Or.inr rfl) (pe_call G_law_due (hr.mono (by decide)) rfl T.d_law_due.m T.d_law_due.F.kp T.d_law_due.b .nil pass0 (pa_cons (pv 5) pa_nil))) (pss_cons 
      (ps_set (i := 7) sc_law.nd rfl (Or.inl rfl) (pe_ifExp (pt_cmpR op_eq (pe_ix ix_tup (pv 6) pe_int (fun _ _ => rfl)) pe_str (nomark _)) (pv 6) (LamX.pe_lamcall (k := 7) (T := [(PL, lamQ)]) (TT := TToldW T) rfl T.d_law_word.m T.d_law_word.F.kp lkT hcT bT sc_law_word rfl (Or.inl rfl) (told_w (X := (cxOf CX0 P w K mg base _ "law" (defScope s_law) f (.ref cL) A outer s H E).nox) T) TB rfl (List.mem_singleton.mpr rfl) (fun p hp _ => by rw [List.mem_singleton.mp hp]; rfl) (hr.mono (by decide)) (LamX.lamS_by (show LamX.lamSB (defScope s_law) _ = true from by decide +kernel)) rfl (fun _ _ _ _ _ => rfl)
        (fun A outer s H E f c' hr' => pe_call G_makes (hr'.mono (by decide)) rfl T.d_makes.m T.d_makes.F.kp T.d_makes.b .nil (passes_call (takes_of rfl rfl rfl rfl) fun _ _ _ _ h => h) (pa_cons (pe_ix (ixtK (K := K) rfl) (pv 6) pe_int (fun _ _ => rfl)) pa_nil))))) (pss_cons 
      (ps_if (pt_cmpR (op_orD (op_neS hr.units) op_ne) (LamX.pe_lamcall (k := 7) (T := [(PL, lamQ)]) (TT := TToldW T) rfl T.d_law_word.m T.d_law_word.F.kp lkT hcT bT sc_law_word rfl (Or.inl rfl) (told_w (X := (cxOf CX0 P w K mg base _ "law" (defScope s_law) f (.ref cL) A outer s H E).nox) T) TB rfl (List.mem_singleton.mpr rfl) (fun p hp _ => by rw [List.mem_singleton.mp hp]; rfl) (hr.mono (by decide)) (LamX.lamS_by (show LamX.lamSB (defScope s_law) _ = true from by decide +kernel)) rfl (fun _ _ _ _ _ => rfl)
        (fun A outer s H E f c' hr' => pe_call GX_read (hr'.mono (by decide)) rfl T.d_read.m T.d_read.F.kp T.d_read.b .nil (passes_call (takes_of rfl rfl rfl rfl) fun _ _ _ _ h => h) (pa_cons (pv 5) pa_nil))) (pv 7) (nomark _)) (pss_one 
      (ps_ret pe_bl)) pss_nil) (pss_one 
      (ps_if (PW.pt (pw_and (pt_cmpR op_isN (pv 7) pe_non (nomark _)) (pw_and1 (pt_cmpR (op_neS hr.units) (pe_call G_read (hr.mono (by decide)) rfl T.d_read.m T.d_read.F.kp T.d_read.b .nil pass0 (pa_cons (pv 5) pa_nil)) (pe_ix (ixtK (K := K) rfl) (pv 6) pe_int (fun _ _ => rfl)) (nomark _))))) (pss_one 
      (ps_ret pe_bl)) pss_nil)))))))))) (pss_one 
      (ps_ret pe_bl)))), ?_⟩
    have tb0 : LamX.Tabs [(PL, lamQ)] H := fun p hp => by
      rw [List.mem_singleton.mp hp]
      exact LamX.TabS.nil hP
    refine ⟨_, rfl, sizeS (by show 4 ≤ 100000; decide), fun d hd => ?_⟩
    have tb1 := Tabs.same tb0 (Same.new (o := .lst [.ref a, .int 0, .int 0, .int 0]) hd)
    have D0 : Dice K a ns (upd H d (.lst [.ref a, .int 0, .int 0, .int 0])) d := ⟨Same.seq (Same.new hd) hS, hl, 0, 0, 0, by decide, upd_same⟩
    generalize upd H d (.lst [.ref a, .int 0, .int 0, .int 0]) = H1 at D0 tb1 ⊢
    refine ⟨5, rfl, by decide, by decide, for_range (lo := 0) (n := 5) (fun i σ H2 => ∃ v2 v3 v4 v5 v6 v7 : Option V, σ = [some (.ref a), some (.ref d), v2, v3, v4, v5, v6, v7] ∧ Dice K a ns H2 d ∧ LamX.Tabs [(PL, lamQ)] H2)
      ⟨_, _, _, _, _, _, rfl, D0, tb1⟩ ?_ ?_⟩
    · rintro i σ H2 hi ⟨v2, v3, v4, v5, v6, v7, rfl, D2, tb2⟩
      refine ⟨_, rfl, a, ns, d, 8, rfl, D2, by decide, by decide, fun H3 v rows b3 D3 hP3 hG hr8 => ?_⟩
      have few := hG.nat
      refine ⟨v, rows, rfl, hP3, hG, fun H4 s4 => ?_⟩
      have tb4 := Tabs.same (Tabs.but tb2 D2.ex.choose_spec.choose_spec.choose_spec.2 b3) s4
      have D4 := D3.same s4
      refine ⟨_, rfl, a, ns, d, 4, rfl, D4, by decide, by decide, fun H5 m b5 D5 m0 m1 => ?_⟩
      have tb5 := Tabs.but tb4 D4.ex.choose_spec.choose_spec.choose_spec.2 b5
      refine ⟨m, rfl, by omega, by omega, for_range (lo := 0) (n := m.toNat) (fun j σ H6 => ∃ (t : Str) (w2 w4 w5 w6 w7 : Option V), σ = [some (.ref a), some (.ref d), w2, some (.str t), w4, w5, w6, w7] ∧ Dice K a ns H6 d ∧ LamX.Tabs [(PL, lamQ)] H6 ∧ Fits62 t (lenAt j) (8 + j))
        ⟨_, _, _, _, _, _, rfl, D5, tb5, text8 hG (by omega)⟩ ?_ ?_⟩
      · rintro j σ H6 hj ⟨t, w2, w4, w5, w6, w7, rfl, D6, tb6, ft⟩
        have lj := lenAt_le (j := j) (by omega)
        refine ⟨_, rfl, _, rfl, a, ns, d, t, lenAt j, 8 + j, rfl, D6, ft, by omega, by omega, fun H7 t' b7 D7 ft' => ?_⟩
        exact ⟨t', _, _, _, _, _, rfl, D7, Tabs.but tb6 D6.ex.choose_spec.choose_spec.choose_spec.2 b7, ft'⟩
      · rintro σ H6 ⟨t, w2, w4, w5, w6, w7, rfl, D6, tb6, ft⟩
        have ft2 : Fits62 t 100000 20 := ⟨Nat.le_trans ft.1 (lenAt_le (by omega)), by have := ft.2; omega⟩
        refine ⟨_, rfl, sizeS (by show 4 ≤ 100000; decide), fun q4 hq4 => ⟨_, rfl, a, ns, d, 4, rfl, D6.same (Same.new hq4), by decide, by decide, fun H7 r b7 D7 r0 r1 => ?_⟩⟩
        have tb7 := Tabs.but (Tabs.same tb6 (Same.new hq4)) (D6.same (Same.new (o := .lst (strsV ["", "\n", " ", "copy"])) hq4)).ex.choose_spec.choose_spec.choose_spec.2 b7
        have hq7 : H7 q4 = some (.lst (strsV ["", "\n", " ", "copy"])) := b7 _ _ (D6.ne hq4) upd_same
        obtain ⟨y, hy⟩ : ∃ y, (["", "\n", " ", "copy"] : List Str)[r.toNat]? = some y := ⟨_, List.getElem?_eq_getElem (show r.toNat < 4 by omega)⟩
        have hat : atI (strsV ["", "\n", " ", "copy"]) r = some (.str y) := at_of (j := r.toNat) (by omega) (by unfold strsV; rw [List.getElem?_map, hy]; rfl)
        have fy := odd4 y (List.mem_of_getElem? hy)
        refine ⟨q4, _, _, _, rfl, rfl, SqL.of hq7, hat, sizeS (by show 2 ≤ 100000; decide), fun qL hqL => ?_⟩
        have tb8 := Tabs.same tb7 (Same.new (o := .lst (strsV [t, y])) hqL)
        have D8 := D7.same (Same.new (o := .lst (strsV [t, y])) hqL)
        have hqL8 : (upd H7 qL (.lst (strsV [t, y]))) qL = some (.lst (strsV [t, y])) := upd_same
        refine ⟨qL, rfl, ⟨_, SqL.of hqL8⟩, for_list (K := K) (a := qL) (xs := strsV [t, y]) (fun j σ H9 => ∃ (w2 w4 w5 w6 w7 : Option V), σ = [some (.ref a), some (.ref d), w2, some (.str t), w4, w5, w6, w7] ∧ Dice K a ns H9 d ∧ LamX.Tabs [(PL, lamQ)] H9 ∧ H9 qL = some (.lst (strsV [t, y])))
          ⟨_, _, _, _, _, rfl, D8, tb8, hqL8⟩ (fun j σ H9 _ ⟨_, _, _, _, _, _, _, _, h⟩ => SqL.of h) ?_ ?_⟩
        · rintro j x σ H9 hj ⟨w2, w4, w5, w6, w7, rfl, D9, tb9, hL9⟩
          obtain ⟨one, ho, rfl⟩ := str_at hj
          have f1 : Fits62 one 100000 20 := by
            have := List.mem_of_getElem? ho
            rcases List.mem_cons.mp this with rfl | this
            · exact ft2
            · rw [List.mem_singleton.mp this]; exact fy
          obtain ⟨len1, lin1⟩ := fits_lines f1
          refine ⟨_, rfl, one, rfl, len1, lin1, fun i2 Ha u fn sa hu => ?_, fun rows2 Ha u v2 er sa hu hPv => ?_⟩
          · refine ⟨_, rfl, u, _, _, _, rfl, rfl, SqT.of hu, rfl, rfl, _, rfl, ite2 (fun _ => ?_) fun h => absurd (by decide) h⟩
            refine ⟨_, rfl, ?_⟩
            refine ⟨Tabs.same tb9 sa, fun Ht et tt => ?_⟩
            have hut : Ht u = some (.tup [.str "text", .int (i2 : Int)]) := et _ _ hu fun ps z => by cases z
            have Dt := (D9.same sa).ext et
            have hLt : Ht qL = some (.lst (strsV [t, y])) := et _ _ (sa _ _ hL9) fun ps z => by cases z
            refine ⟨_, rfl, one, rfl, len1, lin1, fun i3 fn3 Hx dd sx hdd => ?_, fun rows3 er3 => (first_not fn er3).elim⟩
            have ei : i3 = i2 := first_one fn3 fn
            subst ei
            refine ⟨2, C, dd, _, "row", "text", rfl, TC, .inl ⟨rfl, rfl, rfl⟩, O_BadText.noN, rfl, upd_same, fun Hy pr sy _ hpr => ?_⟩
            have sxy := sx.trans ((Same.new hdd).trans sy)
            have fl : ∀ x ∈ [V.str "text", V.int (i3 : Int)], flatB x = true := fun x hx => by
              rcases List.mem_cons.mp hx with rfl | hx
              · rfl
              · rw [List.mem_singleton.mp hx]; rfl
            refine ⟨_, rfl, .inl ⟨pr, u, _, _, rfl, rfl, .inl ⟨SqT.of hpr, SqT.of (sxy _ _ hut)⟩, Sd.flat fl, _, rfl, ite2 (fun h => absurd h (by decide)) fun _ => ?_⟩⟩
            refine ⟨_, rfl, rfl, _, rfl, ite2 (fun h => absurd (of_decide_eq_true h) (by intro z; cases z)) fun _ => ?_⟩
            exact ⟨_, _, _, _, _, rfl, Dt.same sxy, Tabs.same tt sxy, sxy _ _ hLt⟩
          · have fine : ∀ r ∈ rows2, LooseW r := fun r hr => by
              have : some r ∈ rowsW one := by rw [er]; exact List.mem_map.mpr ⟨r, hr, rfl⟩
              obtain ⟨ln, hln, e⟩ := List.mem_map.mp this
              exact pieceW_fine (words_wide (Nat.le_trans (lines_each ln hln) len1)).2 e
            have rlen : rows2.length ≤ 20000 := by
              have := congrArg List.length er
              unfold rowsW at this
              rw [List.length_map, List.length_map] at this
              omega
            refine ⟨_, rfl, u, _, _, _, rfl, rfl, SqT.of hu, rfl, rfl, _, rfl, ite2 (fun h => absurd h (by decide)) fun _ => ?_⟩
            refine ⟨Tabs.same tb9 sa, fun Ht et tt => ?_⟩
            have hut : Ht u = some (.tup [.str "pieces", v2]) := et _ _ hu fun ps z => by cases z
            have hPt : PatchAt Ht v2 rows2 := hPv.tups fun p xs h => et _ _ h fun ps z => by cases z
            have Dt := (D9.same sa).ext et
            have hLt : Ht qL = some (.lst (strsV [t, y])) := et _ _ (sa _ _ hL9) fun ps z => by cases z
            refine ⟨_, rfl, u, _, _, _, rfl, rfl, SqT.of hut, rfl, v2, rows2, rfl, hPt, fine, rlen, fun hG2 Hx sx => ?_, fun i2 bad Hx dd sx hdd => ?_⟩
            · refine ⟨Tabs.same tt sx, fun Hs es ts => ?_⟩
              have hus : Hs u = some (.tup [.str "pieces", v2]) := es _ _ (sx _ _ hut) fun ps z => by cases z
              have hPs : PatchAt Hs v2 rows2 := (hPt.tups (Same.tups sx)).tups fun p xs h => es _ _ h fun ps z => by cases z
              have Ds := (Dt.same sx).ext es
              have hLs : Hs qL = some (.lst (strsV [t, y])) := es _ _ (sx _ _ hLt) fun ps z => by cases z
              refine ⟨_, rfl, one, rfl, len1, lin1, fun i3 fn3 => (first_not fn3 er).elim, fun rows3 er3 => ?_⟩
              have e3 : rows3 = rows2 := some_inj (er3.symm.trans er)
              subst e3
              refine ⟨fun hG3 Hr v3 sr hP3 => ?_, fun i3 bad3 => absurd hG2 bad3.not⟩
              refine ⟨_, rfl, .inr ⟨rfl, _, rfl, ite2 (fun h => absurd h (by decide)) fun _ => ?_⟩⟩
              refine ⟨_, rfl, rfl, _, rfl, ite2 (fun _ => ?_) fun h => absurd (by decide) h⟩
              refine ⟨_, rfl, one, rows3, rfl, len1, lin1, er, hG2, fun Hq v4 sq hP4 => ?_⟩
              refine ⟨_, rfl, u, _, _, _, rfl, rfl, SqT.of (sq _ _ (sr _ _ hus)), rfl, ?_⟩
              obtain ⟨x4, us4, rfl, f4, g4⟩ := hP4
              obtain ⟨x2, us2, rfl, f2, g2⟩ := (hPs.tups (Same.tups (sr.trans sq)))
              refine ⟨x4, x2, us4, us2, rfl, rfl, .inl ⟨SqT.of f4, SqT.of f2⟩, Sd.pairs (F := PieceV Hq) (fun v u r a b => Sd.piece a b) g4 g2, _, rfl, ite2 (fun h => absurd h (by decide)) fun _ => ?_⟩
              exact ⟨_, _, _, _, _, rfl, Ds.same (sr.trans sq), Tabs.same ts (sr.trans sq), (sr.trans sq) _ _ hLs⟩
            · refine ⟨4, CP, dd, _, "piece", "patch", rfl, TCP, .inr ⟨rfl, rfl, rfl⟩, O_BadPatch.noN, rfl, upd_same, fun Hy pr sy _ hpr => ?_⟩
              have sxy := sx.trans ((Same.new hdd).trans sy)
              refine ⟨Tabs.same tt sxy, fun Hs es ts => ?_⟩
              have hprs : Hs pr = some (.tup [.str "patch", .int (i2 : Int)]) := es _ _ hpr fun ps z => by cases z
              have Ds := (Dt.same sxy).ext es
              have hLs : Hs qL = some (.lst (strsV [t, y])) := es _ _ (sxy _ _ hLt) fun ps z => by cases z
              refine ⟨_, rfl, one, rfl, len1, lin1, fun i3 fn3 => (first_not fn3 er).elim, fun rows3 er3 => ?_⟩
              have e3 : rows3 = rows2 := some_inj (er3.symm.trans er)
              subst e3
              refine ⟨fun hG3 => absurd hG3 bad.not, fun i3 bad3 Hz d2 sz hd2 => ?_⟩
              have e4 : i3 = i2 := bad3.one bad
              subst e4
              refine ⟨4, CP, d2, _, "piece", "patch", rfl, TCP, .inr ⟨rfl, rfl, rfl⟩, O_BadPatch.noN, rfl, upd_same, fun Hw pw sw _ hpw => ?_⟩
              have szw := sz.trans ((Same.new hd2).trans sw)
              have fl : ∀ x ∈ [V.str "patch", V.int (i3 : Int)], flatB x = true := fun x hx => by
                rcases List.mem_cons.mp hx with rfl | hx
                · rfl
                · rw [List.mem_singleton.mp hx]; rfl
              refine ⟨_, rfl, .inl ⟨pw, pr, _, _, rfl, rfl, .inl ⟨SqT.of hpw, SqT.of (szw _ _ hprs)⟩, Sd.flat fl, _, rfl, ite2 (fun h => absurd h (by decide)) fun _ => ?_⟩⟩
              refine ⟨_, rfl, rfl, _, rfl, ite2 (fun h => absurd (of_decide_eq_true h) (by intro z; cases z)) fun _ => ?_⟩
              exact ⟨_, _, _, _, _, rfl, Ds.same szw, Tabs.same ts szw, szw _ _ hLs⟩
        · rintro σ H9 ⟨w2, w4, w5, w6, w7, rfl, D9, tb9, hL9⟩
          exact ⟨_, _, _, _, _, _, rfl, D9, tb9⟩
    · rintro σ H2 _
      exact k H2
end
theorem tab_at {K : PySem.W.Frag} {x : Str} {f c P : Addr} {oc : Value} {od : Option Addr} {fd : FuncData} {sl : Array (Option Value)} {cl : Value} {cd : Option Addr} {vs : Array Value} {cs : Array (Option Value)} (a : PySem.W.nsIn K mainGlobals x = some (some (.ref f))) (l : K.lookup f = some ⟨oc, od, .func fd, sl⟩)
    (hc : fd.code = .ref c) (lc : K.lookup c = some ⟨cl, cd, .fields vs, cs⟩) (hp : vs[11]? = some (.ref P)) : PySem.W.tabIn K x = some (c, P) := by
  unfold PySem.W.tabIn
  rw [a]; dsimp only; rw [l]; dsimp only; rw [hc]; dsimp only; rw [lc]; dsimp only; rw [hp]
theorem all_mk {l : PySem.W.OpenLaw} {w : World} {K : PySem.W.Frag} {h : Heap} {mg : Str → Option Value} {fa f0 f1 f2 f3 f4 f5 f6 f7 f8 f9 f10 f11 f12 f13 f14 f15 f16 f17 f18 f19 f20 k_PatchError k_BadEdition k_BadPatch k_BadCount k_TooMany k_Asleep k_Awake k_BadName k_Known k_NoName k_Around k_InUse k_NoDevice k_BadDeed k_BadImage k_BadText k_Halted cL PL : Addr} (X : K.In h) (G : h.Ns mainGlobals mg) (hfa : mg "law" = some (.ref fa))
    {od0 an0 od1 an1 od2 an2 od3 an3 od4 an4 od5 an5 od6 an6 od7 an7 od8 an8 od9 an9 od10 an10 od11 an11 od12 an12 od13 an13 od14 an14 od15 an15 od16 an16 od17 an17 od18 an18 od19 an19 od20 an20 : Option Addr} {sl0 sl1 sl2 sl3 sl4 sl5 sl6 sl7 sl8 sl9 sl10 sl11 sl12 sl13 sl14 sl15 sl16 sl17 sl18 sl19 sl20 : Array (Option Value)} {oc0 kV0 dc0 pm0 ct0 cd0 oc1 kV1 dc1 pm1 ct1 cd1 oc2 kV2 dc2 pm2 ct2 cd2 oc3 kV3 dc3 pm3 ct3 cd3 oc4 kV4 dc4 pm4 ct4 cd4 oc5 kV5 dc5 pm5 ct5 cd5 oc6 kV6 dc6 pm6 ct6 cd6 oc7 kV7 dc7 pm7 ct7 cd7 oc8 kV8 dc8 pm8 ct8 cd8 oc9 kV9 dc9 pm9 ct9 cd9 oc10 kV10 dc10 pm10 ct10 cd10 oc11 kV11 dc11 pm11 ct11 cd11 oc12 kV12 dc12 pm12 ct12 cd12 oc13 kV13 dc13 pm13 ct13 cd13 oc14 kV14 dc14 pm14 ct14 cd14 oc15 kV15 dc15 pm15 ct15 cd15 oc16 kV16 dc16 pm16 ct16 cd16 oc17 kV17 dc17 pm17 ct17 cd17 oc18 kV18 dc18 pm18 ct18 cd18 oc19 kV19 dc19 pm19 ct19 cd19 oc20 kV20 dc20 pm20 ct20 : Value}
    {clL : Value} {cdL : Option Addr} {csL : Array (Option Value)} {vsL : Array Value}
    (a0 : PySem.W.nsIn K mainGlobals "bytes_of" = some (some (.ref f0)))
    (l0 : K.lookup f0 = some ⟨oc0, od0, .func (PySem.W.fnOf "bytes_of" "bytes_of" (defArgs s_bytes_of) (defBody s_bytes_of) (defScope s_bytes_of) .none kV0 dc0 pm0 an0 cd0 ct0), sl0⟩)
    (c0 : PySem.W.codeIn K cd0 "bytes_of" = true) (k0 : PySem.W.keepIn K (.ref f0) = true)
    (a1 : PySem.W.nsIn K mainGlobals "is_number" = some (some (.ref f1)))
    (l1 : K.lookup f1 = some ⟨oc1, od1, .func (PySem.W.fnOf "is_number" "is_number" (defArgs s_is_number) (defBody s_is_number) (defScope s_is_number) .none kV1 dc1 pm1 an1 cd1 ct1), sl1⟩)
    (c1 : PySem.W.codeIn K cd1 "is_number" = true) (k1 : PySem.W.keepIn K (.ref f1) = true)
    (a2 : PySem.W.nsIn K mainGlobals "can_be" = some (some (.ref f2)))
    (l2 : K.lookup f2 = some ⟨oc2, od2, .func (PySem.W.fnOf "can_be" "can_be" (defArgs s_can_be) (defBody s_can_be) (defScope s_can_be) .none kV2 dc2 pm2 an2 cd2 ct2), sl2⟩)
    (c2 : PySem.W.codeIn K cd2 "can_be" = true) (k2 : PySem.W.keepIn K (.ref f2) = true)
    (a3 : PySem.W.nsIn K mainGlobals "length_of" = some (some (.ref f3)))
    (l3 : K.lookup f3 = some ⟨oc3, od3, .func (PySem.W.fnOf "length_of" "length_of" (defArgs s_length_of) (defBody s_length_of) (defScope s_length_of) .none kV3 dc3 pm3 an3 cd3 ct3), sl3⟩)
    (c3 : PySem.W.codeIn K cd3 "length_of" = true) (k3 : PySem.W.keepIn K (.ref f3) = true)
    (a4 : PySem.W.nsIn K mainGlobals "check_patch" = some (some (.ref f4)))
    (l4 : K.lookup f4 = some ⟨oc4, od4, .func (PySem.W.fnOf "check_patch" "check_patch" (defArgs s_check_patch) (defBody s_check_patch) (defScope s_check_patch) .none kV4 dc4 pm4 an4 cd4 ct4), sl4⟩)
    (c4 : PySem.W.codeIn K cd4 "check_patch" = true) (k4 : PySem.W.keepIn K (.ref f4) = true)
    (a5 : PySem.W.nsIn K mainGlobals "written" = some (some (.ref f5)))
    (l5 : K.lookup f5 = some ⟨oc5, od5, .func (PySem.W.fnOf "written" "written" (defArgs s_written) (defBody s_written) (defScope s_written) .none kV5 dc5 pm5 an5 cd5 ct5), sl5⟩)
    (c5 : PySem.W.codeIn K cd5 "written" = true) (k5 : PySem.W.keepIn K (.ref f5) = true)
    (a6 : PySem.W.nsIn K mainGlobals "read" = some (some (.ref f6)))
    (l6 : K.lookup f6 = some ⟨oc6, od6, .func (PySem.W.fnOf "read" "read" (defArgs s_read) (defBody s_read) (defScope s_read) .none kV6 dc6 pm6 an6 cd6 ct6), sl6⟩)
    (c6 : PySem.W.codeIn K cd6 "read" = true) (k6 : PySem.W.keepIn K (.ref f6) = true)
    (a7 : PySem.W.nsIn K mainGlobals "rows_of" = some (some (.ref f7)))
    (l7 : K.lookup f7 = some ⟨oc7, od7, .func (PySem.W.fnOf "rows_of" "rows_of" (defArgs s_rows_of) (defBody s_rows_of) (defScope s_rows_of) .none kV7 dc7 pm7 an7 cd7 ct7), sl7⟩)
    (c7 : PySem.W.codeIn K cd7 "rows_of" = true) (k7 : PySem.W.keepIn K (.ref f7) = true)
    (a8 : PySem.W.nsIn K mainGlobals "row_of" = some (some (.ref f8)))
    (l8 : K.lookup f8 = some ⟨oc8, od8, .func (PySem.W.fnOf "row_of" "row_of" (defArgs s_row_of) (defBody s_row_of) (defScope s_row_of) .none kV8 dc8 pm8 an8 cd8 ct8), sl8⟩)
    (c8 : PySem.W.codeIn K cd8 "row_of" = true) (k8 : PySem.W.keepIn K (.ref f8) = true)
    (a9 : PySem.W.nsIn K mainGlobals "piece_of" = some (some (.ref f9)))
    (l9 : K.lookup f9 = some ⟨oc9, od9, .func (PySem.W.fnOf "piece_of" "piece_of" (defArgs s_piece_of) (defBody s_piece_of) (defScope s_piece_of) .none kV9 dc9 pm9 an9 cd9 ct9), sl9⟩)
    (c9 : PySem.W.codeIn K cd9 "piece_of" = true) (k9 : PySem.W.keepIn K (.ref f9) = true)
    (a10 : PySem.W.nsIn K mainGlobals "with_things" = some (some (.ref f10)))
    (l10 : K.lookup f10 = some ⟨oc10, od10, .func (PySem.W.fnOf "with_things" "with_things" (defArgs s_with_things) (defBody s_with_things) (defScope s_with_things) .none kV10 dc10 pm10 an10 cd10 ct10), sl10⟩)
    (c10 : PySem.W.codeIn K cd10 "with_things" = true) (k10 : PySem.W.keepIn K (.ref f10) = true)
    (a11 : PySem.W.nsIn K mainGlobals "with_bytes" = some (some (.ref f11)))
    (l11 : K.lookup f11 = some ⟨oc11, od11, .func (PySem.W.fnOf "with_bytes" "with_bytes" (defArgs s_with_bytes) (defBody s_with_bytes) (defScope s_with_bytes) .none kV11 dc11 pm11 an11 cd11 ct11), sl11⟩)
    (c11 : PySem.W.codeIn K cd11 "with_bytes" = true) (k11 : PySem.W.keepIn K (.ref f11) = true)
    (a12 : PySem.W.nsIn K mainGlobals "number_of" = some (some (.ref f12)))
    (l12 : K.lookup f12 = some ⟨oc12, od12, .func (PySem.W.fnOf "number_of" "number_of" (defArgs s_number_of) (defBody s_number_of) (defScope s_number_of) .none kV12 dc12 pm12 an12 cd12 ct12), sl12⟩)
    (c12 : PySem.W.codeIn K cd12 "number_of" = true) (k12 : PySem.W.keepIn K (.ref f12) = true)
    (a13 : PySem.W.nsIn K mainGlobals "makes" = some (some (.ref f13)))
    (l13 : K.lookup f13 = some ⟨oc13, od13, .func (PySem.W.fnOf "makes" "makes" (defArgs s_makes) (defBody s_makes) (defScope s_makes) .none kV13 dc13 pm13 an13 cd13 ct13), sl13⟩)
    (c13 : PySem.W.codeIn K cd13 "makes" = true) (k13 : PySem.W.keepIn K (.ref f13) = true)
    (a14 : PySem.W.nsIn K mainGlobals "_law_taken" = some (some (.ref f14)))
    (l14 : K.lookup f14 = some ⟨oc14, od14, .func (PySem.W.fnOf "_law_taken" "_law_taken" (defArgs s_law_taken) (defBody s_law_taken) (defScope s_law_taken) .none kV14 dc14 pm14 an14 cd14 ct14), sl14⟩)
    (c14 : PySem.W.codeIn K cd14 "_law_taken" = true) (k14 : PySem.W.keepIn K (.ref f14) = true)
    (a15 : PySem.W.nsIn K mainGlobals "_law_word" = some (some (.ref f15)))
    (l15 : K.lookup f15 = some ⟨oc15, od15, .func (PySem.W.fnOf "_law_word" "_law_word" (defArgs s_law_word) (defBody s_law_word) (defScope s_law_word) .none kV15 dc15 pm15 an15 cd15 ct15), sl15⟩)
    (c15 : PySem.W.codeIn K cd15 "_law_word" = true) (k15 : PySem.W.keepIn K (.ref f15) = true)
    (a16 : PySem.W.nsIn K mainGlobals "_law_patch" = some (some (.ref f16)))
    (l16 : K.lookup f16 = some ⟨oc16, od16, .func (PySem.W.fnOf "_law_patch" "_law_patch" (defArgs s_law_patch) (defBody s_law_patch) (defScope s_law_patch) .none kV16 dc16 pm16 an16 cd16 ct16), sl16⟩)
    (c16 : PySem.W.codeIn K cd16 "_law_patch" = true) (k16 : PySem.W.keepIn K (.ref f16) = true)
    (a17 : PySem.W.nsIn K mainGlobals "_law_number" = some (some (.ref f17)))
    (l17 : K.lookup f17 = some ⟨oc17, od17, .func (PySem.W.fnOf "_law_number" "_law_number" (defArgs s_law_number) (defBody s_law_number) (defScope s_law_number) .none kV17 dc17 pm17 an17 cd17 ct17), sl17⟩)
    (c17 : PySem.W.codeIn K cd17 "_law_number" = true) (k17 : PySem.W.keepIn K (.ref f17) = true)
    (a18 : PySem.W.nsIn K mainGlobals "_law_due" = some (some (.ref f18)))
    (l18 : K.lookup f18 = some ⟨oc18, od18, .func (PySem.W.fnOf "_law_due" "_law_due" (defArgs s_law_due) (defBody s_law_due) (defScope s_law_due) .none kV18 dc18 pm18 an18 cd18 ct18), sl18⟩)
    (c18 : PySem.W.codeIn K cd18 "_law_due" = true) (k18 : PySem.W.keepIn K (.ref f18) = true)
    (a19 : PySem.W.nsIn K mainGlobals "_law_changed" = some (some (.ref f19)))
    (l19 : K.lookup f19 = some ⟨oc19, od19, .func (PySem.W.fnOf "_law_changed" "_law_changed" (defArgs s_law_changed) (defBody s_law_changed) (defScope s_law_changed) .none kV19 dc19 pm19 an19 cd19 ct19), sl19⟩)
    (c19 : PySem.W.codeIn K cd19 "_law_changed" = true) (k19 : PySem.W.keepIn K (.ref f19) = true)
    (a20 : PySem.W.nsIn K mainGlobals "law" = some (some (.ref f20)))
    (l20 : K.lookup f20 = some ⟨oc20, od20, .func (PySem.W.fnOf "law" "law" (defArgs s_law) (defBody s_law) (defScope s_law) .none kV20 dc20 pm20 an20 (.ref cL) ct20), sl20⟩)
    (c20 : PySem.W.codeIn K (.ref cL) "law" = true) (k20 : PySem.W.keepIn K (.ref f20) = true)
    {t0 : Tok} (z0 : PySem.W.nsIn K mainGlobals "MOST" = some (some (.int 200 t0)))
    {t1 : Tok} (z1 : PySem.W.nsIn K mainGlobals "LAST_BYTE" = some (some (.int 255 t1)))
    {t2 : Tok} (z2 : PySem.W.nsIn K mainGlobals "FIGURES" = some (some (.str "0123456789" t2)))
    {t3 : Tok} (z3 : PySem.W.nsIn K mainGlobals "FEW" = some (some (.int 3 t3)))
    (h_PatchError : PySem.W.nsIn K mainGlobals "PatchError" = some (some (.ref k_PatchError)))
    (h_BadEdition : PySem.W.nsIn K mainGlobals "BadEdition" = some (some (.ref k_BadEdition)))
    (h_BadPatch : PySem.W.nsIn K mainGlobals "BadPatch" = some (some (.ref k_BadPatch)))
    (h_BadCount : PySem.W.nsIn K mainGlobals "BadCount" = some (some (.ref k_BadCount)))
    (h_TooMany : PySem.W.nsIn K mainGlobals "TooMany" = some (some (.ref k_TooMany)))
    (h_Asleep : PySem.W.nsIn K mainGlobals "Asleep" = some (some (.ref k_Asleep)))
    (h_Awake : PySem.W.nsIn K mainGlobals "Awake" = some (some (.ref k_Awake)))
    (h_BadName : PySem.W.nsIn K mainGlobals "BadName" = some (some (.ref k_BadName)))
    (h_Known : PySem.W.nsIn K mainGlobals "Known" = some (some (.ref k_Known)))
    (h_NoName : PySem.W.nsIn K mainGlobals "NoName" = some (some (.ref k_NoName)))
    (h_Around : PySem.W.nsIn K mainGlobals "Around" = some (some (.ref k_Around)))
    (h_InUse : PySem.W.nsIn K mainGlobals "InUse" = some (some (.ref k_InUse)))
    (h_NoDevice : PySem.W.nsIn K mainGlobals "NoDevice" = some (some (.ref k_NoDevice)))
    (h_BadDeed : PySem.W.nsIn K mainGlobals "BadDeed" = some (some (.ref k_BadDeed)))
    (h_BadImage : PySem.W.nsIn K mainGlobals "BadImage" = some (some (.ref k_BadImage)))
    (h_BadText : PySem.W.nsIn K mainGlobals "BadText" = some (some (.ref k_BadText)))
    (h_Halted : PySem.W.nsIn K mainGlobals "Halted" = some (some (.ref k_Halted)))
    (y_ValueError : PySem.W.nsIn K mainGlobals "ValueError" = some none)
    (y_all : PySem.W.nsIn K mainGlobals "all" = some none)
    (y_bool : PySem.W.nsIn K mainGlobals "bool" = some none)
    (y_bytes : PySem.W.nsIn K mainGlobals "bytes" = some none)
    (y_enumerate : PySem.W.nsIn K mainGlobals "enumerate" = some none)
    (y_int : PySem.W.nsIn K mainGlobals "int" = some none)
    (y_isinstance : PySem.W.nsIn K mainGlobals "isinstance" = some none)
    (y_len : PySem.W.nsIn K mainGlobals "len" = some none)
    (y_max : PySem.W.nsIn K mainGlobals "max" = some none)
    (y_min : PySem.W.nsIn K mainGlobals "min" = some none)
    (y_range : PySem.W.nsIn K mainGlobals "range" = some none)
    (y_str : PySem.W.nsIn K mainGlobals "str" = some none)
    (y_sum : PySem.W.nsIn K mainGlobals "sum" = some none)
    (y_tuple : PySem.W.nsIn K mainGlobals "tuple" = some none)
    {fI_BadPatch cda_BadPatch ccI_BadPatch : Addr} {nmC_BadPatch qC_BadPatch : Str} {NC_BadPatch : Addr} {bsC_BadPatch bmC_BadPatch : List Value} {snC_BadPatch : List Str} {subC_BadPatch : List Value} {abC_BadPatch : Bool} {colC_BadPatch : Option Bool} {ddC_BadPatch : Option Addr} {m0_BadPatch m1_BadPatch m2_BadPatch m3_BadPatch m5_BadPatch : Option Value} {ocI_BadPatch dcI_BadPatch pmI_BadPatch ctI_BadPatch ccl_BadPatch clI_BadPatch : Value} {odI_BadPatch anI_BadPatch cdd_BadPatch cldI_BadPatch : Option Addr} {slI_BadPatch ccs_BadPatch cslI_BadPatch : Array (Option Value)} {vsI_BadPatch : Array Value} {file_BadPatch : Str} {tf_BadPatch : Tok}
    {fI_BadText cda_BadText ccI_BadText : Addr} {nmC_BadText qC_BadText : Str} {NC_BadText : Addr} {bsC_BadText bmC_BadText : List Value} {snC_BadText : List Str} {subC_BadText : List Value} {abC_BadText : Bool} {colC_BadText : Option Bool} {ddC_BadText : Option Addr} {m0_BadText m1_BadText m2_BadText m3_BadText m5_BadText : Option Value} {ocI_BadText dcI_BadText pmI_BadText ctI_BadText ccl_BadText clI_BadText : Value} {odI_BadText anI_BadText cdd_BadText cldI_BadText : Option Addr} {slI_BadText ccs_BadText cslI_BadText : Array (Option Value)} {vsI_BadText : Array Value} {file_BadText : Str} {tf_BadText : Tok}
    (o_cls_BadPatch : K.lookup k_BadPatch = some (excClassObj nmC_BadPatch qC_BadPatch k_BadPatch NC_BadPatch bsC_BadPatch bmC_BadPatch true snC_BadPatch subC_BadPatch abC_BadPatch colC_BadPatch ddC_BadPatch m0_BadPatch m1_BadPatch m2_BadPatch m3_BadPatch m5_BadPatch "ValueError.__new__"))
    (o_bm_BadPatch : PySem.HandSPX.refsVE bmC_BadPatch = true)
    (o_sa_BadPatch : PySem.W.findIn K (.ref k_BadPatch) "__setattr__" = some (some (.builtin "object.__setattr__")))
    (o_noN_BadPatch : PySem.W.findIn K (.ref k_BadPatch) "piece" = some none)
    (o_iC_BadPatch : PySem.W.findIn K (.ref k_BadPatch) "__init__" = some (some (.ref fI_BadPatch)))
    (o_tC_BadPatch : PySem.W.typeIn K (.ref fI_BadPatch) = some (.type "function"))
    (o_kC_BadPatch : PySem.W.keepIn K (.ref k_BadPatch) = true)
    (o_exC_BadPatch : PySem.W.subIn K (.ref k_BadPatch) (.type "BaseException") = some true)
    (o_tyC_BadPatch : PySem.W.typeIn K (.ref k_BadPatch) = some (.type "type"))
    (o_sup_BadPatch : PySem.W.ks_superIn K k_BadPatch k_BadPatch "__init__" = some (some (.builtin "ValueError.__init__")))
    (o_subV_BadPatch : PySem.W.subIn K (.ref k_BadPatch) (.type "ValueError") = some true)
    (o_mroC_BadPatch : PySem.W.mroIn K k_BadPatch (.ref k_BadPatch) = some true)
    (o_any_BadPatch : PySem.W.nsIn K cStatics "thirdparty.any" = some none)
    (o_mS_BadPatch : PySem.W.nsIn K mainGlobals "super" = some none)
    (o_fn_BadPatch : K.lookup fI_BadPatch = some ⟨ocI_BadPatch, odI_BadPatch, .func (PySem.W.ksFn "__init__" "BadPatch.__init__" (defArgs N_BadPatch.iniSt) (defBody N_BadPatch.iniSt) (defScope N_BadPatch.iniSt) .none .none dcI_BadPatch pmI_BadPatch anI_BadPatch (.ref cda_BadPatch) ctI_BadPatch ccI_BadPatch), slI_BadPatch⟩)
    (o_cI_BadPatch : PySem.W.codeIn K (.ref cda_BadPatch) "BadPatch.__init__" = true)
    (o_cd_BadPatch : K.lookup cda_BadPatch = some ⟨ccl_BadPatch, cdd_BadPatch, .fields vsI_BadPatch, ccs_BadPatch⟩)
    (o_vs_BadPatch : vsI_BadPatch[2]? = some (.str file_BadPatch tf_BadPatch))
    (o_file_BadPatch : ((l.prog.main.file : Str) == file_BadPatch) = true)
    (o_cc_BadPatch : K.lookup ccI_BadPatch = some ⟨clI_BadPatch, cldI_BadPatch, .cell (some (.ref k_BadPatch)), cslI_BadPatch⟩)
    (o_top_BadPatch : (l.prog.main.scope.names.lookup ("super" : Str)).isSome = false)
    (o_cls_BadText : K.lookup k_BadText = some (excClassObj nmC_BadText qC_BadText k_BadText NC_BadText bsC_BadText bmC_BadText true snC_BadText subC_BadText abC_BadText colC_BadText ddC_BadText m0_BadText m1_BadText m2_BadText m3_BadText m5_BadText "ValueError.__new__"))
    (o_bm_BadText : PySem.HandSPX.refsVE bmC_BadText = true)
    (o_sa_BadText : PySem.W.findIn K (.ref k_BadText) "__setattr__" = some (some (.builtin "object.__setattr__")))
    (o_noN_BadText : PySem.W.findIn K (.ref k_BadText) "row" = some none)
    (o_iC_BadText : PySem.W.findIn K (.ref k_BadText) "__init__" = some (some (.ref fI_BadText)))
    (o_tC_BadText : PySem.W.typeIn K (.ref fI_BadText) = some (.type "function"))
    (o_kC_BadText : PySem.W.keepIn K (.ref k_BadText) = true)
    (o_exC_BadText : PySem.W.subIn K (.ref k_BadText) (.type "BaseException") = some true)
    (o_tyC_BadText : PySem.W.typeIn K (.ref k_BadText) = some (.type "type"))
    (o_sup_BadText : PySem.W.ks_superIn K k_BadText k_BadText "__init__" = some (some (.builtin "ValueError.__init__")))
    (o_subV_BadText : PySem.W.subIn K (.ref k_BadText) (.type "ValueError") = some true)
    (o_mroC_BadText : PySem.W.mroIn K k_BadText (.ref k_BadText) = some true)
    (o_any_BadText : PySem.W.nsIn K cStatics "thirdparty.any" = some none)
    (o_mS_BadText : PySem.W.nsIn K mainGlobals "super" = some none)
    (o_fn_BadText : K.lookup fI_BadText = some ⟨ocI_BadText, odI_BadText, .func (PySem.W.ksFn "__init__" "BadText.__init__" (defArgs N_BadText.iniSt) (defBody N_BadText.iniSt) (defScope N_BadText.iniSt) .none .none dcI_BadText pmI_BadText anI_BadText (.ref cda_BadText) ctI_BadText ccI_BadText), slI_BadText⟩)
    (o_cI_BadText : PySem.W.codeIn K (.ref cda_BadText) "BadText.__init__" = true)
    (o_cd_BadText : K.lookup cda_BadText = some ⟨ccl_BadText, cdd_BadText, .fields vsI_BadText, ccs_BadText⟩)
    (o_vs_BadText : vsI_BadText[2]? = some (.str file_BadText tf_BadText))
    (o_file_BadText : ((l.prog.main.file : Str) == file_BadText) = true)
    (o_cc_BadText : K.lookup ccI_BadText = some ⟨clI_BadText, cldI_BadText, .cell (some (.ref k_BadText)), cslI_BadText⟩)
    (o_top_BadText : (l.prog.main.scope.names.lookup ("super" : Str)).isSome = false)
    (e_hn : PySem.W.specialIn K (.builtin "object.__class__") "__get__" = some (some (.builtin "getset_descriptor.__get__")))
    (e_ht : PySem.W.takesIn K (.builtin "object.__class__") = some true)
    (p_ex : PySem.W.subIn K (.ref k_PatchError) (.type "BaseException") = some true)
    (p_hd : PySem.W.hasDictIn K k_PatchError = true)
    (p_ty : PySem.W.typeIn K (.ref k_PatchError) = some (.type "type"))
    (o_ga_BadPatch : PySem.W.findIn K (.ref k_BadPatch) "__getattribute__" = some (some (.builtin "BaseException.__getattribute__")))
    (o_gg_BadPatch : PySem.W.findIn K (.ref k_BadPatch) "__getattr__" = some none)
    (o_hdC_BadPatch : PySem.W.hasDictIn K k_BadPatch = true)
    (e_ha_BadPatch : PySem.W.findIn K (.ref k_BadPatch) "__class__" = some (some (.builtin "object.__class__")))
    (o_mroO_BadPatch : PySem.W.mroIn K k_BadPatch (.type "object") = some true)
    (p_sub_BadPatch : PySem.W.subIn K (.ref k_BadPatch) (.ref k_PatchError) = some true)
    (i_BadDeed_BadPatch : PySem.W.kitOne K (.ref k_BadPatch) (.ref k_BadDeed) = some (decide (4 = 0)))
    (i_BadImage_BadPatch : PySem.W.kitOne K (.ref k_BadPatch) (.ref k_BadImage) = some (decide (4 = 1)))
    (i_BadText_BadPatch : PySem.W.kitOne K (.ref k_BadPatch) (.ref k_BadText) = some (decide (4 = 2)))
    (i_Halted_BadPatch : PySem.W.kitOne K (.ref k_BadPatch) (.ref k_Halted) = some (decide (4 = 3)))
    (i_BadPatch_BadPatch : PySem.W.kitOne K (.ref k_BadPatch) (.ref k_BadPatch) = some (decide (4 = 4)))
    (i_Around_BadPatch : PySem.W.kitOne K (.ref k_BadPatch) (.ref k_Around) = some (decide (4 = 5)))
    (i_Asleep_BadPatch : PySem.W.kitOne K (.ref k_BadPatch) (.ref k_Asleep) = some (decide (4 = 6)))
    (i_Awake_BadPatch : PySem.W.kitOne K (.ref k_BadPatch) (.ref k_Awake) = some (decide (4 = 7)))
    (i_BadCount_BadPatch : PySem.W.kitOne K (.ref k_BadPatch) (.ref k_BadCount) = some (decide (4 = 8)))
    (i_BadEdition_BadPatch : PySem.W.kitOne K (.ref k_BadPatch) (.ref k_BadEdition) = some (decide (4 = 9)))
    (i_BadName_BadPatch : PySem.W.kitOne K (.ref k_BadPatch) (.ref k_BadName) = some (decide (4 = 10)))
    (i_InUse_BadPatch : PySem.W.kitOne K (.ref k_BadPatch) (.ref k_InUse) = some (decide (4 = 11)))
    (i_Known_BadPatch : PySem.W.kitOne K (.ref k_BadPatch) (.ref k_Known) = some (decide (4 = 12)))
    (i_NoDevice_BadPatch : PySem.W.kitOne K (.ref k_BadPatch) (.ref k_NoDevice) = some (decide (4 = 13)))
    (i_NoName_BadPatch : PySem.W.kitOne K (.ref k_BadPatch) (.ref k_NoName) = some (decide (4 = 14)))
    (i_TooMany_BadPatch : PySem.W.kitOne K (.ref k_BadPatch) (.ref k_TooMany) = some (decide (4 = 15)))
    (ve_BadPatch : PySem.W.kitOne K (.ref k_BadPatch) (.type "ValueError") = some true)
    (o_ga_BadText : PySem.W.findIn K (.ref k_BadText) "__getattribute__" = some (some (.builtin "BaseException.__getattribute__")))
    (o_gg_BadText : PySem.W.findIn K (.ref k_BadText) "__getattr__" = some none)
    (o_hdC_BadText : PySem.W.hasDictIn K k_BadText = true)
    (e_ha_BadText : PySem.W.findIn K (.ref k_BadText) "__class__" = some (some (.builtin "object.__class__")))
    (o_mroO_BadText : PySem.W.mroIn K k_BadText (.type "object") = some true)
    (p_sub_BadText : PySem.W.subIn K (.ref k_BadText) (.ref k_PatchError) = some true)
    (i_BadDeed_BadText : PySem.W.kitOne K (.ref k_BadText) (.ref k_BadDeed) = some (decide (2 = 0)))
    (i_BadImage_BadText : PySem.W.kitOne K (.ref k_BadText) (.ref k_BadImage) = some (decide (2 = 1)))
    (i_BadText_BadText : PySem.W.kitOne K (.ref k_BadText) (.ref k_BadText) = some (decide (2 = 2)))
    (i_Halted_BadText : PySem.W.kitOne K (.ref k_BadText) (.ref k_Halted) = some (decide (2 = 3)))
    (i_BadPatch_BadText : PySem.W.kitOne K (.ref k_BadText) (.ref k_BadPatch) = some (decide (2 = 4)))
    (i_Around_BadText : PySem.W.kitOne K (.ref k_BadText) (.ref k_Around) = some (decide (2 = 5)))
    (i_Asleep_BadText : PySem.W.kitOne K (.ref k_BadText) (.ref k_Asleep) = some (decide (2 = 6)))
    (i_Awake_BadText : PySem.W.kitOne K (.ref k_BadText) (.ref k_Awake) = some (decide (2 = 7)))
    (i_BadCount_BadText : PySem.W.kitOne K (.ref k_BadText) (.ref k_BadCount) = some (decide (2 = 8)))
    (i_BadEdition_BadText : PySem.W.kitOne K (.ref k_BadText) (.ref k_BadEdition) = some (decide (2 = 9)))
    (i_BadName_BadText : PySem.W.kitOne K (.ref k_BadText) (.ref k_BadName) = some (decide (2 = 10)))
    (i_InUse_BadText : PySem.W.kitOne K (.ref k_BadText) (.ref k_InUse) = some (decide (2 = 11)))
    (i_Known_BadText : PySem.W.kitOne K (.ref k_BadText) (.ref k_Known) = some (decide (2 = 12)))
    (i_NoDevice_BadText : PySem.W.kitOne K (.ref k_BadText) (.ref k_NoDevice) = some (decide (2 = 13)))
    (i_NoName_BadText : PySem.W.kitOne K (.ref k_BadText) (.ref k_NoName) = some (decide (2 = 14)))
    (i_TooMany_BadText : PySem.W.kitOne K (.ref k_BadText) (.ref k_TooMany) = some (decide (2 = 15)))
    (ve_BadText : PySem.W.kitOne K (.ref k_BadText) (.type "ValueError") = some true)
    (t_cd : K.lookup cL = some ⟨clL, cdL, .fields vsL, csL⟩)
    (t_p : vsL[11]? = some (.ref PL))
    (t_n : K.lookup PL = none)
    : ∃ (fd : FuncData) (cL PL : Addr), PySem.W.tabIn K "law" = some (cL, PL) ∧ K.lookup PL = none ∧ (∀ (s : Shared) (v : Value), BindsTo s fd ⟨[v], []⟩ [("_law_script", v)]) ∧ ∀ base : Heap, K.In base → base.Ns mainGlobals mg → LamX.TabB base mg cL PL → FnOk l.prog w K mg base CX0 11 fa fd ["_law_script"] (spLawT K PL) := by
  have e := hfa.symm.trans (PySem.W.mg_of X G a20)
  cases e
  have F0 := fun_mk (st := s_bytes_of) l0 c0 k0
  have b0 := F0.binds (ps := ["numbers"]) fun _ _ _ _ _ _ us hl => match us, hl with | [_], _ => rfl
  have F1 := fun_mk (st := s_is_number) l1 c1 k1
  have b1 := F1.binds (ps := ["what", "least", "most"]) fun _ _ _ _ _ _ us hl => match us, hl with | [_, _, _], _ => rfl
  have F2 := fun_mk (st := s_can_be) l2 c2 k2
  have b2 := F2.binds (ps := ["piece"]) fun _ _ _ _ _ _ us hl => match us, hl with | [_], _ => rfl
  have F3 := fun_mk (st := s_length_of) l3 c3 k3
  have b3 := F3.binds (ps := ["piece"]) fun _ _ _ _ _ _ us hl => match us, hl with | [_], _ => rfl
  have F4 := fun_mk (st := s_check_patch) l4 c4 k4
  have b4 := F4.binds (ps := ["patch"]) fun _ _ _ _ _ _ us hl => match us, hl with | [_], _ => rfl
  have F5 := fun_mk (st := s_written) l5 c5 k5
  have b5 := F5.binds (ps := ["patch"]) fun _ _ _ _ _ _ us hl => match us, hl with | [_], _ => rfl
  have F6 := fun_mk (st := s_read) l6 c6 k6
  have b6 := F6.binds (ps := ["text"]) fun _ _ _ _ _ _ us hl => match us, hl with | [_], _ => rfl
  have F7 := fun_mk (st := s_rows_of) l7 c7 k7
  have b7 := F7.binds (ps := ["text"]) fun _ _ _ _ _ _ us hl => match us, hl with | [_], _ => rfl
  have F8 := fun_mk (st := s_row_of) l8 c8 k8
  have b8 := F8.binds (ps := ["things"]) fun _ _ _ _ _ _ us hl => match us, hl with | [_], _ => rfl
  have F9 := fun_mk (st := s_piece_of) l9 c9 k9
  have b9 := F9.binds (ps := ["words"]) fun _ _ _ _ _ _ us hl => match us, hl with | [_], _ => rfl
  have F10 := fun_mk (st := s_with_things) l10 c10 k10
  have b10 := F10.binds (ps := ["first", "things"]) fun _ _ _ _ _ _ us hl => match us, hl with | [_, _], _ => rfl
  have F11 := fun_mk (st := s_with_bytes) l11 c11 k11
  have b11 := F11.binds (ps := ["ahead", "words", "figures"]) fun _ _ _ _ _ _ us hl => match us, hl with | [_, _, _], _ => rfl
  have F12 := fun_mk (st := s_number_of) l12 c12 k12
  have b12 := F12.binds (ps := ["word", "figures"]) fun _ _ _ _ _ _ us hl => match us, hl with | [_, _], _ => rfl
  have F13 := fun_mk (st := s_makes) l13 c13 k13
  have b13 := F13.binds (ps := ["patch"]) fun _ _ _ _ _ _ us hl => match us, hl with | [_], _ => rfl
  have F14 := fun_mk (st := s_law_taken) l14 c14 k14
  have b14 := F14.binds (ps := ["_law_row", "_law_many"]) fun _ _ _ _ _ _ us hl => match us, hl with | [_, _], _ => rfl
  have F15 := fun_mk (st := s_law_word) l15 c15 k15
  have b15 := F15.binds (ps := ["_law_work"]) fun _ _ _ _ _ _ us hl => match us, hl with | [_], _ => rfl
  have F16 := fun_mk (st := s_law_patch) l16 c16 k16
  have b16 := F16.binds (ps := ["_law_row", "_law_most"]) fun _ _ _ _ _ _ us hl => match us, hl with | [_, _], _ => rfl
  have F17 := fun_mk (st := s_law_number) l17 c17 k17
  have b17 := F17.binds (ps := ["_law_word_here"]) fun _ _ _ _ _ _ us hl => match us, hl with | [_], _ => rfl
  have F18 := fun_mk (st := s_law_due) l18 c18 k18
  have b18 := F18.binds (ps := ["_law_text"]) fun _ _ _ _ _ _ us hl => match us, hl with | [_], _ => rfl
  have F19 := fun_mk (st := s_law_changed) l19 c19 k19
  have b19 := F19.binds (ps := ["_law_row", "_law_text"]) fun _ _ _ _ _ _ us hl => match us, hl with | [_, _], _ => rfl
  let T : All K mg := ⟨⟨f0, _, F0, PySem.W.mg_of X G a0, b0⟩, ⟨f1, _, F1, PySem.W.mg_of X G a1, b1⟩, ⟨f2, _, F2, PySem.W.mg_of X G a2, b2⟩, ⟨f3, _, F3, PySem.W.mg_of X G a3, b3⟩, ⟨f4, _, F4, PySem.W.mg_of X G a4, b4⟩, ⟨f5, _, F5, PySem.W.mg_of X G a5, b5⟩, ⟨f6, _, F6, PySem.W.mg_of X G a6, b6⟩, ⟨f7, _, F7, PySem.W.mg_of X G a7, b7⟩, ⟨f8, _, F8, PySem.W.mg_of X G a8, b8⟩, ⟨f9, _, F9, PySem.W.mg_of X G a9, b9⟩, ⟨f10, _, F10, PySem.W.mg_of X G a10, b10⟩, ⟨f11, _, F11, PySem.W.mg_of X G a11, b11⟩, ⟨f12, _, F12, PySem.W.mg_of X G a12, b12⟩, ⟨f13, _, F13, PySem.W.mg_of X G a13, b13⟩, ⟨f14, _, F14, PySem.W.mg_of X G a14, b14⟩, ⟨f15, _, F15, PySem.W.mg_of X G a15, b15⟩, ⟨f16, _, F16, PySem.W.mg_of X G a16, b16⟩, ⟨f17, _, F17, PySem.W.mg_of X G a17, b17⟩, ⟨f18, _, F18, PySem.W.mg_of X G a18, b18⟩, ⟨f19, _, F19, PySem.W.mg_of X G a19, b19⟩, t0, PySem.W.mg_of X G z0, t1, PySem.W.mg_of X G z1, t2, PySem.W.mg_of X G z2, t3, PySem.W.mg_of X G z3, k_PatchError, PySem.W.mg_of X G h_PatchError, k_BadEdition, PySem.W.mg_of X G h_BadEdition, k_BadPatch, PySem.W.mg_of X G h_BadPatch, k_BadCount, PySem.W.mg_of X G h_BadCount, k_TooMany, PySem.W.mg_of X G h_TooMany, k_Asleep, PySem.W.mg_of X G h_Asleep, k_Awake, PySem.W.mg_of X G h_Awake, k_BadName, PySem.W.mg_of X G h_BadName, k_Known, PySem.W.mg_of X G h_Known, k_NoName, PySem.W.mg_of X G h_NoName, k_Around, PySem.W.mg_of X G h_Around, k_InUse, PySem.W.mg_of X G h_InUse, k_NoDevice, PySem.W.mg_of X G h_NoDevice, k_BadDeed, PySem.W.mg_of X G h_BadDeed, k_BadImage, PySem.W.mg_of X G h_BadImage, k_BadText, PySem.W.mg_of X G h_BadText, k_Halted, PySem.W.mg_of X G h_Halted, PySem.W.mg_none_of X G y_ValueError, PySem.W.mg_none_of X G y_all, PySem.W.mg_none_of X G y_bool, PySem.W.mg_none_of X G y_bytes, PySem.W.mg_none_of X G y_enumerate, PySem.W.mg_none_of X G y_int, PySem.W.mg_none_of X G y_isinstance, PySem.W.mg_none_of X G y_len, PySem.W.mg_none_of X G y_max, PySem.W.mg_none_of X G y_min, PySem.W.mg_none_of X G y_range, PySem.W.mg_none_of X G y_str, PySem.W.mg_none_of X G y_sum, PySem.W.mg_none_of X G y_tuple⟩
  have O_BadPatch : N_BadPatch.OwnErr l.prog K mg k_BadPatch fI_BadPatch :=
    { gC := PySem.W.mg_of X G h_BadPatch, cls := ⟨_, _, _, _, _, _, _, _, _, _, _, _, _, _, _, o_cls_BadPatch, o_bm_BadPatch⟩, sa := o_sa_BadPatch, noN := o_noN_BadPatch, iC := o_iC_BadPatch, tC := o_tC_BadPatch, kC := o_kC_BadPatch, exC := o_exC_BadPatch, tyC := o_tyC_BadPatch, sup := o_sup_BadPatch, subV := o_subV_BadPatch, mroC := o_mroC_BadPatch, noAny := o_any_BadPatch, mS := PySem.W.mg_none_of X G o_mS_BadPatch, top := o_top_BadPatch,
      fn := ⟨_, _, _, _, _, _, _, _, _, o_fn_BadPatch, o_cI_BadPatch, ⟨_, _, _, _, _, _, o_cd_BadPatch, o_vs_BadPatch, o_file_BadPatch⟩, _, _, _, o_cc_BadPatch⟩ }
  have O_BadText : N_BadText.OwnErr l.prog K mg k_BadText fI_BadText :=
    { gC := PySem.W.mg_of X G h_BadText, cls := ⟨_, _, _, _, _, _, _, _, _, _, _, _, _, _, _, o_cls_BadText, o_bm_BadText⟩, sa := o_sa_BadText, noN := o_noN_BadText, iC := o_iC_BadText, tC := o_tC_BadText, kC := o_kC_BadText, exC := o_exC_BadText, tyC := o_tyC_BadText, sup := o_sup_BadText, subV := o_subV_BadText, mroC := o_mroC_BadText, noAny := o_any_BadText, mS := PySem.W.mg_none_of X G o_mS_BadText, top := o_top_BadText,
      fn := ⟨_, _, _, _, _, _, _, _, _, o_fn_BadText, o_cI_BadText, ⟨_, _, _, _, _, _, o_cd_BadText, o_vs_BadText, o_file_BadText⟩, _, _, _, o_cc_BadText⟩ }
  have TC_BadPatch : ToldC T k_BadPatch 4 :=
    { ec := ⟨o_ga_BadPatch, o_gg_BadPatch, o_exC_BadPatch, o_hdC_BadPatch, e_ha_BadPatch, e_hn, e_ht, o_mroO_BadPatch⟩, xf := ⟨o_ga_BadPatch, o_gg_BadPatch, o_exC_BadPatch, o_hdC_BadPatch⟩, exm := PySem.W.exm_ref p_ex p_hd p_ty p_sub_BadPatch, ve := ve_BadPatch, i_BadDeed := i_BadDeed_BadPatch, i_BadImage := i_BadImage_BadPatch, i_BadText := i_BadText_BadPatch, i_Halted := i_Halted_BadPatch, i_BadPatch := i_BadPatch_BadPatch, i_Around := i_Around_BadPatch, i_Asleep := i_Asleep_BadPatch, i_Awake := i_Awake_BadPatch, i_BadCount := i_BadCount_BadPatch, i_BadEdition := i_BadEdition_BadPatch, i_BadName := i_BadName_BadPatch, i_InUse := i_InUse_BadPatch, i_Known := i_Known_BadPatch, i_NoDevice := i_NoDevice_BadPatch, i_NoName := i_NoName_BadPatch, i_TooMany := i_TooMany_BadPatch }
  have TC_BadText : ToldC T k_BadText 2 :=
    { ec := ⟨o_ga_BadText, o_gg_BadText, o_exC_BadText, o_hdC_BadText, e_ha_BadText, e_hn, e_ht, o_mroO_BadText⟩, xf := ⟨o_ga_BadText, o_gg_BadText, o_exC_BadText, o_hdC_BadText⟩, exm := PySem.W.exm_ref p_ex p_hd p_ty p_sub_BadText, ve := ve_BadText, i_BadDeed := i_BadDeed_BadText, i_BadImage := i_BadImage_BadText, i_BadText := i_BadText_BadText, i_Halted := i_Halted_BadText, i_BadPatch := i_BadPatch_BadText, i_Around := i_Around_BadText, i_Asleep := i_Asleep_BadText, i_Awake := i_Awake_BadText, i_BadCount := i_BadCount_BadText, i_BadEdition := i_BadEdition_BadText, i_BadName := i_BadName_BadText, i_InUse := i_InUse_BadText, i_Known := i_Known_BadText, i_NoDevice := i_NoDevice_BadText, i_NoName := i_NoName_BadText, i_TooMany := i_TooMany_BadText }
  exact ⟨_, cL, PL, tab_at a20 l20 rfl t_cd t_p, t_n, fun s v => .of_eq rfl, fun base _ _ TB => lawT_ok T O_BadPatch TC_BadPatch O_BadText TC_BadText l20 c20 TB⟩
theorem walk {l : PySem.W.OpenLaw} {q : Program} {loose : List Str} {XP : (Str → Option Value) → Heap → Prop} {YP : World → Heap → Prop} {d : DefRec} {K : Params → PySem.W.Frag} (hn : l.most = some 63) (hdf : d.params.defaults = [])
    (hY : ∀ (w : World) (h : Heap), YP w h → (K w.params).In h) (hrec : (recsOf q).find? (fun e => e.name == ("law" : Str)) = some d)
    (F : ∀ (w : World) (mg : Str → Option Value) (fa : Addr) (h : Heap), (K w.params).In h → h.Ns mainGlobals mg → mg d.name = some (.ref fa) →
      ∃ (fd : FuncData) (cL PL : Addr), PySem.W.tabIn (K w.params) "law" = some (cL, PL) ∧ (K w.params).lookup PL = none ∧ (∀ (s : Shared) (u : Value), BindsTo s fd ⟨[u], []⟩ [("_law_script", u)]) ∧
        ∀ base : Heap, (K w.params).In base → base.Ns mainGlobals mg → LamX.TabB base mg cL PL → FnOk l.prog w (K w.params) mg base CX0 11 fa fd ["_law_script"] (spLawT (K w.params) PL)) :
    PySem.W.WalkO q loose XP YP l.row.toRowW d [] (fun f vs => PySem.call f vs) := by
  refine Att.attach_callB hn hdf fun w s₀ s₁ mg mb fa o pm cd doc a vs ns G Y ho hd hcd hmg hobj hints hlen hbits hg => ?_
  have KX := hY w _ Y
  obtain ⟨fd, cL, PL, ht, nT, hb, hF⟩ := F w mg fa _ KX G.T.g hmg
  obtain ⟨C, hP⟩ := PySem.W.tab_of G.T KX hrec ht
  have one : ∀ {Pq : Addr × Addr → Prop}, Pq (cL, PL) → ∀ p ∈ [(cL, PL)], Pq p := fun {Pq} hq p hp => by rw [List.mem_singleton.mp hp]; exact hq
  exact LamX.law_callTs (CX := CX0) (k := 11) (x := "_law_script") (cs := [(cL, PL)]) (fd := fd) (sp := spLawT (K w.params) PL) KX G.T.g G.T.b G.T.builtins G.T.nolimit hg (one (Pq := fun p => s₁.heap.get? p.2 = _) hP) (one (Pq := fun p => (K w.params).lookup p.2 = none) nT) (one (Pq := fun p => PySem.W.CodeHd s₁.heap p.1 p.2) C) G.T.bmain hobj hints (Nat.le_trans hlen (by decide)) ⟨rfl, by decide, by decide⟩
    (fun base h1 h2 h3 => hF base h1 h2 (h3 _ (List.mem_singleton.mpr rfl))) hb (fun H hH hS => ⟨a, ns, rfl, hS, hlen, hH _ (List.mem_singleton.mpr rfl), fun _ => rfl⟩) fun H e s' z => z
end My
open PySem PySem.W PyProof.Rows
set_option maxRecDepth 100000 in
set_option maxHeartbeats 0 in
theorem PySem.Challenge.cw_patchover_k62_patch_texts_refused_holds : PySem.Challenge.rw_patchover_k62_patch_texts_refused.Holds := by
  w_on; o_law; k_head; (case hw => w_witness2)
  k_fill
  first | refine My.walk (l := PySem.Challenge.rw_patchover_k62_patch_texts_refused) rfl rfl (fun w h Y => PySem.W.km_in_of Y) (by first | rfl | kernel_rfl | decide +kernel) ?F | refine My.walk (l := PySem.Challenge.rw_patchover_k62_patch_texts_refused) rfl rfl (fun w h Y => PySem.W.kIn_of Y) (by first | rfl | kernel_rfl | decide +kernel) ?F
  case F =>
    intro w mg fa h KX G hmg
    refine' My.all_mk KX G hmg ?a0 ?l0 ?c0 ?k0 ?a1 ?l1 ?c1 ?k1 ?a2 ?l2 ?c2 ?k2 ?a3 ?l3 ?c3 ?k3 ?a4 ?l4 ?c4 ?k4 ?a5 ?l5 ?c5 ?k5 ?a6 ?l6 ?c6 ?k6 ?a7 ?l7 ?c7 ?k7 ?a8 ?l8 ?c8 ?k8 ?a9 ?l9 ?c9 ?k9 ?a10 ?l10 ?c10 ?k10 ?a11 ?l11 ?c11 ?k11 ?a12 ?l12 ?c12 ?k12 ?a13 ?l13 ?c13 ?k13 ?a14 ?l14 ?c14 ?k14 ?a15 ?l15 ?c15 ?k15 ?a16 ?l16 ?c16 ?k16 ?a17 ?l17 ?c17 ?k17 ?a18 ?l18 ?c18 ?k18 ?a19 ?l19 ?c19 ?k19 ?a20 ?l20 ?c20 ?k20 ?z0 ?z1 ?z2 ?z3 ?h_PatchError ?h_BadEdition ?h_BadPatch ?h_BadCount ?h_TooMany ?h_Asleep ?h_Awake ?h_BadName ?h_Known ?h_NoName ?h_Around ?h_InUse ?h_NoDevice ?h_BadDeed ?h_BadImage ?h_BadText ?h_Halted ?y_ValueError ?y_all ?y_bool ?y_bytes ?y_enumerate ?y_int ?y_isinstance ?y_len ?y_max ?y_min ?y_range ?y_str ?y_sum ?y_tuple ?o_cls_BadPatch ?o_bm_BadPatch ?o_sa_BadPatch ?o_noN_BadPatch ?o_iC_BadPatch ?o_tC_BadPatch ?o_kC_BadPatch ?o_exC_BadPatch ?o_tyC_BadPatch ?o_sup_BadPatch ?o_subV_BadPatch ?o_mroC_BadPatch ?o_any_BadPatch ?o_mS_BadPatch ?o_fn_BadPatch ?o_cI_BadPatch ?o_cd_BadPatch ?o_vs_BadPatch ?o_file_BadPatch ?o_cc_BadPatch ?o_top_BadPatch ?o_cls_BadText ?o_bm_BadText ?o_sa_BadText ?o_noN_BadText ?o_iC_BadText ?o_tC_BadText ?o_kC_BadText ?o_exC_BadText ?o_tyC_BadText ?o_sup_BadText ?o_subV_BadText ?o_mroC_BadText ?o_any_BadText ?o_mS_BadText ?o_fn_BadText ?o_cI_BadText ?o_cd_BadText ?o_vs_BadText ?o_file_BadText ?o_cc_BadText ?o_top_BadText ?e_hn ?e_ht ?p_ex ?p_hd ?p_ty ?o_ga_BadPatch ?o_gg_BadPatch ?o_hdC_BadPatch ?e_ha_BadPatch ?o_mroO_BadPatch ?p_sub_BadPatch ?i_BadDeed_BadPatch ?i_BadImage_BadPatch ?i_BadText_BadPatch ?i_Halted_BadPatch ?i_BadPatch_BadPatch ?i_Around_BadPatch ?i_Asleep_BadPatch ?i_Awake_BadPatch ?i_BadCount_BadPatch ?i_BadEdition_BadPatch ?i_BadName_BadPatch ?i_InUse_BadPatch ?i_Known_BadPatch ?i_NoDevice_BadPatch ?i_NoName_BadPatch ?i_TooMany_BadPatch ?ve_BadPatch ?o_ga_BadText ?o_gg_BadText ?o_hdC_BadText ?e_ha_BadText ?o_mroO_BadText ?p_sub_BadText ?i_BadDeed_BadText ?i_BadImage_BadText ?i_BadText_BadText ?i_Halted_BadText ?i_BadPatch_BadText ?i_Around_BadText ?i_Asleep_BadText ?i_Awake_BadText ?i_BadCount_BadText ?i_BadEdition_BadText ?i_BadName_BadText ?i_InUse_BadText ?i_Known_BadText ?i_NoDevice_BadText ?i_NoName_BadText ?i_TooMany_BadText ?ve_BadText ?t_cd ?t_p ?t_n
    (case a0 => k_is)
    (case l0 => k_is)
    (case c0 => k_is)
    (case k0 => k_is)
    (case a1 => k_is)
    (case l1 => k_is)
    (case c1 => k_is)
    (case k1 => k_is)
    (case a2 => k_is)
    (case l2 => k_is)
    (case c2 => k_is)
    (case k2 => k_is)
    (case a3 => k_is)
    (case l3 => k_is)
    (case c3 => k_is)
    (case k3 => k_is)
    (case a4 => k_is)
    (case l4 => k_is)
    (case c4 => k_is)
    (case k4 => k_is)
    (case a5 => k_is)
    (case l5 => k_is)
    (case c5 => k_is)
    (case k5 => k_is)
    (case a6 => k_is)
    (case l6 => k_is)
    (case c6 => k_is)
    (case k6 => k_is)
    (case a7 => k_is)
    (case l7 => k_is)
    (case c7 => k_is)
    (case k7 => k_is)
    (case a8 => k_is)
    (case l8 => k_is)
    (case c8 => k_is)
    (case k8 => k_is)
    (case a9 => k_is)
    (case l9 => k_is)
    (case c9 => k_is)
    (case k9 => k_is)
    (case a10 => k_is)
    (case l10 => k_is)
    (case c10 => k_is)
    (case k10 => k_is)
    (case a11 => k_is)
    (case l11 => k_is)
    (case c11 => k_is)
    (case k11 => k_is)
    (case a12 => k_is)
    (case l12 => k_is)
    (case c12 => k_is)
    (case k12 => k_is)
    (case a13 => k_is)
    (case l13 => k_is)
    (case c13 => k_is)
    (case k13 => k_is)
    (case a14 => k_is)
    (case l14 => k_is)
    (case c14 => k_is)
    (case k14 => k_is)
    (case a15 => k_is)
    (case l15 => k_is)
    (case c15 => k_is)
    (case k15 => k_is)
    (case a16 => k_is)
    (case l16 => k_is)
    (case c16 => k_is)
    (case k16 => k_is)
    (case a17 => k_is)
    (case l17 => k_is)
    (case c17 => k_is)
    (case k17 => k_is)
    (case a18 => k_is)
    (case l18 => k_is)
    (case c18 => k_is)
    (case k18 => k_is)
    (case a19 => k_is)
    (case l19 => k_is)
    (case c19 => k_is)
    (case k19 => k_is)
    (case a20 => k_is)
    (case l20 => k_is)
    (case c20 => k_is)
    (case k20 => k_is)
    (case z0 => k_is)
    (case z1 => k_is)
    (case z2 => k_is)
    (case z3 => k_is)
    (case h_PatchError => k_is)
    (case h_BadEdition => k_is)
    (case h_BadPatch => k_is)
    (case h_BadCount => k_is)
    (case h_TooMany => k_is)
    (case h_Asleep => k_is)
    (case h_Awake => k_is)
    (case h_BadName => k_is)
    (case h_Known => k_is)
    (case h_NoName => k_is)
    (case h_Around => k_is)
    (case h_InUse => k_is)
    (case h_NoDevice => k_is)
    (case h_BadDeed => k_is)
    (case h_BadImage => k_is)
    (case h_BadText => k_is)
    (case h_Halted => k_is)
    (case y_ValueError => k_is)
    (case y_all => k_is)
    (case y_bool => k_is)
    (case y_bytes => k_is)
    (case y_enumerate => k_is)
    (case y_int => k_is)
    (case y_isinstance => k_is)
    (case y_len => k_is)
    (case y_max => k_is)
    (case y_min => k_is)
    (case y_range => k_is)
    (case y_str => k_is)
    (case y_sum => k_is)
    (case y_tuple => k_is)
    (case o_cls_BadPatch => k_is)
    (case o_bm_BadPatch => first | rfl | decide +kernel | kernel_rfl)
    (case o_sa_BadPatch => k_is)
    (case o_noN_BadPatch => k_is)
    (case o_iC_BadPatch => k_is)
    (case o_tC_BadPatch => k_is)
    (case o_kC_BadPatch => k_is)
    (case o_exC_BadPatch => k_is)
    (case o_tyC_BadPatch => k_is)
    (case o_sup_BadPatch => ks_is)
    (case o_subV_BadPatch => k_is)
    (case o_mroC_BadPatch => k_is)
    (case o_any_BadPatch => k_is)
    (case o_mS_BadPatch => k_is)
    (case o_fn_BadPatch => k_is)
    (case o_cI_BadPatch => k_is)
    (case o_cd_BadPatch => k_is)
    (case o_vs_BadPatch => first | rfl | kernel_rfl)
    (case o_file_BadPatch => first | rfl | decide +kernel | kernel_rfl)
    (case o_cc_BadPatch => k_is)
    (case o_top_BadPatch => first | rfl | decide +kernel | kernel_rfl)
    (case o_cls_BadText => k_is)
    (case o_bm_BadText => first | rfl | decide +kernel | kernel_rfl)
    (case o_sa_BadText => k_is)
    (case o_noN_BadText => k_is)
    (case o_iC_BadText => k_is)
    (case o_tC_BadText => k_is)
    (case o_kC_BadText => k_is)
    (case o_exC_BadText => k_is)
    (case o_tyC_BadText => k_is)
    (case o_sup_BadText => ks_is)
    (case o_subV_BadText => k_is)
    (case o_mroC_BadText => k_is)
    (case o_any_BadText => k_is)
    (case o_mS_BadText => k_is)
    (case o_fn_BadText => k_is)
    (case o_cI_BadText => k_is)
    (case o_cd_BadText => k_is)
    (case o_vs_BadText => first | rfl | kernel_rfl)
    (case o_file_BadText => first | rfl | decide +kernel | kernel_rfl)
    (case o_cc_BadText => k_is)
    (case o_top_BadText => first | rfl | decide +kernel | kernel_rfl)
    (case e_hn => k_is)
    (case e_ht => k_is)
    (case p_ex => k_is)
    (case p_hd => k_is)
    (case p_ty => k_is)
    (case o_ga_BadPatch => k_is)
    (case o_gg_BadPatch => k_is)
    (case o_hdC_BadPatch => k_is)
    (case e_ha_BadPatch => k_is)
    (case o_mroO_BadPatch => k_is)
    (case p_sub_BadPatch => k_is)
    (case i_BadDeed_BadPatch => first | kit_is | kernel_rfl)
    (case i_BadImage_BadPatch => first | kit_is | kernel_rfl)
    (case i_BadText_BadPatch => first | kit_is | kernel_rfl)
    (case i_Halted_BadPatch => first | kit_is | kernel_rfl)
    (case i_BadPatch_BadPatch => first | kit_is | kernel_rfl)
    (case i_Around_BadPatch => first | kit_is | kernel_rfl)
    (case i_Asleep_BadPatch => first | kit_is | kernel_rfl)
    (case i_Awake_BadPatch => first | kit_is | kernel_rfl)
    (case i_BadCount_BadPatch => first | kit_is | kernel_rfl)
    (case i_BadEdition_BadPatch => first | kit_is | kernel_rfl)
    (case i_BadName_BadPatch => first | kit_is | kernel_rfl)
    (case i_InUse_BadPatch => first | kit_is | kernel_rfl)
    (case i_Known_BadPatch => first | kit_is | kernel_rfl)
    (case i_NoDevice_BadPatch => first | kit_is | kernel_rfl)
    (case i_NoName_BadPatch => first | kit_is | kernel_rfl)
    (case i_TooMany_BadPatch => first | kit_is | kernel_rfl)
    (case ve_BadPatch => first | kit_is | kernel_rfl)
    (case o_ga_BadText => k_is)
    (case o_gg_BadText => k_is)
    (case o_hdC_BadText => k_is)
    (case e_ha_BadText => k_is)
    (case o_mroO_BadText => k_is)
    (case p_sub_BadText => k_is)
    (case i_BadDeed_BadText => first | kit_is | kernel_rfl)
    (case i_BadImage_BadText => first | kit_is | kernel_rfl)
    (case i_BadText_BadText => first | kit_is | kernel_rfl)
    (case i_Halted_BadText => first | kit_is | kernel_rfl)
    (case i_BadPatch_BadText => first | kit_is | kernel_rfl)
    (case i_Around_BadText => first | kit_is | kernel_rfl)
    (case i_Asleep_BadText => first | kit_is | kernel_rfl)
    (case i_Awake_BadText => first | kit_is | kernel_rfl)
    (case i_BadCount_BadText => first | kit_is | kernel_rfl)
    (case i_BadEdition_BadText => first | kit_is | kernel_rfl)
    (case i_BadName_BadText => first | kit_is | kernel_rfl)
    (case i_InUse_BadText => first | kit_is | kernel_rfl)
    (case i_Known_BadText => first | kit_is | kernel_rfl)
    (case i_NoDevice_BadText => first | kit_is | kernel_rfl)
    (case i_NoName_BadText => first | kit_is | kernel_rfl)
    (case i_TooMany_BadText => first | kit_is | kernel_rfl)
    (case ve_BadText => first | kit_is | kernel_rfl)
    (case t_cd => k_is)
    (case t_p => first | rfl | kernel_rfl)
    (case t_n => first | k_is | kernel_rfl)
