import PyProof.Rows.All
import Wide.All
import OpenK.AllK
import Wide.FinOn
import HandS.ForMost
import HandS.More
import HandS.IsInst
import HandS.Bytes
import HandS.Walk
import HandS.TupAny
import HandS.Style
import HandS.SortKw
import KE.GoesEnum
import KE.KMinKey
import HandS.Text
import HandS.Star
import HandS.RaiseMore
import HandS.More
import HandS.TupAny
import HandS.Steps
import HandS.ToBytes
import PySem.Challenge.RW_patchover_k61_patches_written_and_read
set_option Elab.async false
set_option linter.all false
set_option maxRecDepth 100000
set_option maxHeartbeats 4000000
namespace My
open PySem PySem.Spec PyProof.Rows L2
/-! ### the text by places -/
def top (i : Nat) : Stmt := PySem.Challenge.pw_patchover_k61_patches_written_and_read.main.body.getD i (.Pass ⟨0, 0, 0, 0⟩)
abbrev s_bytes_of : Stmt := top 8
theorem sc_bytes_of : FnScope ["numbers", "number"] ["numbers"] (defScope s_bytes_of) := ⟨rfl, rfl, rfl, by decide +kernel, rfl, by decide +kernel, by decide +kernel⟩
abbrev s_numbers_of : Stmt := top 9
theorem sc_numbers_of : FnScope ["some"] ["some"] (defScope s_numbers_of) := ⟨rfl, rfl, rfl, by decide +kernel, rfl, by decide +kernel, by decide +kernel⟩
abbrev s_is_number : Stmt := top 10
theorem sc_is_number : FnScope ["what", "least", "most"] ["what", "least", "most"] (defScope s_is_number) := ⟨rfl, rfl, rfl, by decide +kernel, rfl, by decide +kernel, by decide +kernel⟩
abbrev s_can_be : Stmt := top 11
theorem sc_can_be : FnScope ["piece", "word", "some", "first", "many"] ["piece"] (defScope s_can_be) := ⟨rfl, rfl, rfl, by decide +kernel, rfl, by decide +kernel, by decide +kernel⟩
abbrev s_length_of : Stmt := top 12
theorem sc_length_of : FnScope ["piece"] ["piece"] (defScope s_length_of) := ⟨rfl, rfl, rfl, by decide +kernel, rfl, by decide +kernel, by decide +kernel⟩
abbrev s_check_patch : Stmt := top 13
theorem sc_check_patch : FnScope ["patch", "total", "at", "piece"] ["patch"] (defScope s_check_patch) := ⟨rfl, rfl, rfl, by decide +kernel, rfl, by decide +kernel, by decide +kernel⟩
abbrev s_written : Stmt := top 17
theorem sc_written : FnScope ["patch", "piece"] ["patch"] (defScope s_written) := ⟨rfl, rfl, rfl, by decide +kernel, rfl, by decide +kernel, by decide +kernel⟩
abbrev s_read : Stmt := top 18
theorem sc_read : FnScope ["text", "pieces", "row"] ["text"] (defScope s_read) := ⟨rfl, rfl, rfl, by decide +kernel, rfl, by decide +kernel, by decide +kernel⟩
abbrev s_rows_of : Stmt := top 19
theorem sc_rows_of : FnScope ["text"] ["text"] (defScope s_rows_of) := ⟨rfl, rfl, rfl, by decide +kernel, rfl, by decide +kernel, by decide +kernel⟩
abbrev s_row_of : Stmt := top 20
theorem sc_row_of : FnScope ["things", "words", "thing", "byte"] ["things"] (defScope s_row_of) := ⟨rfl, rfl, rfl, by decide +kernel, rfl, by decide +kernel, by decide +kernel⟩
abbrev s_piece_of : Stmt := top 21
theorem sc_piece_of : FnScope ["words", "word"] ["words"] (defScope s_piece_of) := ⟨rfl, rfl, rfl, by decide +kernel, rfl, by decide +kernel, by decide +kernel⟩
abbrev s_with_things : Stmt := top 22
theorem sc_with_things : FnScope ["first", "things"] ["first", "things"] (defScope s_with_things) := ⟨rfl, rfl, rfl, by decide +kernel, rfl, by decide +kernel, by decide +kernel⟩
abbrev s_with_bytes : Stmt := top 23
theorem sc_with_bytes : FnScope ["ahead", "words", "figures", "numbers", "word", "number"] ["ahead", "words", "figures"] (defScope s_with_bytes) := ⟨rfl, rfl, rfl, by decide +kernel, rfl, by decide +kernel, by decide +kernel⟩
abbrev s_number_of : Stmt := top 24
theorem sc_number_of : FnScope ["word", "figures", "sign"] ["word", "figures"] (defScope s_number_of) := ⟨rfl, rfl, rfl, by decide +kernel, rfl, by decide +kernel, by decide +kernel⟩
abbrev s_law_taken : Stmt := top 26
theorem sc_law_taken : FnScope ["_law_row_here", "_law_many", "_law_found", "_law_cell"] ["_law_row_here", "_law_many"] (defScope s_law_taken) := ⟨rfl, rfl, rfl, by decide +kernel, rfl, by decide +kernel, by decide +kernel⟩
abbrev s_law_patch : Stmt := top 28
theorem sc_law_patch : FnScope ["_law_row_here", "_law_most", "_law_pieces", "_law_total", "_law_k", "_law_way_on", "_law_long", "_law_some", "_law_j", "_law_begin"] ["_law_row_here", "_law_most"] (defScope s_law_patch) := ⟨rfl, rfl, rfl, by decide +kernel, rfl, by decide +kernel, by decide +kernel⟩
abbrev s_law_row : Stmt := top 29
theorem sc_law_row : FnScope ["_law_piece", "_law_numbers", "_law_number"] ["_law_piece"] (defScope s_law_row) := ⟨rfl, rfl, rfl, by decide +kernel, rfl, by decide +kernel, by decide +kernel⟩
abbrev s_law : Stmt := top 30
theorem sc_law : FnScope ["_law_script", "_law_row_here", "_law_turn", "_law_patch_here", "_law_due", "_law_piece", "_law_once"] ["_law_script"] (defScope s_law) := ⟨rfl, rfl, rfl, by decide +kernel, rfl, by decide +kernel, by decide +kernel⟩
structure Df (K : PySem.W.Frag) (mg : Str → Option Value) (x : Str) (st : Stmt) (ps : List Str) where
  f : Addr
  fd : FuncData
  F : Fun K x x st f fd
  m : mg x = some (.ref f)
  b : Binds K fd ps []
structure All (K : PySem.W.Frag) (mg : Str → Option Value) where
  d_bytes_of : Df K mg "bytes_of" s_bytes_of ["numbers"]
  d_numbers_of : Df K mg "numbers_of" s_numbers_of ["some"]
  d_is_number : Df K mg "is_number" s_is_number ["what", "least", "most"]
  d_can_be : Df K mg "can_be" s_can_be ["piece"]
  d_length_of : Df K mg "length_of" s_length_of ["piece"]
  d_check_patch : Df K mg "check_patch" s_check_patch ["patch"]
  d_written : Df K mg "written" s_written ["patch"]
  d_read : Df K mg "read" s_read ["text"]
  d_rows_of : Df K mg "rows_of" s_rows_of ["text"]
  d_row_of : Df K mg "row_of" s_row_of ["things"]
  d_piece_of : Df K mg "piece_of" s_piece_of ["words"]
  d_with_things : Df K mg "with_things" s_with_things ["first", "things"]
  d_with_bytes : Df K mg "with_bytes" s_with_bytes ["ahead", "words", "figures"]
  d_number_of : Df K mg "number_of" s_number_of ["word", "figures"]
  d_law_taken : Df K mg "_law_taken" s_law_taken ["_law_row_here", "_law_many"]
  d_law_patch : Df K mg "_law_patch" s_law_patch ["_law_row_here", "_law_most"]
  d_law_row : Df K mg "_law_row" s_law_row ["_law_piece"]
  t_MOST : Tok
  c_MOST : mg "MOST" = some (.int 200 t_MOST)
  t_LAST_BYTE : Tok
  c_LAST_BYTE : mg "LAST_BYTE" = some (.int 255 t_LAST_BYTE)
  t_FIGURES : Tok
  c_FIGURES : mg "FIGURES" = some (.str "0123456789" t_FIGURES)
  t_FEW : Tok
  c_FEW : mg "FEW" = some (.int 3 t_FEW)
  b_all : mg "all" = none
  b_bool : mg "bool" = none
  b_bytes : mg "bytes" = none
  b_enumerate : mg "enumerate" = none
  b_int : mg "int" = none
  b_isinstance : mg "isinstance" = none
  b_len : mg "len" = none
  b_list : mg "list" = none
  b_min : mg "min" = none
  b_range : mg "range" = none
  b_str : mg "str" = none
  b_tuple : mg "tuple" = none
/-! ### rules within a comprehension's block -/
theorem ixlK {X : Cx} {K : PySem.W.Frag} (h : X.K = K) : IxR X (rIxL K) := by subst h; exact ix_list
theorem ixtK {X : Cx} {K : PySem.W.Frag} (h : X.K = K) : IxR X (rIxT K) := by subst h; exact ix_tup
theorem ixsK {X : Cx} {K : PySem.W.Frag} (h : X.K = K) : IxR X (rIx K) := by subst h; exact ix_seq
theorem lenK {X : Cx} {K : PySem.W.Frag} (h : X.K = K) : CallR X (.builtin "len") (fun xs H Q => ∃ x n, xs = [x] ∧ LenV K x H n ∧ Q (.int n) H) := by subst h; exact call_len
theorem pg_tupK {X : Cx} {K : PySem.W.Frag} {es : List Expr} {k : Nat} {t : TGs} {n : Nat} {pos : Pos} (hK : X.K = K) (hc : X.calm = true) (h : PGs X es t)
    (hn : (assignEach es X.env).length = n := by rfl) (hst : (assignEach es X.env).findIdx? (·.1) = none := by rfl) : PG X (.Tuple es k pos) (gTup K n t) := by subst hK; exact pg_tup hc h hn hst
/-! ### heaps -/
/-- all but d is as it was -/
def But (d : Addr) (H H' : Hp) : Prop := ∀ b o, b ≠ d → H b = some o → H' b = some o
theorem But.refl (d : Addr) (H : Hp) : But d H H := fun _ _ _ h => h
theorem But.trans {d : Addr} {H H1 H2 : Hp} (a : But d H H1) (b : But d H1 H2) : But d H H2 := fun c o n h => b c o n (a c o n h)
theorem Same.but {d : Addr} {H H' : Hp} (a : Same H H') : But d H H' := fun c o _ h => a c o h
theorem But.put {d : Addr} {H : Hp} {o : HO} : But d H (upd H d o) := fun c u n h => by rw [upd_ne n]; exact h
theorem Same.new {p : Addr} {H : Hp} {o : HO} (n : H p = none) : Same H (upd H p o) := fun c u h => by rw [upd_ne (ne_of_none h n)]; exact h
theorem But.new {d p : Addr} {H : Hp} {o : HO} (n : H p = none) : But d H (upd H p o) := Same.but (Same.new n)
theorem But.at {d p : Addr} {H H' : Hp} {o u : HO} (b : But d H H') (hd : H d = some u) (h : H p = some o) (hn : o ≠ u) : H' p = some o := b p o (ne_of h hd hn) h
theorem But.free {d p : Addr} {H H' : Hp} {u : HO} (b : But d H H') (hd : H d = some u) (h : H' d = some u ∨ ∃ u', H' d = some u') (n : H' p = none) : H p = none := by
  cases e : H p with
  | none => rfl
  | some o =>
    by_cases hp : p = d
    · subst hp
      rcases h with h | ⟨_, h⟩ <;> (rw [n] at h; cases h)
    · rw [b p o hp e] at n; cases n
theorem tup_lst {xs ys : List V} : HO.tup xs ≠ HO.lst ys := by intro z; cases z
theorem sizeS {n : Nat} (h : n ≤ 100000) : n ≤ sizeLine := by rw [sizeLine_eq]; omega
theorem sizeL {n : Nat} (h : n ≤ 100000) : n < sizeLine := by rw [sizeLine_eq]; omega
/-! ### the dice -/
structure Dice (K : PySem.W.Frag) (a : Addr) (ns : List Int) (H : Hp) (d : Addr) : Prop where
  sq : SqL K H a (ns.map V.int)
  len : ns.length ≤ 63
  ex : ∃ p m g : Int, 0 ≤ p ∧ H d = some (.lst [.ref a, .int p, .int m, .int g])
theorem sq_but {K : PySem.W.Frag} {H H' : Hp} {a d : Addr} {ns : List Int} {x : Addr} {xs : List V} (b : But d H H') (hd : H d = some (.lst (.ref x :: xs))) (h : SqL K H a (ns.map V.int)) : SqL K H' a (ns.map V.int) := by
  rcases h with (h | ⟨o, h⟩) | h
  · refine .inl (.inl (b.at hd h ?_))
    intro z
    cases ns with
    | nil => cases z
    | cons n r => cases z
  · exact .inl (.inr ⟨o, b.at hd h (by intro z; cases z)⟩)
  · exact .inr h
section
variable {K : PySem.W.Frag} {a : Addr} {ns : List Int} {d : Addr}
theorem Dice.same {H H' : Hp} (D : Dice K a ns H d) (s : Same H H') : Dice K a ns H' d := by
  obtain ⟨h1, h2, p, m, g, h3, h4⟩ := D
  exact ⟨s.seq h1, h2, p, m, g, h3, s _ _ h4⟩
/-- the dice's list is no tuple, no list of ints -/
theorem Dice.is {H : Hp} (D : Dice K a ns H d) : ∃ xs, H d = some (.lst (.ref a :: xs)) := by
  obtain ⟨h1, h2, p, m, g, h3, h4⟩ := D
  exact ⟨_, h4⟩
theorem Dice.put {H : Hp} {p m g p' m' g' : Int} (h1 : SqL K H a (ns.map V.int)) (h2 : ns.length ≤ 63) (h3 : 0 ≤ p') (h4 : H d = some (.lst [.ref a, .int p, .int m, .int g])) :
    Dice K a ns (upd H d (.lst [.ref a, .int p', .int m', .int g'])) d :=
  ⟨sq_but But.put h4 h1, h2, p', m', g', h3, upd_same⟩
theorem tup_but {H H' : Hp} {p : Addr} {xs : List V} (D : Dice K a ns H d) (b : But d H H') (h : H p = some (.tup xs)) : H' p = some (.tup xs) := by
  obtain ⟨ys, e⟩ := D.is
  exact b.at e h tup_lst
theorem ints_but {H H' : Hp} {p : Addr} {ms : List Int} (D : Dice K a ns H d) (b : But d H H') (h : H p = some (.lst (ms.map V.int))) : H' p = some (.lst (ms.map V.int)) := by
  obtain ⟨ys, e⟩ := D.is
  refine b.at e h ?_
  intro z
  cases ms with
  | nil => cases z
  | cons n r => cases z
theorem none_but {H H' : Hp} {p : Addr} (D : Dice K a ns H d) (D' : Dice K a ns H' d) (b : But d H H') (h : H' p = none) : H p = none := by
  obtain ⟨ys, e⟩ := D.is
  obtain ⟨ys', e'⟩ := D'.is
  exact b.free e (.inr ⟨_, e'⟩) h
theorem Dice.ne {H : Hp} {p : Addr} (D : Dice K a ns H d) (h : H p = none) : p ≠ d := by
  obtain ⟨ys, e⟩ := D.is
  exact (ne_of_none e h).symm
/-- what was made since H0 may be changed -/
theorem But.fresh {H0 H : Hp} {p : Addr} {o : HO} (b : But d H0 H) (h : H0 p = none) : But d H0 (upd H p o) := fun c u n e => by rw [upd_ne (ne_of_none e h)]; exact b c u n e
theorem Dice.fresh {H0 H : Hp} {p : Addr} {o : HO} (D0 : Dice K a ns H0 d) (b : But d H0 H) (h : H0 p = none) (D : Dice K a ns H d) : Dice K a ns (upd H p o) d := by
  obtain ⟨ys, e⟩ := D0.is
  obtain ⟨h1, h2, q, m, g, h3, h4⟩ := D
  exact ⟨sq_but (But.fresh b h) e D0.sq, h2, q, m, g, h3, by rw [upd_ne (D0.ne h).symm]; exact h4⟩
end
/-- _law_dice(script) -/
def spDice (K : PySem.W.Frag) : Sp := fun vs H Q _ => ∃ (a : Addr) (ns : List Int), vs = [.ref a] ∧ SqL K H a (ns.map V.int) ∧ ns.length ≤ 63 ∧ ∀ H' d, Same H H' → H d = none → Dice K a ns H' d → Q (.ref d) H'
/-- _law_next(d, n): any number below n -/
def spNext (K : PySem.W.Frag) : Sp := fun vs H Q _ => ∃ (a : Addr) (ns : List Int) (d : Addr) (n : Int), vs = [.ref d, .int n] ∧ Dice K a ns H d ∧ 1 ≤ n ∧ n < 1073741824 ∧ ∀ H' r, But d H H' → Dice K a ns H' d → 0 ≤ r → r < n → Q (.int r) H'
section
variable {P : Program} {w : World} {K : PySem.W.Frag} {mg : Str → Option Value} {base : Heap}
theorem at_map {ns : List Int} {i : Nat} {x : V} (h : (ns.map V.int)[i]? = some x) : ∃ z, x = V.int z ∧ ns[i]? = some z := by
  rw [List.getElem?_map] at h
  cases e : ns[i]? with
  | none => rw [e] at h; cases h
  | some z => rw [e] at h; exact ⟨z, (Option.some.inj h).symm, rfl⟩
end
/-! ### enumerate(tuple) -/
open AutoSeq1 (wpAny_loadPart') in
set_option maxHeartbeats 1000000 in
theorem meets_enumT (t : Addr) (items : Array Value) :
    Meets (Builtin.«enumerate.__new__» ⟨[.type "enumerate", .ref t], []⟩) (fun _ R s => s.heap.IsTuple t items ∧
      R (.ok (.ret (.ref (s.heap.push { cls := .type "tuple_iterator", data := .fields #[.ref t, .int 0 0] }).objs.size)))
        { s with heap := (s.heap.push { cls := .type "tuple_iterator", data := .fields #[.ref t, .int 0 0] }).push { cls := .type "enumerate", data := .fields #[.none, .bool false, .ref s.heap.objs.size, rawInt 0, .none, .none] } }) :=
  .of_wp fun prog w A R s h => by
    obtain ⟨hp, g, d, tk, os⟩ := s; obtain ⟨hl, h⟩ := h
    have hsub := sub_enumerate
    have q1 : ∀ {A' : Around} {E : Value → Shared → Prop} {Q : Value → Shared → Prop}, Q (.ref hp.objs.size) ⟨hp.push { cls := .type "tuple_iterator", data := .fields #[.ref t, .int 0 0] }, g, d, tk, os⟩ → wpAny (model prog w) A' (pyIter (.ref t)) Q E ⟨hp, g, d, tk, os⟩ :=
      fun q => (begins_tuple t items).iter prog w _ _ ⟨hp, g, d, tk, os⟩ _ hl q
    wp_walk using q1
    refine wpAny_stack_any fun st => wpAny_pure ?_
    split
    · rename_i c _ _ _ _ _
      cases (c == Value.type "enumerate")
      · wp_walk using q1
        exact ⟨_, rfl, h⟩
      · wp_walk using q1
        exact ⟨_, rfl, h⟩
    · wp_walk using q1
      exact ⟨_, rfl, h⟩
theorem call_enumT {prog : Program} {w : World} {A : Around} {E : Value → Shared → Prop} {s : Shared} {t : Addr} {items : Array Value} {Q : Value → Shared → Prop} (ht : s.heap.IsTuple t items)
    (h : ∀ h', IsEnum h' (s.heap.objs.size + 1) s.heap.objs.size 0 .none → h'.IsTupleIter s.heap.objs.size t 0 → h'.objs.size = s.heap.objs.size + 2 →
      (∀ b o, s.heap.get? b = some o → h'.get? b = some o) → Q (.ref (s.heap.objs.size + 1)) { s with heap := h' }) :
    wpAny (model prog w) A (call (.type "enumerate") [.ref t]) Q E s := by
  refine callType_new F.called_enumerate (by decide) (F.typeCall_enumerate_1 _) (F.newCall_enumerate_1 _) (fun obj => F.args_object_init_2 obj _) F.entry_enumerate_new
    (meets_enumT t items) ⟨ht, ?_⟩
  have hz : (s.heap.push { cls := .type "tuple_iterator", data := .fields #[.ref t, .int 0 0] }).objs.size = s.heap.objs.size + 1 := Heap.size_push ..
  show _ ∧ _
  rw [hz]
  have he : IsEnum ((s.heap.push { cls := .type "tuple_iterator", data := .fields #[.ref t, .int 0 0] }).push
      { cls := .type "enumerate", data := .fields #[.none, .bool false, .ref s.heap.objs.size, rawInt 0, .none, .none] }) (s.heap.objs.size + 1) s.heap.objs.size 0 .none := by
    have := Heap.get?_push_size (s.heap.push { cls := .type "tuple_iterator", data := .fields #[.ref t, .int 0 0] })
      (o := { cls := .type "enumerate", data := .fields #[.none, .bool false, .ref s.heap.objs.size, rawInt 0, .none, .none] }) rfl
    rw [hz] at this; exact this
  refine ⟨⟨_, he, rfl⟩, h _ he ⟨_, Heap.get?_push_of_some _ (Heap.get?_push_size _ rfl), rfl, rfl⟩ (by rw [Heap.size_push, hz]) fun b o x => Heap.get?_push_of_some _ (Heap.get?_push_of_some _ x)⟩
theorem pyNext_enumT_end {prog : Program} {w : World} {A : Around} {E : Value → Shared → Prop} {s : Shared} {e it t : Addr} {i : Nat} {c : Int} {items : Array Value} {old : Value} {Q : Option Value → Shared → Prop} (hh : A.handled = none)
    (he : IsEnum s.heap e it c old) (hit : s.heap.IsTupleIter it t i) (ht : s.heap.IsTuple t items) (hx : items[i]? = none)
    (hQ : ∀ h', Heap.ExtBut it s.heap h' → Q none { s with heap := h' }) : wpAny (model prog w) A (pyNext (.ref e)) Q E s := by
  have hT : s.TypeIs (.ref e) "enumerate" := ⟨_, he, rfl⟩
  unfold pyNext
  refine wpAny_bind (wpAny_attempt (wpAny_callSpecial?_slot (name := Str.ofString "__next__") hT F.slot_enumerate_next
    (wpAny_call_entry F.slot_enumerate_next hT F.entry_enumerate_next ?_ (F.args_enumerate_next_1 _))))
  show wpAny _ _ (field (.ref e) 2 >>= _) _ _ _
  refine wpAny_bind (wpAny_field he rfl (x := .ref it) rfl ?_)
  refine wpAny_bind (wpAny_nextOf_tuple_end (by exact hh) hit ht hx fun h' x he' hx' => ?_)
  obtain ⟨o, ho, hc⟩ := hx'
  refine wpAny_bind (wpAny_isInstance (T := "StopIteration") (b := true) ⟨o, ho, hc⟩ isSubtype_stop ?_)
  exact wpAny_pure (hQ _ he')
/-- the tuple at a, each item in a new pair -/
def Itet (K : PySem.W.Frag) (a : Addr) : It :=
  ⟨fun i H => ∃ (xs : List V) (x : V), SqT K H a xs ∧ xs[i]? = some x, fun i H v H' => ∃ T x, v = .ref T ∧ H T = none ∧ H' = upd H T (.tup [.int (i : Nat), x]) ∧ ∀ xs, SqT K H a xs → xs[i]? = some x, fun i H => ∃ xs : List V, SqT K H a xs ∧ xs.length ≤ i⟩
theorem turn_enumT {P : Program} {w : World} {K : PySem.W.Frag} {elts : List Expr} {kk : Nat} {tpos : Pos} (a e it : Addr) :
    Turn P w K (.Tuple elts kk tpos) (Itet K a) [e, it] e (fun i h => (∃ old, IsEnum h e it ((i : Nat) : Int) old) ∧ h.IsTupleIter it a i ∧ e ≠ it ∧ a ≠ it ∧ e ≠ a) where
  mem := by simp
  obj := fun i h st b hb => by
    obtain ⟨⟨old, he⟩, ⟨o, ho, hc, hd⟩, _⟩ := st
    have e' : b = e ∨ b = it := by simpa using hb
    rcases e' with z | z
    · rw [z]; exact ⟨_, he, fun v q => nomatch q⟩
    · rw [z]; exact ⟨o, ho, fun v q => by rw [hd] at q; cases q⟩
  keep := fun i h h' st k => let ⟨⟨old, he⟩, hi, hne⟩ := st; ⟨⟨old, k e (by simp) _ he⟩, hi.at fun o q => k it (by simp) o q, hne⟩
  item := by
    intro X hP hw hK hc i pins s σ H E I hf st hg
    subst hP hw hK
    obtain ⟨⟨old, he⟩, hit, hne, hne2, hne3⟩ := st
    obtain ⟨xs, x, hq, hx⟩ := hg
    obtain ⟨its, rv, p, hz⟩ := I.tuple hq
    obtain ⟨u, hu, ru⟩ := rv.get hx
    have hel : e < s.heap.objs.size := Heap.lt_size he
    have hil : it < s.heap.objs.size := by obtain ⟨_, q, _⟩ := hit; exact Heap.lt_size q
    have ht : s.heap.IsTuple a its.toArray := p
    have hlt : i < its.toArray.size := by
      have := (List.getElem?_eq_some_iff.mp hu).1
      simpa using this
    refine wpAny_pyNext_enum_itemD (Draws.tuple (A := X.A.in1) (by exact I.ok.hd hc) it a hne2 its.toArray) he ⟨hit, ht⟩ hlt hne (by simp; exact ⟨hne, hne3⟩) fun y h' tk hPy ho hst' hT hsz hk => ?_
    have ey : y = u := by
      have z : its[i]? = some y := by simpa using hPy
      rw [hu] at z; exact (Option.some.inj z).symm
    subst ey
    refine ⟨_, rfl, wpAny_letOwnedTupleGo_enum (s := { s with heap := h', toks := tk + 1 }) ho fun h'' he' sb => ?_⟩
    have hT2 : h''.get? s.heap.objs.size = some { cls := .type "tuple", data := .seq #[.int i tk, y] } := (sb.2 _ (Nat.ne_of_gt hel)).trans hT
    have new : ObjOk X.prog X.w (upd H s.heap.objs.size (.tup [.int (i : Nat), x])) h'' s.heap.objs.size (.tup [.int (i : Nat), x]) :=
      ⟨by show 2 ≤ sizeLine; decide, [.int i tk, y], .cons ⟨_, rfl⟩ (.cons ru .nil), ⟨_, hT2, rfl, _, rfl⟩⟩
    have I1 : Inv X pins σ (upd H s.heap.objs.size (.tup [.int (i : Nat), x])) { s with heap := h'', toks := tk + 1 } :=
      I.turnedNew (ch := [e, it]) (fun b ob hb q => (sb.2 b (fun z => hb (by simp [z]))).trans (hk b ob (fun z => hb (by simp [z])) (fun z => hb (by simp [z])) q)) hf (Nat.le_refl _) new
    refine ⟨.ref s.heap.objs.size, _, I1, rfl, ⟨_, x, rfl, I.hok.fresh (Nat.le_refl _), rfl, fun ys hy => by rw [I.tuple_inj hy hq]; exact hx⟩, ⟨⟨y, ?_⟩, hst'.1.at fun o q => (sb.2 it (Ne.symm hne)).trans q, hne, hne2, hne3⟩, fun b hb => ?_⟩
    · have e1 : ((i + 1 : Nat) : Int) = (i : Int) + 1 := by omega
      rw [e1]; exact he'
    · have hb' : b < s.heap.objs.size := by
        have e' : b = e ∨ b = it := by simpa using hb
        rcases e' with z | z
        · rw [z]; exact hel
        · rw [z]; exact hil
      rw [upd_ne (Nat.ne_of_lt hb')]
      exact (hf b hb).1
  done := by
    intro X hP hw hK hc i pins s σ H E I hf st hg
    subst hP hw hK
    obtain ⟨⟨old, he⟩, hit, hne, hne2, hne3⟩ := st
    obtain ⟨xs, hq, hx⟩ := hg
    obtain ⟨its, rv, p, hz⟩ := I.tuple hq
    obtain ⟨f0, f1, f2, f3, f4, f5⟩ := hf it (by simp)
    have hl := rv.length
    have ht : s.heap.IsTuple a its.toArray := p
    exact pyNext_enumT_end (I.ok.hd hc) he hit ht (by simp; omega) fun h' eb => ⟨rfl, I.turned (t' := s.toks) (fun b o hb q => eb b o hb q) f0 f1 f3 f4 f5⟩
  self := fun A i s Q E st h => let ⟨⟨_, he⟩, _⟩ := st; wpAny_pyIter_enum he h
def iEnumT (K : PySem.W.Frag) (ta : TA) : TI := fun σ H R => ta σ H fun vs H1 => ∃ a xs, vs = [.ref a] ∧ SqT K H1 a xs ∧ R (Itet K a) H1
theorem pi_enumT {X : Cx} {e : Expr} {ta : TA} {p pos tpos : Pos} {elts : List Expr} {kk : Nat} (hg : Gl X "enumerate") (hm : X.mg "enumerate" = none) (ha : PA X [e] ta) (hs : starEach [e] X.env = [(false, eval e X.env)] := by rfl) :
    PI X (.Tuple elts kk tpos) (.Call (.Name "enumerate" p) [e] [] pos) (iEnumT X.K ta) := by
  refine ⟨fun pins s σ H R I h => ?_⟩
  refine Call_ (ld_blt I hg hm boot_enumerate (PyProof.Rows.callWith_type1 (thn (ha.run pos pins s σ H _ I h) fun us s1 ⟨vs, H1, I1, r1, q1⟩ => ?_) hs rfl))
  obtain ⟨a, xs, ex, hq, q⟩ := q1
  subst ex
  cases r1 with
  | cons r rr =>
    cases rr
    cases r
    obtain ⟨its, rv, p', hz⟩ := I1.tuple hq
    have ht : s1.heap.IsTuple a its.toArray := p'
    have hal : a < s1.heap.objs.size := by obtain ⟨_, q', _⟩ := id ht; exact Heap.lt_size q'
    refine call_enumT ht fun h' he hit hsz hk => wpAny_pyIter_enum he ?_
    have I2 : Inv X pins σ H1 { s1 with heap := h' } := I1.kept (t' := s1.toks) hk
    refine ⟨s1.heap.objs.size + 1, [s1.heap.objs.size + 1, s1.heap.objs.size], _, _, H1, rfl, I2, turn_enumT a (s1.heap.objs.size + 1) s1.heap.objs.size, ⟨⟨.none, he⟩, hit, Nat.succ_ne_self _, Nat.ne_of_lt hal, Nat.ne_of_gt (Nat.lt_succ_of_lt hal)⟩, fun b hb => ?_, q⟩
    have e' : b = s1.heap.objs.size + 1 ∨ b = s1.heap.objs.size := by simpa using hb
    have hle : s1.heap.objs.size ≤ b := by
      rcases e' with z | z
      · rw [z]; exact Nat.le_add_right _ _
      · rw [z]; exact Nat.le_refl _
    exact I1.fpOk hle (I1.hok.fresh hle)
theorem walk_enumT {K : PySem.W.Frag} {a : Addr} {xs : List V} : Walk (Itet K a) xs.length (fun H => SqT K H a xs) (YPair (fun i => some (.int (i : Nat))) (fun i => xs[i]?)) := by
  refine ⟨fun i _ hi q => ⟨xs, xs[i], q, by simp [hi]⟩, fun _ q => ⟨xs, q, Nat.le_refl _⟩, fun i H v H' _ q y => ?_⟩
  obtain ⟨T, x, h1, h2, h3, h4⟩ := y
  exact ⟨T, .int (i : Nat), x, h1, h2, h3, rfl, h4 xs q⟩
theorem walk_byt {x : Array UInt8} : Walk (Itb x) x.size (fun _ => True) (fun i H v H' => H' = H ∧ ∃ c, x[i]? = some c ∧ v = .int ((c.toNat : Nat) : Int)) :=
  ⟨fun _ _ hi _ => hi, fun _ _ => Nat.le_refl _, fun _ _ _ _ _ _ y => y⟩
/-- the i-th byte -/
theorem byt_at {bs : List Int} {i : Nat} {c : UInt8} (hb : B8 bs) (h : (byteArr bs)[i]? = some c) : bs[i]? = some ((c.toNat : Nat) : Int) := by
  have h1 : (bs.map fun n : Int => n.toNat.toUInt8)[i]? = some c := by
    have : (byteArr bs)[i]? = (bs.map fun n : Int => n.toNat.toUInt8)[i]? := by unfold byteArr; simp
    rw [← this]; exact h
  have hl : i < bs.length := by
    have := (List.getElem?_eq_some_iff.mp h1).1
    simpa using this
  have h2 := byte_at (j := i) hb (List.getElem?_eq_getElem hl)
  rw [List.getD_eq_getElem?_getD, h1] at h2
  rw [List.getElem?_eq_getElem hl, ← h2]
  rfl
/-! ### max(list of ints, default=int) -/
theorem args_maxD (a v : Value) : argsOk "max" ⟨[a], [(Str.ofString "default", v)]⟩ := by unfold argsOk; kernel_rfl
section
variable {prog : Program} {w : World} {A : Around} {R : Result → Shared → Prop} {I S : Addr} {fp wr : List Addr} {n : Nat} {P : Nat → Value → Prop} {St : Nat → Heap → Prop} {f : Nat → Int} {kw : List (Str × Value)}
theorem maxD_turns (W : Walks prog w A.in1 I fp wr n P St) (num : ∀ i v, P i v → ∃ t, v = Value.int (f i) t) (apart : S ∉ fp) : ∀ (left j b : Nat) (s : Shared) (best : Value) (c : Nat), n = j + 1 + left → St (j + 1) s.heap → P b best → b ≤ j → (∀ i, i ≤ j → f i ≤ f b) →
    s.heap.get? S = some { cls := .type "list", dict := none, data := .seq #[best, best] c, slots := #[] } →
    (∀ b v h' tk, b < n → P b v → (∀ i, i < n → f i ≤ f b) → (∀ a o, a ∉ wr → a ≠ S → s.heap.get? a = some o → h'.get? a = some o) → R (.ok (.ret v)) { s with heap := h', toks := tk }) →
    codeAny (model prog w) A (.builtin "max.loop" ⟨[.ref I, .none, .ref S], kw⟩) R s := by
  have outside : S ∉ wr := fun z => apart (W.sub _ z)
  have nm : (toString "max" ++ toString ".loop" : String) = "max.loop" := by decide
  intro left
  induction left with
  | zero =>
    intro j b s best c en st hb bj top hS fin
    refine codeAny_builtin F.entry_max_loop ?_
    rw [Around.under_plainId F.plain_max_loop _]
    refine wpAny_bind (wpAny_seqItems hS rfl (wpAny_bind (wpAny_tryCatch (W.done s _ _ (by rw [en]; exact st) fun h' tk kept => ?_))))
    refine wpAny_bind (wpAny_updateSeq (kept S _ outside hS) rfl (wpAny_bind (wpAny_letGo (wpAny_pure ?_))))
    exact fin b best _ tk (by omega) hb (fun i hi => top i (by omega)) fun a o ha hs e => (Heap.get?_update_other _ _ (Ne.symm hs)).trans (kept a o ha e)
  | succ left ih =>
    intro j b s best c en st hb bj top hS fin
    refine codeAny_builtin F.entry_max_loop ?_
    rw [Around.under_plainId F.plain_max_loop _]
    refine wpAny_bind (wpAny_seqItems hS rfl (wpAny_bind (wpAny_tryCatch (W.item (j + 1) s _ _ (by omega) st fun v h' tk hv st' kept => ?_))))
    have hS1 := kept S _ outside hS
    refine wpAny_bind (wpAny_pure ?_)
    refine wpAny_bind (wpAny_tryCatch (wpAny_holding (wpAny_bind (CmpOf.ints_gt f num (j + 1) b v best _ _ _ hv hb ?_))))
    refine wpAny_bind (wpAny_holding (wpAny_truthy_bool (wpAny_bind (wpAny_letGo (wpAny_pure ?_)))))
    by_cases gt : f (j + 1) > f b
    · rw [if_pos (by exact decide_eq_true gt)]
      refine wpAny_bind ?_
      refine wpAny_updateSeq hS1 rfl (wpAny_bind (wpAny_letGo ?_))
      rw [nm]
      refine wpAny_pure ⟨plainId_quiet F.plain_max_loop _, ?_⟩
      refine ih (j + 1) (j + 1) _ v c (by omega) (W.frame _ _ _ st' fun a ha o e => ?_) hv (Nat.le_refl _) (fun i hi => ?_) (Heap.get?_update_self _ hS1 rfl) fun b' v' h2 tk2 lt hv' top' kept' => ?_
      · exact (Heap.get?_update_other _ _ (fun z : S = a => apart (by rw [z]; exact ha))).trans e
      · by_cases e : i = j + 1
        · rw [e]; omega
        · have := top i (by omega)
          omega
      · exact fin b' v' h2 tk2 lt hv' top' fun a o ha hs e => kept' a o ha hs ((Heap.get?_update_other _ _ (Ne.symm hs)).trans (kept a o ha e))
    · rw [if_neg (by intro z; exact gt (of_decide_eq_true z))]
      refine wpAny_bind (wpAny_letGo ?_)
      rw [nm]
      refine wpAny_pure ⟨plainId_quiet F.plain_max_loop _, ?_⟩
      refine ih (j + 1) b _ best c (by omega) st' hb (by omega) (fun i hi => ?_) hS1 fun b' v' h2 tk2 lt hv' top' kept' => ?_
      · by_cases e : i = j + 1
        · rw [e]; omega
        · exact top i (by omega)
      · exact fin b' v' h2 tk2 lt hv' top' fun a o ha hs e => kept' a o ha hs (kept a o ha e)
end
theorem call_maxD {prog : Program} {w : World} {A : Around} {E : Value → Shared → Prop} {s : Shared} {l : Addr} {its : List Value} {ns : List Int} {d : Value} {Q : Value → Shared → Prop} (hh : A.handled = none) (hl : s.heap.IsList l its.toArray) (hi : ∀ i v, its[i]? = some v → ∃ t, v = Value.int (ns.getD i 0) t) (len : its.length = ns.length)
    (h0 : ns = [] → ∀ h' tk, (∀ b o, s.heap.get? b = some o → h'.get? b = some o) → Q d { s with heap := h', toks := tk })
    (h1 : ∀ m t h' tk, m ∈ ns → (∀ y, y ∈ ns → y ≤ m) → (∀ b o, s.heap.get? b = some o → h'.get? b = some o) → Q (Value.int m t) { s with heap := h', toks := tk }) :
    wpAny (model prog w) A (call (.builtin "max") [.ref l] [(Str.ofString "default", d)]) Q E s := by
  have nm : (toString "max" ++ toString ".loop" : String) = "max.loop" := by decide
  have below : l < s.heap.objs.size := by obtain ⟨_, q, _⟩ := id hl; exact Heap.lt_size q
  refine PyProof.Rows.kmk_tree F.kind_max F.plain_max F.entry_max (args_maxD _ _) ?_
  refine wpAny_bind (wpAny_of_eq (show Builtin.Builtins.bindParams "max" ["key", "default"] 0 ⟨[], [(Str.ofString "default", d)]⟩ = pure [none, some d] from rfl) (wpAny_bind (wpAny_pure ?_)))
  refine wpAny_bind (wpAny_pyIter_list hl (wpAny_bind (wpAny_newList ?_ (Nat.zero_le _))))
  rw [nm]
  have sz : (s.heap.push { cls := .type "list_iterator", data := .fields #[.ref l, .int 0 0] }).objs.size = s.heap.objs.size + 1 := Heap.size_push ..
  refine wpAny_pure ⟨plainId_quiet F.plain_max_loop _, ?_⟩
  have W := Walks.list (prog := prog) (w := w) (A := A.in1) hh s.heap.objs.size l (Nat.ne_of_lt below) its.toArray
  have hn : its.toArray.size = ns.length := by rw [List.size_toArray]; exact len
  have gI : ((s.heap.push { cls := .type "list_iterator", data := .fields #[.ref l, .int 0 0] }).push (PyProof.Rows.seqObj "list" #[] 0)).IsListIter s.heap.objs.size l 0 := ⟨_, Heap.get?_push_of_some _ (Heap.get?_push_size _ rfl), rfl, rfl⟩
  have gS : ((s.heap.push { cls := .type "list_iterator", data := .fields #[.ref l, .int 0 0] }).push (PyProof.Rows.seqObj "list" #[] 0)).get? (s.heap.push { cls := .type "list_iterator", data := .fields #[.ref l, .int 0 0] }).objs.size = some (PyProof.Rows.seqObj "list" #[] 0) := Heap.get?_push_size _ rfl
  have nS : (s.heap.push { cls := .type "list_iterator", data := .fields #[.ref l, .int 0 0] }).objs.size ≠ s.heap.objs.size := by rw [sz]; exact Nat.succ_ne_self _
  have old : ∀ b o, s.heap.get? b = some o → ((s.heap.push { cls := .type "list_iterator", data := .fields #[.ref l, .int 0 0] }).push (PyProof.Rows.seqObj "list" #[] 0)).get? b = some o := fun b o e => Heap.get?_push_of_some _ (Heap.get?_push_of_some _ e)
  have gl := hl.at fun o e => old l o e
  have away : ∀ b o, s.heap.get? b = some o → b ∉ [s.heap.objs.size] ∧ b ≠ (s.heap.push { cls := .type "list_iterator", data := .fields #[.ref l, .int 0 0] }).objs.size := fun b o e => by
    have := Heap.lt_size e
    constructor
    · intro hm; rw [List.mem_singleton.mp hm] at this; exact Nat.lt_irrefl _ this
    · rw [sz]; exact Nat.ne_of_lt (Nat.lt_succ_of_lt this)
  refine codeAny_builtin F.entry_max_loop ?_
  rw [Around.under_plainId F.plain_max_loop _]
  refine wpAny_bind (wpAny_seqItems gS rfl ?_)
  cases e : ns with
  | nil =>
    have z : its.toArray.size = 0 := by rw [hn, e]; rfl
    refine wpAny_bind (wpAny_tryCatch (W.done _ _ _ (by rw [z]; exact ⟨gI, gl⟩) fun h' tk kept => ?_))
    refine wpAny_bind (wpAny_rule (wpAny_pure ?_))
    exact h0 e _ tk fun b o q => kept b o (away b o q).1 (old b o q)
  | cons y r =>
    have pos : 0 < its.toArray.size := by rw [hn, e]; exact Nat.succ_pos _
    refine wpAny_bind (wpAny_tryCatch (W.item 0 _ _ _ pos ⟨gI, gl⟩ fun v h' tk hv st' kept => ?_))
    have hS1 := kept _ _ (by simpa using nS) gS
    refine wpAny_bind (wpAny_pure ?_)
    refine wpAny_bind ?_
    refine wpAny_updateSeq hS1 rfl ?_
    rw [nm]
    refine wpAny_pure ⟨plainId_quiet F.plain_max_loop _, ?_⟩
    have ap : (s.heap.push { cls := .type "list_iterator", data := .fields #[.ref l, .int 0 0] }).objs.size ∉ [s.heap.objs.size, l] := by
      intro hm
      rcases List.mem_cons.mp hm with hm | hm
      · exact nS hm
      · have q := List.mem_singleton.mp hm
        rw [sz] at q
        rw [← q] at below
        exact absurd below (by simp [Nat.not_lt])
    refine maxD_turns (f := fun i => ns.getD i 0) W (fun i v h => hi i v (by simpa using h)) ap (its.toArray.size - 1) 0 0 _ v _ (by omega) (W.frame _ _ _ st' fun a ha o q => ?_) hv (Nat.le_refl _) (fun i hi => by rw [Nat.le_zero.mp hi]; exact Int.le_refl _) (Heap.get?_update_self _ hS1 rfl) fun b v' h2 tk2 lt hv' top kept' => ?_
    · exact (Heap.get?_update_other _ _ (fun z => ap (by rw [z]; exact ha))).trans q
    · obtain ⟨t, ev⟩ := hi b v' (by simpa using hv')
      subst ev
      refine h1 _ t h2 tk2 ?_ (fun x hx => ?_) fun a o q => kept' a o (away a o q).1 (away a o q).2 ((Heap.get?_update_other _ _ (Ne.symm (away a o q).2)).trans (kept a o (away a o q).1 (old a o q)))
      · have lb : b < ns.length := by rw [← hn]; exact lt
        show ns.getD b 0 ∈ ns
        rw [List.getD_eq_getElem?_getD, List.getElem?_eq_getElem lb]
        exact List.getElem_mem lb
      · obtain ⟨i, hi', rfl⟩ := List.mem_iff_getElem.mp hx
        have := top i (by rw [hn]; exact hi')
        rw [List.getD_eq_getElem?_getD, List.getElem?_eq_getElem hi'] at this
        exact this
/-- max(xs, default=z) of a list of ints -/
def rMaxDf (K : PySem.W.Frag) : List V → List V → Hp → VK → Prop := fun vs zs H Q => ∃ (a : Addr) (ns : List Int) (z : Int), vs = [.ref a] ∧ zs = [.int z] ∧ SqL K H a (ns.map V.int) ∧ (ns = [] → Q (.int z) H) ∧ ∀ m, m ∈ ns → (∀ y, y ∈ ns → y ≤ m) → Q (.int m) H
theorem cr_maxDf {X : Cx} (hc : X.calm = true) : CallRK X (.builtin "max") [Str.ofString "default"] (rMaxDf X.K) := by
  intro pins s σ H vs zs us ws Q I r rz h
  obtain ⟨a, ns, z, rfl, rfl, hs, q0, q1⟩ := h
  obtain ⟨its, rv, hl, _⟩ := I.list hs
  obtain rfl := Vals.ref1 r
  obtain ⟨w1, rfl, e1⟩ := vals1 rz
  have len : its.length = ns.length := by rw [← rv.length, List.length_map]
  refine call_maxD (ns := ns) (I.ok.hd hc) hl.isList (fun i v hv => ?_) len (fun e h' tk hk => ⟨.int z, H, I.kept hk, e1, q0 e⟩) fun m t h' tk hm top hk => ⟨.int m, H, I.kept hk, ⟨t, rfl⟩, q1 m hm top⟩
  have lt : i < ns.length := by rw [← len]; exact (List.getElem?_eq_some_iff.mp hv).1
  obtain ⟨u, hu, ru⟩ := rv.get (i := i) (x := V.int ns[i]) (by rw [List.getElem?_map, List.getElem?_eq_getElem lt]; rfl)
  rw [hv] at hu
  cases hu
  obtain ⟨t, rfl⟩ := ru
  exact ⟨t, by rw [List.getD_eq_getElem?_getD, List.getElem?_eq_getElem lt]; rfl⟩
/-! ### rows, pieces, cells -/
inductive Cell where
  | old (k : Int) | new (b : Int)
  deriving DecidableEq
inductive Row where
  | copy (b n : Int) | run (b n : Int) | bring (bs : List Int)
  deriving DecidableEq
def Cell.tup : Cell → List V
  | .old k => [.str "old", .int k]
  | .new b => [.str "new", .int b]
def Row.tup : Row → List V
  | .copy b n => [.str "copy", .int b, .int n]
  | .run b n => [.str "run", .int b, .int n]
  | .bring bs => [.str "bring", .byt (byteArr bs)]
def Row.len : Row → Int
  | .copy _ n => n
  | .run _ n => n
  | .bring bs => bs.length
def Row.ok (c : Int) : Row → Prop
  | .copy b n => 0 ≤ b ∧ 1 ≤ n ∧ b + n ≤ c
  | .run b n => 0 ≤ b ∧ b < 256 ∧ 1 ≤ n
  | .bring bs => 1 ≤ (bs.length : Int) ∧ B8 bs
def total : List Row → Int
  | [] => 0
  | r :: l => r.len + total l
theorem total_app : ∀ (a b : List Row), total (a ++ b) = total a + total b
  | [], b => by show total b = 0 + total b; omega
  | r :: a, b => by
    have := total_app a b
    show r.len + total (a ++ b) = r.len + total a + total b
    omega
theorem Row.len_pos {c : Int} : ∀ {r : Row}, r.ok c → 1 ≤ r.len
  | .copy _ _, h => h.2.1
  | .run _ _, h => h.2.2
  | .bring _, h => h.1
theorem total_nn {c : Int} : ∀ {l : List Row}, (∀ r ∈ l, r.ok c) → 0 ≤ total l
  | [], _ => by show (0 : Int) ≤ 0; decide
  | r :: l, h => by
    have a := Row.len_pos (h r List.mem_cons_self)
    have b := total_nn (l := l) fun x hx => h x (List.mem_cons_of_mem _ hx)
    show 0 ≤ r.len + total l
    omega
theorem len_le_total {c : Int} : ∀ {l : List Row}, (∀ r ∈ l, r.ok c) → (l.length : Int) ≤ total l
  | [], _ => by show (0 : Int) ≤ 0; decide
  | r :: l, h => by
    have a := Row.len_pos (h r List.mem_cons_self)
    have b := len_le_total (l := l) fun x hx => h x (List.mem_cons_of_mem _ hx)
    show ((l.length + 1 : Nat) : Int) ≤ r.len + total l
    omega
def CellV (H : Hp) (v : V) (c : Cell) : Prop := ∃ p, v = .ref p ∧ H p = some (.tup c.tup)
def PieceV (H : Hp) (v : V) (r : Row) : Prop := ∃ p, v = .ref p ∧ H p = some (.tup r.tup)
def RowV (H : Hp) (v : V) : Row → Prop
  | .bring bs => ∃ p q, v = .ref p ∧ H p = some (.tup [.str "bring", .ref q]) ∧ H q = some (.lst (bs.map V.int))
  | r => ∃ p, v = .ref p ∧ H p = some (.tup r.tup)
/-- the tuples stay -/
def Tups (H H' : Hp) : Prop := ∀ p xs, H p = some (.tup xs) → H' p = some (.tup xs)
theorem Same.tups {H H' : Hp} (s : Same H H') : Tups H H' := fun p xs h => s p _ h
theorem But.tups {K : PySem.W.Frag} {a : Addr} {ns : List Int} {d : Addr} {H H' : Hp} (b : But d H H') (D : Dice K a ns H d) : Tups H H' := fun p xs h => tup_but D b h
theorem Tups.lst {H : Hp} {p : Addr} {xs : List V} {o : HO} (h : H p = some (.lst xs)) : Tups H (upd H p o) := fun q ys e => by rw [upd_ne (ne_of e h tup_lst)]; exact e
theorem Tups.trans {H H1 H2 : Hp} (a : Tups H H1) (b : Tups H1 H2) : Tups H H2 := fun p xs h => b p xs (a p xs h)
theorem CellV.tups {H H' : Hp} {v : V} {c : Cell} (t : Tups H H') (h : CellV H v c) : CellV H' v c := let ⟨p, e, x⟩ := h; ⟨p, e, t _ _ x⟩
theorem PieceV.tups {H H' : Hp} {v : V} {c : Row} (t : Tups H H') (h : PieceV H v c) : PieceV H' v c := let ⟨p, e, x⟩ := h; ⟨p, e, t _ _ x⟩
theorem RowV.keep {H H' : Hp} {v : V} : ∀ {r : Row}, Tups H H' → (∀ q ns, H q = some (.lst (List.map V.int ns)) → H' q = some (.lst (List.map V.int ns))) → RowV H v r → RowV H' v r
  | .copy _ _, t, _, ⟨p, e, x⟩ => ⟨p, e, t _ _ x⟩
  | .run _ _, t, _, ⟨p, e, x⟩ => ⟨p, e, t _ _ x⟩
  | .bring _, t, l, ⟨p, q, e, x, y⟩ => ⟨p, q, e, t _ _ x, l _ _ y⟩
theorem RowV.same {H H' : Hp} {v : V} {r : Row} (s : Same H H') (h : RowV H v r) : RowV H' v r := h.keep (Same.tups s) (fun q ns e => s _ _ e)
theorem RowV.but {K : PySem.W.Frag} {a : Addr} {ns : List Int} {H H' : Hp} {d : Addr} {v : V} {r : Row} (D : Dice K a ns H d) (b : But d H H') (h : RowV H v r) : RowV H' v r := h.keep (But.tups b D) (fun q ns e => ints_but D b e)
theorem RowV.isRef {H : Hp} {v : V} : ∀ {r : Row}, RowV H v r → ∃ p, v = .ref p
  | .copy _ _, ⟨p, e, _⟩ => ⟨p, e⟩
  | .run _ _, ⟨p, e, _⟩ => ⟨p, e⟩
  | .bring _, ⟨p, _, e, _⟩ => ⟨p, e⟩
theorem pairedMem {α β : Type} {F G : α → β → Prop} : ∀ {l : List α} {m : List β}, Paired F l m → (∀ a ∈ l, ∀ b ∈ m, F a b → G a b) → Paired G l m
  | _, _, .nil, _ => .nil
  | _, _, .cons r t, f => .cons (f _ List.mem_cons_self _ List.mem_cons_self r) (pairedMem t fun a ha b hb => f a (List.mem_cons_of_mem _ ha) b (List.mem_cons_of_mem _ hb))
theorem pairedMap {α β : Type} {F G : α → β → Prop} {l : List α} {m : List β} (h : Paired F l m) (f : ∀ a b, F a b → G a b) : Paired G l m := pairedMem h fun a _ b _ => f a b
theorem pairedApp {α β : Type} {F : α → β → Prop} : ∀ {l l' : List α} {m m' : List β}, Paired F l m → Paired F l' m' → Paired F (l ++ l') (m ++ m')
  | _, _, _, _, .nil, s => s
  | _, _, _, _, .cons r t, s => .cons r (pairedApp t s)
theorem pairedAt {α β : Type} {F : α → β → Prop} : ∀ {l : List α} {m : List β} {i : Nat} {x : α}, Paired F l m → l[i]? = some x → ∃ y, m[i]? = some y ∧ F x y
  | _, _, _, _, .nil, e => by simp at e
  | _, _, 0, _, .cons r _, e => by simp at e; subst e; exact ⟨_, rfl, r⟩
  | _, _, i + 1, x, .cons _ t, e => by
    obtain ⟨y, h1, h2⟩ := pairedAt (i := i) (x := x) t (by simpa using e)
    exact ⟨y, by simpa using h1, h2⟩
theorem pairedAt' {α β : Type} {F : α → β → Prop} : ∀ {l : List α} {m : List β} {i : Nat} {y : β}, Paired F l m → m[i]? = some y → ∃ x, l[i]? = some x ∧ F x y
  | _, _, _, _, .nil, e => by simp at e
  | _, _, 0, _, .cons r _, e => by simp at e; subst e; exact ⟨_, rfl, r⟩
  | _, _, i + 1, y, .cons _ t, e => by
    obtain ⟨x, h1, h2⟩ := pairedAt' (i := i) (y := y) t (by simpa using e)
    exact ⟨x, by simpa using h1, h2⟩
/-- a list of rows at p -/
def RowsAt (H : Hp) (p : Addr) (rows : List Row) : Prop := ∃ vs, H p = some (.lst vs) ∧ Paired (RowV H) vs rows
def PatchAt (H : Hp) (v : V) (rows : List Row) : Prop := ∃ p vs, v = .ref p ∧ H p = some (.tup vs) ∧ Paired (PieceV H) vs rows
def CellsAt (H : Hp) (p : Addr) (cs : List Cell) : Prop := ∃ vs, H p = some (.lst vs) ∧ Paired (CellV H) vs cs
theorem RowsAt.same {H H' : Hp} {p : Addr} {rows : List Row} (s : Same H H') (h : RowsAt H p rows) : RowsAt H' p rows := let ⟨vs, e, r⟩ := h; ⟨vs, s _ _ e, pairedMap r fun _ _ x => x.same s⟩
theorem CellsAt.same {H H' : Hp} {p : Addr} {cs : List Cell} (s : Same H H') (h : CellsAt H p cs) : CellsAt H' p cs := let ⟨vs, e, r⟩ := h; ⟨vs, s _ _ e, pairedMap r fun _ _ x => x.tups (Same.tups s)⟩
theorem PatchAt.tups {H H' : Hp} {v : V} {rows : List Row} (s : Tups H H') (h : PatchAt H v rows) : PatchAt H' v rows := let ⟨p, vs, e, x, r⟩ := h; ⟨p, vs, e, s _ _ x, pairedMap r fun _ _ x => x.tups s⟩
theorem RowsAt.but {K : PySem.W.Frag} {a : Addr} {ns : List Int} {H H' : Hp} {d p : Addr} {rows : List Row} (D : Dice K a ns H d) (b : But d H H') (hn : p ≠ d) (h : RowsAt H p rows) : RowsAt H' p rows :=
  let ⟨vs, e, r⟩ := h; ⟨vs, b _ _ hn e, pairedMap r fun _ _ x => x.but D b⟩
/-- one row more at the end of the list -/
theorem rows_put {H : Hp} {p : Addr} {vs : List V} {rows : List Row} {v : V} {r : Row} (e : H p = some (.lst vs)) (h : Paired (RowV H) vs rows) (hv : RowV H v r) (hq : ∀ bs p' q, r = .bring bs → H p' = some (.tup [.str "bring", .ref q]) → v = .ref p' → q ≠ p) :
    RowsAt (upd H p (.lst (vs ++ [v]))) p (rows ++ [r]) := by
  refine ⟨_, upd_same, pairedApp (pairedMem h fun a ha b _ x => ?_) (.cons ?_ .nil)⟩
  · refine x.keep (Tups.lst e) fun q ns z => ?_
    rw [upd_ne]
    · exact z
    · rintro rfl
      rw [e] at z
      obtain ⟨u, rfl⟩ := x.isRef
      have z' : vs = ns.map V.int := by injection z with z; injection z
      rw [z'] at ha
      obtain ⟨_, _, z2⟩ := List.mem_map.mp ha
      cases z2
  · cases r with
    | copy b n => obtain ⟨u, e1, e2⟩ := hv; exact ⟨u, e1, Tups.lst e _ _ e2⟩
    | run b n => obtain ⟨u, e1, e2⟩ := hv; exact ⟨u, e1, Tups.lst e _ _ e2⟩
    | bring bs =>
      obtain ⟨u, q, e1, e2, e3⟩ := hv
      exact ⟨u, q, e1, Tups.lst e _ _ e2, by rw [upd_ne (hq bs u q rfl e2 e1)]; exact e3⟩
/-! ### _law_bytes, _law_rows, _law_handed, bytes_of, is_number, numbers_of -/
def spBytes (K : PySem.W.Frag) : Sp := fun vs H Q _ => ∃ (a : Addr) (ns : List Int) (d : Addr) (m : Int), vs = [.ref d, .int m] ∧ Dice K a ns H d ∧ 0 ≤ m ∧ m ≤ 1000 ∧
  ∀ H' p bs, But d H H' → Dice K a ns H' d → H p = none → H' p = some (.lst (List.map V.int bs)) → B8 bs → (bs.length : Int) ≤ m → Q (.ref p) H'
def spRows (K : PySem.W.Frag) : Sp := fun vs H Q _ => ∃ (a : Addr) (ns : List Int) (d : Addr) (c m : Int), vs = [.ref d, .int c, .int m] ∧ Dice K a ns H d ∧ 0 ≤ c ∧ c ≤ 1000 ∧ 0 ≤ m ∧ m ≤ 1000 ∧
  ∀ H' p rows, But d H H' → Dice K a ns H' d → H p = none → RowsAt H' p rows → (∀ r ∈ rows, r.ok c) → total rows ≤ m → Q (.ref p) H'
def spIsNum : Sp := fun vs H Q _ => ∃ z lo hi : Int, vs = [.int z, .int lo, .int hi] ∧ Q (.bl (decide (lo ≤ z) && decide (z ≤ hi))) H
def spBytesOf (K : PySem.W.Frag) : Sp := fun vs H Q _ => ∃ (p : Addr) (bs : List Int), vs = [.ref p] ∧ SqL K H p (bs.map V.int) ∧ B8 bs ∧ Q (.byt (byteArr bs)) H
def spNumsOf : Sp := fun vs H Q _ => ∃ bs : List Int, vs = [.byt (byteArr bs)] ∧ B8 bs ∧ bs.length ≤ 100000 ∧ ∀ p, H p = none → Q (.ref p) (upd H p (.lst (bs.map V.int)))
def spHanded : Sp := fun vs H Q _ => ∃ (p : Addr) (rows : List Row) (c : Int), vs = [.ref p] ∧ RowsAt H p rows ∧ (∀ r ∈ rows, r.ok c) ∧ rows.length ≤ 10000 ∧ ∀ H' v, Same H H' → PatchAt H' v rows → Q v H'
section
variable {P : Program} {w : World} {K : PySem.W.Frag} {mg : Str → Option Value} {base : Heap}
theorem ok_is_number (T : All K mg) : FnOk P w K mg base CX0 1 T.d_is_number.f T.d_is_number.fd ["what", "least", "most"] spIsNum := by
  refine T.d_is_number.F.ok sc_is_number (fun vs H Q E h => ?_) (fun cdv A outer s H vs Q E hr h => ?_)
  · obtain ⟨z, lo, hi, rfl, _⟩ := h
    rfl
  · obtain ⟨z, lo, hi, rfl, k⟩ := h
    refine ⟨_, (pss_one 
      (ps_ret (pe_and (pe_callB call_isi (by rfl) T.b_isinstance (by decide +kernel) (pa_cons (pv 0) (pa_cons (pe_bltn (v := .ty "int") (by rfl) T.b_int (by decide +kernel) rfl) pa_nil))) (pe_and (pe_not (pe_callB call_isi (by rfl) T.b_isinstance (by decide +kernel) (pa_cons (pv 0) (pa_cons (pe_bltn (v := .ty "bool") (by rfl) T.b_bool (by decide +kernel) rfl) pa_nil)))) (pe_one (pe_chain op_le op_le (pv 1) (pv 0) (pv 2))))))), ?_⟩
    refine ⟨_, rfl, _, _, _, _, true, rfl, .ty _, .base (.int z), kit_ty (by decide +kernel), true, rfl, iteT ?_⟩
    refine ⟨_, rfl, _, _, _, _, false, rfl, .ty _, .base (.int z), kit_ty (by decide +kernel), false, rfl, true, rfl, iteT ?_⟩
    refine ⟨_, rfl, _, rfl, _, _, rfl, rfl, decide (lo ≤ z), rfl, ?_⟩
    by_cases h1 : lo ≤ z
    · rw [decide_eq_true h1] at k ⊢
      refine iteT ⟨_, rfl, _, _, rfl, rfl, ?_⟩
      exact k
    · rw [decide_eq_false h1] at k ⊢
      exact iteF k
theorem ok_bytes_of (T : All K mg) : FnOk P w K mg base CX0 2 T.d_bytes_of.f T.d_bytes_of.fd ["numbers"] (spBytesOf K) := by
  have G_is_number : FnOk P w K mg base CX0 1 T.d_is_number.f T.d_is_number.fd ["what", "least", "most"] spIsNum := ok_is_number T
  refine T.d_bytes_of.F.ok sc_bytes_of (fun vs H Q E h => ?_) (fun cdv A outer s H vs Q E hr h => ?_)
  · obtain ⟨p, bs, rfl, _⟩ := h
    rfl
  · obtain ⟨p, bs, rfl, hS, hb, k⟩ := h
    refine ⟨_, (pss_cons 
      (ps_for PassesOwn.never rfl (pi_list (pv 0)) (pg_name (i := 1) sc_bytes_of.nd rfl (Or.inl rfl)) (pss_one 
      (ps_if (pt_not (pt_val (pe_call G_is_number (hr.mono (by decide)) rfl T.d_is_number.m T.d_is_number.F.kp T.d_is_number.b .nil pass0 (pa_cons (pv 1) (pa_cons pe_int (pa_cons (pe_glob (v := .int 255) rfl T.c_LAST_BYTE ⟨_, rfl⟩) pa_nil)))))) (pss_one ps_never) pss_nil))) (pss_one 
      (ps_ret (pe_bytesOf rfl (by rfl) T.b_bytes (pv 0))))), ?_⟩
    refine ⟨_, rfl, p, rfl, ⟨_, hS⟩, for_list (K := K) (a := p) (xs := bs.map V.int) (fun i σ H' => ∃ v : Option V, σ = [some (.ref p), v] ∧ H' = H)
      ⟨none, rfl, rfl⟩ (fun i σ H' _ ⟨_, _, e⟩ => by rw [e]; exact hS) ?_ ?_⟩
    · rintro i y σ H' hi ⟨v, rfl, rfl⟩
      obtain ⟨z, rfl, hz⟩ := at_map hi
      have hm := hb z (List.mem_of_getElem? hz)
      refine ⟨_, rfl, z, 0, 255, rfl, _, rfl, ?_⟩
      rw [decide_eq_true hm.1, decide_eq_true (show z ≤ 255 by omega)]
      refine iteF ?_
      exact ⟨_, rfl, rfl⟩
    · rintro σ H' ⟨v, rfl, rfl⟩
      refine ⟨_, rfl, .inr ⟨p, bs, rfl, hS, hb, k⟩⟩
theorem ok_numbers_of (T : All K mg) : FnOk P w K mg base CX0 1 T.d_numbers_of.f T.d_numbers_of.fd ["some"] spNumsOf := by
  refine T.d_numbers_of.F.ok sc_numbers_of (fun vs H Q E h => ?_) (fun cdv A outer s H vs Q E hr h => ?_)
  · obtain ⟨bs, rfl, _⟩ := h
    rfl
  · obtain ⟨bs, rfl, hb, hl, k⟩ := h
    refine ⟨_, (pss_one 
      (ps_ret (pe_listOfB rfl (by rfl) T.b_list (pv 0)))), ?_⟩
    refine ⟨_, rfl, _, rfl, by rw [byteArr_size]; exact sizeS hl, fun q hq => ?_⟩
    rw [bi_make hb]
    exact k q hq
end
section
variable {P : Program} {w : World} {K : PySem.W.Frag} {mg : Str → Option Value} {base : Heap}
theorem RowsAt.at {H : Hp} {p : Addr} {rows : List Row} (h : RowsAt H p rows) : ∃ vs, H p = some (.lst vs) ∧ vs.length = rows.length := by
  obtain ⟨vs, e, r⟩ := h
  exact ⟨vs, e, Paired.length r⟩
end
/-! ### what a patch tells -/
def cellsR : Row → List Cell
  | .copy b n => (List.range n.toNat).map fun i => Cell.old (b + (i : Nat))
  | .run b n => List.replicate n.toNat (Cell.new b)
  | .bring bs => bs.map Cell.new
def cellsOf (rows : List Row) : List Cell := rows.flatMap cellsR
def Good (rows : List Row) : Prop := (∀ r ∈ rows, r.ok 200) ∧ total rows ≤ 200
def endsOf : List Row → List Int
  | [] => []
  | .copy b n :: l => (b + n) :: endsOf l
  | _ :: l => endsOf l
def top0 : List Int → Int
  | [] => 0
  | x :: l => if top0 l < x then x else top0 l
def needsOf (rows : List Row) : Int := top0 (endsOf rows)
def valOf (es : List Int) : Cell → Int
  | .old k => es.getD k.toNat 0
  | .new b => b
def doneOf (rows : List Row) (es : List Int) : List Int := (cellsOf rows).map (valOf es)
theorem Row.ok_mono {c e : Int} (h : c ≤ e) : ∀ {r : Row}, r.ok c → r.ok e
  | .copy _ _, ⟨a, b, d⟩ => ⟨a, b, by omega⟩
  | .run _ _, x => x
  | .bring _, x => x
theorem top0_ge : ∀ {l : List Int} {y : Int}, y ∈ l → y ≤ top0 l
  | x :: l, y, h => by
    show y ≤ if top0 l < x then x else top0 l
    rcases List.mem_cons.mp h with rfl | h
    · split <;> omega
    · have := top0_ge h
      split <;> omega
theorem top0_is : ∀ (l : List Int), top0 l = 0 ∨ top0 l ∈ l
  | [] => .inl rfl
  | x :: l => by
    show (if top0 l < x then x else top0 l) = 0 ∨ (if top0 l < x then x else top0 l) ∈ x :: l
    split
    · exact .inr List.mem_cons_self
    · rcases top0_is l with h | h
      · exact .inl h
      · exact .inr (List.mem_cons_of_mem _ h)
theorem top0_nn : ∀ (l : List Int), 0 ≤ top0 l
  | [] => by show (0 : Int) ≤ 0; decide
  | x :: l => by
    have := top0_nn l
    show (0 : Int) ≤ if top0 l < x then x else top0 l
    split <;> omega
theorem ends_pos {c : Int} : ∀ {l : List Row}, (∀ r ∈ l, r.ok c) → ∀ y ∈ endsOf l, 0 < y
  | [], _, y, hy => (List.not_mem_nil hy).elim
  | .copy b n :: l, h, y, hy => by
    have h0 := h _ List.mem_cons_self
    rcases List.mem_cons.mp hy with rfl | hy
    · have := h0.1; have := h0.2.1; omega
    · exact ends_pos (fun r hr => h r (List.mem_cons_of_mem _ hr)) y hy
  | .run b n :: l, h, y, hy => ends_pos (fun r hr => h r (List.mem_cons_of_mem _ hr)) y hy
  | .bring bs :: l, h, y, hy => ends_pos (fun r hr => h r (List.mem_cons_of_mem _ hr)) y hy
theorem top0_eq {l : List Int} {m : Int} (hm : m ∈ l) (hp : 0 < m) (ht : ∀ y, y ∈ l → y ≤ m) : m = top0 l := by
  have h1 := top0_ge hm
  rcases top0_is l with h | h
  · omega
  · have := ht _ h; omega
theorem cellsR_len {c : Int} : ∀ {r : Row}, r.ok c → ((cellsR r).length : Int) = r.len
  | .copy b n, h => by
    have := h.2.1
    show ((((List.range n.toNat).map fun i => Cell.old (b + (i : Nat))).length : Nat) : Int) = n
    rw [List.length_map, List.length_range]; omega
  | .run b n, h => by
    have := h.2.2
    show (((List.replicate n.toNat (Cell.new b)).length : Nat) : Int) = n
    rw [List.length_replicate]; omega
  | .bring bs, h => by
    show (((bs.map Cell.new).length : Nat) : Int) = bs.length
    rw [List.length_map]
theorem cellsOf_len {c : Int} : ∀ {l : List Row}, (∀ r ∈ l, r.ok c) → ((cellsOf l).length : Int) = total l
  | [], _ => rfl
  | r :: l, h => by
    have a := cellsR_len (h r List.mem_cons_self)
    have b := cellsOf_len (l := l) fun x hx => h x (List.mem_cons_of_mem _ hx)
    show ((((cellsR r) ++ cellsOf l).length : Nat) : Int) = r.len + total l
    rw [List.length_append]; omega
theorem take_snoc {α : Type} {l : List α} {i : Nat} {x : α} (h : l[i]? = some x) : l.take (i + 1) = l.take i ++ [x] := by rw [List.take_add_one, h]; rfl
theorem total_take {l : List Row} {i : Nat} {r : Row} (h : l[i]? = some r) : total (l.take (i + 1)) = total (l.take i) + r.len := by
  rw [take_snoc h, total_app]
  show total (l.take i) + (r.len + 0) = _
  omega
theorem total_take_le {c : Int} {l : List Row} (h : ∀ r ∈ l, r.ok c) (i : Nat) : total (l.take i) ≤ total l := by
  have e := total_app (l.take i) (l.drop i)
  rw [List.take_append_drop] at e
  have := total_nn (l := l.drop i) fun r hr => h r (List.mem_of_mem_drop hr)
  omega
theorem len_le_of {c : Int} {l : List Row} (h : ∀ r ∈ l, r.ok c) {r : Row} (hr : r ∈ l) : r.len ≤ total l := by
  obtain ⟨i, hi, rfl⟩ := List.mem_iff_getElem.mp hr
  have a := total_take (List.getElem?_eq_getElem hi)
  have b := total_take_le h (i + 1)
  have d := total_nn (l := l.take i) fun r hr => h r (List.mem_of_mem_take hr)
  omega
theorem CellsAt.len {H : Hp} {p : Addr} {cs : List Cell} (h : CellsAt H p cs) : ∃ vs, H p = some (.lst vs) ∧ Paired (CellV H) vs cs ∧ vs.length = cs.length := let ⟨vs, e, r⟩ := h; ⟨vs, e, r, Paired.length r⟩
/-! ### the promises -/
def spCanBe : Sp := fun vs H Q _ => ∃ (p : Addr) (r : Row), vs = [.ref p] ∧ H p = some (.tup r.tup) ∧ r.ok 200 ∧ r.len ≤ 200 ∧ Q (.bl true) H
def spLengthOf : Sp := fun vs H Q _ => ∃ (p : Addr) (r : Row), vs = [.ref p] ∧ H p = some (.tup r.tup) ∧ r.ok 200 ∧ r.len ≤ 200 ∧ Q (.int r.len) H
def spCellsOf : Sp := fun vs H Q _ => ∃ (p : Addr) (r : Row), vs = [.ref p] ∧ H p = some (.tup r.tup) ∧ r.ok 200 ∧ r.len ≤ 200 ∧ ∀ H' q, Same H H' → H q = none → CellsAt H' q (cellsR r) → Q (.ref q) H'
def spCheckPatch : Sp := fun vs H Q _ => ∃ (v : V) (rows : List Row), vs = [v] ∧ PatchAt H v rows ∧ Good rows ∧ ∀ H', Same H H' → Q .non H'
def spCheckEdition : Sp := fun vs H Q _ => ∃ es : List Int, vs = [.byt (byteArr es)] ∧ es.length ≤ 200 ∧ Q .non H
def spCheckReach : Sp := fun vs H Q _ => ∃ (v : V) (rows : List Row) (es : List Int), vs = [v, .byt (byteArr es)] ∧ PatchAt H v rows ∧ (∀ r ∈ rows, r.ok es.length) ∧ es.length ≤ 200 ∧ ∀ H', Same H H' → Q .non H'
def spCells : Sp := fun vs H Q _ => ∃ (v : V) (rows : List Row), vs = [v] ∧ PatchAt H v rows ∧ Good rows ∧ ∀ H' p, Same H H' → H p = none → CellsAt H' p (cellsOf rows) → Q (.ref p) H'
def spMakes : Sp := fun vs H Q _ => ∃ (v : V) (rows : List Row), vs = [v] ∧ PatchAt H v rows ∧ Good rows ∧ ∀ H', Same H H' → Q (.int (total rows)) H'
def spNeeds : Sp := fun vs H Q _ => ∃ (v : V) (rows : List Row), vs = [v] ∧ PatchAt H v rows ∧ Good rows ∧ ∀ H', Same H H' → Q (.int (needsOf rows)) H'
def spDone : Sp := fun vs H Q _ => ∃ (v : V) (rows : List Row) (es : List Int), vs = [v, .byt (byteArr es)] ∧ PatchAt H v rows ∧ Good rows ∧ (∀ r ∈ rows, r.ok es.length) ∧ B8 es ∧ es.length ≤ 200 ∧ ∀ H', Same H H' → Q (.byt (byteArr (doneOf rows es))) H'
section
variable {P : Program} {w : World} {K : PySem.W.Frag} {mg : Str → Option Value} {base : Heap}
theorem ok_length_of (T : All K mg) : FnOk P w K mg base CX0 1 T.d_length_of.f T.d_length_of.fd ["piece"] spLengthOf := by
  refine T.d_length_of.F.ok sc_length_of (fun vs H Q E h => ?_) (fun cdv A outer s H vs Q E hr h => ?_)
  · obtain ⟨p, _, rfl, _⟩ := h
    rfl
  · obtain ⟨p, r, rfl, hp, hok, hl, k⟩ := h
    refine ⟨_, (pss_cons 
      (ps_if (pt_cmpR op_eq (pe_ix ix_tup (pv 0) pe_int (fun _ _ => rfl)) pe_str (nomark _)) (pss_one 
      (ps_ret (pe_callB call_len (by rfl) T.b_len PySem.boot_len (pa_cons (pe_ix ix_tup (pv 0) pe_int (fun _ _ => rfl)) pa_nil)))) pss_nil) (pss_one 
      (ps_ret (pe_ix ix_tup (pv 0) pe_int (fun _ _ => rfl))))), ?_⟩
    cases r with
    | copy b n =>
      refine ⟨_, rfl, p, _, _, _, rfl, rfl, SqT.of hp, rfl, rfl, _, rfl, ite2 (fun h => absurd h (by decide)) fun _ => ?_⟩
      exact ⟨_, rfl, p, _, _, _, rfl, rfl, SqT.of hp, rfl, k⟩
    | run b n =>
      refine ⟨_, rfl, p, _, _, _, rfl, rfl, SqT.of hp, rfl, rfl, _, rfl, ite2 (fun h => absurd h (by decide)) fun _ => ?_⟩
      exact ⟨_, rfl, p, _, _, _, rfl, rfl, SqT.of hp, rfl, k⟩
    | bring bs =>
      refine ⟨_, rfl, p, _, _, _, rfl, rfl, SqT.of hp, rfl, rfl, _, rfl, ite2 (fun _ => ?_) fun h => absurd (by decide) h⟩
      have hl : (bs.length : Int) ≤ 200 := hl
      refine ⟨_, rfl, p, _, _, _, rfl, rfl, SqT.of hp, rfl, _, bs.length, rfl, ⟨by rw [byteArr_size]; exact sizeS (by omega), (byteArr_size bs).symm⟩, k⟩
theorem ok_can_be (T : All K mg) : FnOk P w K mg base CX0 2 T.d_can_be.f T.d_can_be.fd ["piece"] spCanBe := by
  have G_is_number : FnOk P w K mg base CX0 1 T.d_is_number.f T.d_is_number.fd ["what", "least", "most"] spIsNum := ok_is_number T
  refine T.d_can_be.F.ok sc_can_be (fun vs H Q E h => ?_) (fun cdv A outer s H vs Q E hr h => ?_)
  · obtain ⟨p, _, rfl, _⟩ := h
    rfl
  · obtain ⟨p, r, rfl, hp, hok, hl, k⟩ := h
    refine ⟨_, (pss_cons 
      (ps_if (pt_not (pt_val (pe_callB call_isi (by rfl) T.b_isinstance (by decide +kernel) (pa_cons (pv 0) (pa_cons (pe_bltn (v := .ty "tuple") (by rfl) T.b_tuple (by decide +kernel) rfl) pa_nil))))) (pss_one 
      (ps_ret pe_bl)) pss_nil) (pss_cons 
      (ps_if (pt_cmpR op_eq (pe_callB call_len (by rfl) T.b_len PySem.boot_len (pa_cons (pv 0) pa_nil)) pe_int (nomark _)) (pss_cons 
      (ps_asg (pv 0) (pg_tup rfl (pgs_cons (pg_name (i := 1) sc_can_be.nd rfl (Or.inl rfl)) (pgs_cons (pg_name (i := 2) sc_can_be.nd rfl (Or.inl rfl)) pgs_nil)))) (pss_one 
      (ps_ret (pe_and (pe_cmpR op_eq (pv 1) pe_str (nomark _)) (pe_and (pe_callB call_isi (by rfl) T.b_isinstance (by decide +kernel) (pa_cons (pv 2) (pa_cons (pe_bltn (v := .ty "bytes") (by rfl) T.b_bytes (by decide +kernel) rfl) pa_nil))) (pe_one (pe_chain op_le op_le pe_int (pe_callB call_len (by rfl) T.b_len PySem.boot_len (pa_cons (pv 2) pa_nil)) (pe_glob (v := .int 200) rfl T.c_MOST ⟨_, rfl⟩)))))))) pss_nil) (pss_cons 
      (ps_if (pt_cmpR op_ne (pe_callB call_len (by rfl) T.b_len PySem.boot_len (pa_cons (pv 0) pa_nil)) pe_int (nomark _)) (pss_one 
      (ps_ret pe_bl)) pss_nil) (pss_cons 
      (ps_asg (pv 0) (pg_tup rfl (pgs_cons (pg_name (i := 1) sc_can_be.nd rfl (Or.inl rfl)) (pgs_cons (pg_name (i := 3) sc_can_be.nd rfl (Or.inl rfl)) (pgs_cons (pg_name (i := 4) sc_can_be.nd rfl (Or.inl rfl)) pgs_nil))))) (pss_cons 
      (ps_if (pt_not (pt_val (pe_call G_is_number (hr.mono (by decide)) rfl T.d_is_number.m T.d_is_number.F.kp T.d_is_number.b .nil pass0 (pa_cons (pv 4) (pa_cons pe_int (pa_cons (pe_glob (v := .int 200) rfl T.c_MOST ⟨_, rfl⟩) pa_nil)))))) (pss_one 
      (ps_ret pe_bl)) pss_nil) (pss_cons 
      (ps_if (pt_cmpR op_eq (pv 1) pe_str (nomark _)) (pss_one 
      (ps_ret (pe_call G_is_number (hr.mono (by decide)) rfl T.d_is_number.m T.d_is_number.F.kp T.d_is_number.b .nil pass0 (pa_cons (pv 3) (pa_cons pe_int (pa_cons (pe_op op_sub (pe_glob (v := .int 200) rfl T.c_MOST ⟨_, rfl⟩) (pv 4)) pa_nil)))))) pss_nil) (pss_one 
      (ps_ret (pe_and (pe_cmpR op_eq (pv 1) pe_str (nomark _)) (pe_one (pe_call G_is_number (hr.mono (by decide)) rfl T.d_is_number.m T.d_is_number.F.kp T.d_is_number.b .nil pass0 (pa_cons (pv 3) (pa_cons pe_int (pa_cons (pe_glob (v := .int 255) rfl T.c_LAST_BYTE ⟨_, rfl⟩) pa_nil)))))))))))))), ?_⟩
    refine ⟨_, rfl, _, _, _, _, true, rfl, .ty _, .base (.tup hp), kit_ty (by decide +kernel), true, rfl, iteF ?_⟩
    cases r with
    | copy b n =>
      have h1 := hok.1
      have h2 := hok.2.1
      have h3 := hok.2.2
      have h4 : n ≤ 200 := hl
      refine ⟨_, rfl, _, 3, rfl, .inr ⟨_, SqT.of hp, rfl⟩, rfl, _, rfl, ite2 (fun h => absurd h (by decide)) fun _ => ?_⟩
      refine ⟨_, rfl, _, 3, rfl, .inr ⟨_, SqT.of hp, rfl⟩, rfl, _, rfl, ite2 (fun h => absurd h (by decide)) fun _ => ?_⟩
      refine ⟨_, rfl, p, _, rfl, SqT.of hp, rfl, _, _, rfl, _, _, rfl, _, _, rfl, rfl, ?_⟩
      refine ⟨_, rfl, n, 1, 200, rfl, _, rfl, ?_⟩
      rw [decide_eq_true h2, decide_eq_true h4]
      refine iteF ?_
      refine ⟨_, rfl, rfl, _, rfl, ite2 (fun _ => ?_) fun h => absurd (by decide) h⟩
      refine ⟨_, rfl, _, rfl, _, _, rfl, rfl, b, 0, 200 - n, rfl, ?_⟩
      rw [decide_eq_true h1, decide_eq_true (show b ≤ 200 - n by omega)]
      exact k
    | run b n =>
      have h1 := hok.1
      have h2 := hok.2.1
      have h3 := hok.2.2
      have h4 : n ≤ 200 := hl
      refine ⟨_, rfl, _, 3, rfl, .inr ⟨_, SqT.of hp, rfl⟩, rfl, _, rfl, ite2 (fun h => absurd h (by decide)) fun _ => ?_⟩
      refine ⟨_, rfl, _, 3, rfl, .inr ⟨_, SqT.of hp, rfl⟩, rfl, _, rfl, ite2 (fun h => absurd h (by decide)) fun _ => ?_⟩
      refine ⟨_, rfl, p, _, rfl, SqT.of hp, rfl, _, _, rfl, _, _, rfl, _, _, rfl, rfl, ?_⟩
      refine ⟨_, rfl, n, 1, 200, rfl, _, rfl, ?_⟩
      rw [decide_eq_true h3, decide_eq_true h4]
      refine iteF ?_
      refine ⟨_, rfl, rfl, _, rfl, ite2 (fun h => absurd h (by decide)) fun _ => ?_⟩
      refine ⟨_, rfl, rfl, _, rfl, ite2 (fun _ => ?_) fun h => absurd (by decide) h⟩
      refine ⟨_, rfl, b, 0, 255, rfl, ?_⟩
      rw [decide_eq_true h1, decide_eq_true (show b ≤ 255 by omega)]
      exact k
    | bring bs =>
      have h1 : 1 ≤ (bs.length : Int) := hok.1
      have h4 : (bs.length : Int) ≤ 200 := hl
      refine ⟨_, rfl, _, 2, rfl, .inr ⟨_, SqT.of hp, rfl⟩, rfl, _, rfl, ite2 (fun _ => ?_) fun h => absurd (by decide) h⟩
      refine ⟨_, rfl, p, _, rfl, SqT.of hp, rfl, _, _, rfl, _, _, rfl, rfl, ?_⟩
      refine ⟨_, rfl, rfl, _, rfl, ite2 (fun _ => ?_) fun h => absurd (by decide) h⟩
      refine ⟨_, rfl, _, _, _, _, true, rfl, .ty _, .byt _, kit_ty (by decide +kernel), true, rfl, iteT ?_⟩
      refine ⟨_, rfl, _, bs.length, rfl, ⟨by rw [byteArr_size]; exact sizeS (by omega), (byteArr_size bs).symm⟩, _, _, rfl, rfl, _, rfl, ?_⟩
      rw [decide_eq_true h1]
      refine iteT ⟨_, _, rfl, rfl, ?_⟩
      show Q (.bl (decide ((bs.length : Int) ≤ 200))) H
      rw [decide_eq_true h4]
      exact k
end
theorem cell_more {H H2 : Hp} {D : Addr} {ws : List V} {cs : List Cell} {c : Cell} {t : Addr} (hD : H D = none) (s2 : Same H H2) (hw : H2 D = some (.lst ws)) (pw : Paired (CellV H2) ws cs) (ht : H2 t = none) :
    Same H (upd (upd H2 t (.tup c.tup)) D (.lst (ws ++ [.ref t]))) ∧ Paired (CellV (upd (upd H2 t (.tup c.tup)) D (.lst (ws ++ [.ref t])))) (ws ++ [.ref t]) (cs ++ [c]) := by
  have hw' : (upd H2 t (.tup c.tup)) D = some (.lst ws) := Same.new ht _ _ hw
  refine ⟨fun b o e => ?_, pairedApp (pairedMap pw fun _ _ x => (x.tups (Same.tups (Same.new ht))).tups (Tups.lst hw')) (.cons ⟨t, rfl, Tups.lst hw' _ _ upd_same⟩ .nil)⟩
  rw [upd_ne (ne_of_none e hD)]
  exact Same.new ht _ _ (s2 _ _ e)
theorem rep_flat {α : Type} (x : α) : ∀ m : Nat, (List.replicate m [x]).flatten = List.replicate m x
  | 0 => rfl
  | m + 1 => by rw [List.replicate_succ, List.replicate_succ, List.flatten_cons, rep_flat x m]; rfl
theorem paired_rep {α β : Type} {F : α → β → Prop} {x : α} {y : β} (h : F x y) : ∀ m : Nat, Paired F (List.replicate m x) (List.replicate m y)
  | 0 => .nil
  | m + 1 => .cons h (paired_rep h m)
theorem cellsOf_take {rows : List Row} {i : Nat} {r : Row} (h : rows[i]? = some r) : cellsOf (rows.take (i + 1)) = cellsOf (rows.take i) ++ cellsR r := by
  rw [take_snoc h]
  show (rows.take i ++ [r]).flatMap cellsR = _
  rw [List.flatMap_append, List.flatMap_cons, List.flatMap_nil, List.append_nil]
  rfl
/-- what a cell may be -/
theorem cells_fit {c : Int} {rows : List Row} (hre : ∀ r ∈ rows, r.ok c) : ∀ cl ∈ cellsOf rows, (∃ n, cl = .old n ∧ 0 ≤ n ∧ n < c) ∨ ∃ b, cl = .new b ∧ 0 ≤ b ∧ b < 256 := by
  intro cl hcl
  obtain ⟨r, hr1, hr2⟩ := List.mem_flatMap.mp hcl
  have ho := hre r hr1
  cases r with
  | copy b n =>
    obtain ⟨i, hi, rfl⟩ := List.mem_map.mp hr2
    have hi := List.mem_range.mp hi
    have h1 := ho.1
    have h2 := ho.2.1
    have h3 := ho.2.2
    exact .inl ⟨_, rfl, by omega, by omega⟩
  | run b n =>
    rw [List.eq_of_mem_replicate hr2]
    exact .inr ⟨_, rfl, ho.1, ho.2.1⟩
  | bring bs =>
    obtain ⟨z, hz, rfl⟩ := List.mem_map.mp hr2
    exact .inr ⟨_, rfl, (ho.2 z hz).1, (ho.2 z hz).2⟩
theorem done_B8 {rows : List Row} {es : List Int} (hre : ∀ r ∈ rows, r.ok es.length) (hb : B8 es) : B8 (doneOf rows es) := fun z hz => by
  obtain ⟨cl, hcl, rfl⟩ := List.mem_map.mp hz
  rcases cells_fit hre cl hcl with ⟨n, rfl, n0, n1⟩ | ⟨b, rfl, b0, b1⟩
  · have jl : n.toNat < es.length := by omega
    show 0 ≤ es.getD n.toNat 0 ∧ es.getD n.toNat 0 < 256
    rw [List.getD_eq_getElem?_getD, List.getElem?_eq_getElem jl]
    exact hb _ (List.getElem_mem jl)
  · exact ⟨b0, b1⟩
theorem done_len {c : Int} {rows : List Row} (es : List Int) (hre : ∀ r ∈ rows, r.ok c) : ((doneOf rows es).length : Int) = total rows := by
  show ((((cellsOf rows).map (valOf es)).length : Nat) : Int) = _
  rw [List.length_map]; exact cellsOf_len hre
theorem Good.each {rows : List Row} (h : Good rows) : ∀ r ∈ rows, r.ok 200 ∧ r.len ≤ 200 := fun r hr => ⟨h.1 r hr, Int.le_trans (len_le_of h.1 hr) h.2⟩
theorem Good.few {rows : List Row} (h : Good rows) : (rows.length : Int) ≤ 200 := Int.le_trans (len_le_total h.1) h.2
theorem Good.take {rows : List Row} (h : Good rows) (i : Nat) : Good (rows.take i) := ⟨fun r hr => h.1 r (List.mem_of_mem_take hr), Int.le_trans (total_take_le h.1 i) h.2⟩
theorem Good.nat {rows : List Row} (h : Good rows) : rows.length ≤ 200 := by have := h.few; omega
/-! ### == and != of the program's data -/
/-- the same data, of nesting below n -/
def Sd (K : PySem.W.Frag) (H : Hp) : Nat → V → V → Prop
  | 0, _, _ => False
  | n + 1, x, y => (x = y ∧ flatB x = true) ∨ (∃ a, x = .ref a ∧ y = .ref a) ∨ ∃ a b xs ys, x = .ref a ∧ y = .ref b ∧ ((SqT K H a xs ∧ SqT K H b ys) ∨ (SqL K H a xs ∧ SqL K H b ys)) ∧ Paired (Sd K H n) xs ys
theorem sd_items {A : Around} {s : Shared} {F : V → V → Prop} (ih : ∀ x y v u, F x y → RelV x v → RelV y u → SeqAt.EqAt A s v u true) : ∀ {xs ys : List V}, Paired F xs ys →
    ∀ {us ws : List Value}, Vals xs us → Vals ys ws → ∀ j (h1 : j < us.length) (h2 : j < ws.length), SeqAt.EqAt A s us[j] ws[j] true
  | _, _, .nil, _, _, .nil, _, j, h1, _ => absurd h1 (Nat.not_lt_zero j)
  | _, _, .cons h _, _, _, .cons a _, .cons b _, 0, _, _ => ih _ _ _ _ h a b
  | _, _, .cons _ t, _, _, .cons _ a, .cons _ b, j + 1, h1, h2 => sd_items ih t a b j (Nat.lt_of_succ_lt_succ h1) (Nat.lt_of_succ_lt_succ h2)
section
variable {X : Cx} {pins : List (Addr × Obj)} {σ : L2.St} {H : Hp} {s : Shared}
theorem all_true (n : Nat) : ((List.range n).all fun _ => true) = true := List.all_eq_true.mpr fun _ _ => rfl
theorem sd_run (I : Inv X pins σ H s) : ∀ (n : Nat) (A : Around), A.units + n < cLine → ∀ (x y : V) (v u : Value), Sd X.K H n x y → RelV x v → RelV y u → SeqAt.EqAt A s v u true
  | 0, _, _, _, _, _, _, h, _, _ => h.elim
  | n + 1, A, hu, x, y, v, u, h, rx, ry => by
    rcases h with ⟨rfl, f⟩ | ⟨a, rfl, rfl⟩ | ⟨a, b, xs, ys, rfl, rfl, h, hp⟩
    · exact eqAt_same rx ry f
    · cases (show v = Value.ref a from rx)
      cases (show u = Value.ref a from ry)
      exact SeqAt.EqAt.same _
    · cases (show v = Value.ref a from rx)
      cases (show u = Value.ref b from ry)
      by_cases e : a = b
      · subst e; exact SeqAt.EqAt.same _
      · have rc : SeqAt.RcAt A s (.ref a) (.ref b) true := by
          rcases h with ⟨ha, hb⟩ | ⟨ha, hb⟩
          · obtain ⟨us, r1, p1, _⟩ := I.tuple ha
            obtain ⟨ws, r2, p2, _⟩ := I.tuple hb
            have hsz : us.toArray.size = ws.toArray.size := by rw [List.size_toArray, List.size_toArray, ← r1.length, ← r2.length]; exact Paired.length hp
            have z := SeqAt.RcAt.tuples (A := A) (e := fun _ => true) (show s.heap.IsTuple a us.toArray from p1) (show s.heap.IsTuple b ws.toArray from p2) (by omega) (fun j h1 h2 => by
              have k := sd_items (fun x y v u h rx ry => sd_run I n A.in1 (by show A.units + 1 + n < cLine; omega) x y v u h rx ry) hp r1 r2 j (by simpa using h1) (by simpa using h2)
              simpa using k)
            rw [all_true, hsz] at z
            simpa using z
          · obtain ⟨us, r1, p1, _⟩ := I.list ha
            obtain ⟨ws, r2, p2, _⟩ := I.list hb
            have hsz : us.toArray.size = ws.toArray.size := by rw [List.size_toArray, List.size_toArray, ← r1.length, ← r2.length]; exact Paired.length hp
            have z := SeqAt.RcAt.lists (A := A) (e := fun _ => true) p1.isList p2.isList hsz (by omega) (fun j h1 h2 => by
              have k := sd_items (fun x y v u h rx ry => sd_run I n A.in1 (by show A.units + 1 + n < cLine; omega) x y v u h rx ry) hp r1 r2 j (by simpa using h1) (by simpa using h2)
              simpa using k)
            rw [all_true] at z
            exact z
        intro prog w E Q hq
        unfold eqBool
        refine wpAny_holding ?_
        refine wpAny_ite_split (fun hab => absurd (by have := eq_of_beq hab; injection this) e) (fun _ => ?_)
        exact wpAny_bind (rc prog w E _ (wpAny_truthy_bool hq))
end
/-- a != b of two tuples, or two lists, that are the same -/
def rNeS (K : PySem.W.Frag) : R2 := fun x y H Q => ∃ a b xs ys, x = .ref a ∧ y = .ref b ∧ ((SqT K H a xs ∧ SqT K H b ys) ∨ (SqL K H a xs ∧ SqL K H b ys)) ∧ Paired (Sd K H 60) xs ys ∧ Q (.bl false) H
theorem op_neS {X : Cx} (hu : X.A.units + 64 < cLine) : OpR X (compareOp .NotEq) (rNeS X.K) := by
  intro pins s σ H x y v u Q I rx ry h
  obtain ⟨a, b, xs, ys, rfl, rfl, h, hp, q⟩ := h
  cases (show v = Value.ref a from rx)
  cases (show u = Value.ref b from ry)
  have fin : EP X pins σ Q (.bool false) s := ⟨.bl false, H, I, rfl, q⟩
  have items : ∀ {us ws : List Value}, Vals xs us → Vals ys ws → ∀ j (h1 : j < us.toArray.size) (h2 : j < ws.toArray.size), SeqAt.EqAt X.A.in1 s us.toArray[j] ws.toArray[j] true := fun {us ws} r1 r2 j h1 h2 => by
    have k := sd_items (fun x y v u h rx ry => sd_run I 60 X.A.in1 (by show X.A.units + 1 + 60 < cLine; omega) x y v u h rx ry) hp r1 r2 j (by simpa using h1) (by simpa using h2)
    simpa using k
  rcases h with ⟨ha, hb⟩ | ⟨ha, hb⟩
  · obtain ⟨us, r1, p1, _⟩ := I.tuple ha
    obtain ⟨ws, r2, p2, _⟩ := I.tuple hb
    have hsz : us.toArray.size = ws.toArray.size := by rw [List.size_toArray, List.size_toArray, ← r1.length, ← r2.length]; exact Paired.length hp
    have z := SeqAt.RcNeAt.tuples (A := X.A) (e := fun _ => true) (show s.heap.IsTuple a us.toArray from p1) (show s.heap.IsTuple b ws.toArray from p2) (by omega) (items r1 r2)
    rw [all_true, hsz] at z
    exact z X.prog X.w _ _ (by simpa using fin)
  · obtain ⟨us, r1, p1, _⟩ := I.list ha
    obtain ⟨ws, r2, p2, _⟩ := I.list hb
    have hsz : us.toArray.size = ws.toArray.size := by rw [List.size_toArray, List.size_toArray, ← r1.length, ← r2.length]; exact Paired.length hp
    have z := SeqAt.RcNeAt.lists (A := X.A) (e := fun _ => true) p1.isList p2.isList hsz (by omega) (items r1 r2)
    rw [all_true] at z
    exact z X.prog X.w _ _ fin
section
variable {K : PySem.W.Frag} {H : Hp}
theorem Sd.flat {n : Nat} : ∀ {xs : List V}, (∀ x ∈ xs, flatB x = true) → Paired (Sd K H (n + 1)) xs xs
  | [], _ => .nil
  | x :: xs, h => .cons (.inl ⟨rfl, h x List.mem_cons_self⟩) (Sd.flat fun y hy => h y (List.mem_cons_of_mem _ hy))
theorem Sd.cell {n : Nat} {v u : V} {c : Cell} (h : CellV H v c) (h' : CellV H u c) : Sd K H (n + 2) v u := by
  obtain ⟨p, rfl, hp⟩ := h
  obtain ⟨q, rfl, hq⟩ := h'
  refine .inr (.inr ⟨p, q, _, _, rfl, rfl, .inl ⟨SqT.of hp, SqT.of hq⟩, Sd.flat ?_⟩)
  cases c <;> (intro x hx; simp [Cell.tup] at hx; rcases hx with rfl | rfl <;> rfl)
theorem Sd.piece {n : Nat} {v u : V} {r : Row} (h : PieceV H v r) (h' : PieceV H u r) : Sd K H (n + 2) v u := by
  obtain ⟨p, rfl, hp⟩ := h
  obtain ⟨q, rfl, hq⟩ := h'
  refine .inr (.inr ⟨p, q, _, _, rfl, rfl, .inl ⟨SqT.of hp, SqT.of hq⟩, Sd.flat ?_⟩)
  cases r with
  | copy b n => intro x hx; simp [Row.tup] at hx; rcases hx with rfl | rfl | rfl <;> rfl
  | run b n => intro x hx; simp [Row.tup] at hx; rcases hx with rfl | rfl | rfl <;> rfl
  | bring bs => intro x hx; simp [Row.tup] at hx; rcases hx with rfl | rfl <;> rfl
theorem Sd.pairs {α : Type} {F : V → α → Prop} {n : Nat} (f : ∀ v u c, F v c → F u c → Sd K H n v u) : ∀ {vs us : List V} {cs : List α}, Paired F vs cs → Paired F us cs → Paired (Sd K H n) vs us
  | _, _, _, .nil, .nil => .nil
  | _, _, _, .cons a r, .cons b t => .cons (f _ _ _ a b) (Sd.pairs f r t)
end
theorem op_orD {X : Cx} {f : Value → Value → Sem Value} {r1 r2 : R2} (h1 : OpR X f r1) (h2 : OpR X f r2) : OpR X f (fun x y H Q => r1 x y H Q ∨ r2 x y H Q) := by
  intro pins s σ H x y v u Q I rx ry h
  rcases h with h | h
  · exact h1 pins s σ H x y v u Q I rx ry h
  · exact h2 pins s σ H x y v u Q I rx ry h
/-! ### texts of patches -/
open TL
theorem PI_or {X : Cx} {tg e : Expr} {i j : TI} (h : PI X tg e i) (h' : PI X tg e j) : PI X tg e (fun σ H R => i σ H R ∨ j σ H R) :=
  ⟨fun pins s σ H R I q => q.elim (fun q => h.run pins s σ H R I q) fun q => h'.run pins s σ H R I q⟩
theorem callR_or {X : Cx} {c : Value} {r r' : List V → Hp → VK → Prop} (h : CallR X c r) (h' : CallR X c r') : CallR X c (fun xs H Q => r xs H Q ∨ r' xs H Q) := by
  intro pins s σ H xs us Q I rx q
  rcases q with q | q
  · exact h pins s σ H xs us Q I rx q
  · exact h' pins s σ H xs us Q I rx q
/-- None in a list of tuples -/
def rNoneTup (K : PySem.W.Frag) : R2 := fun x y H Q => ∃ p xs, x = V.non ∧ y = .ref p ∧ SqL K H p xs ∧ (∀ z ∈ xs, ∃ a ys, z = .ref a ∧ SqT K H a ys) ∧ Q (.bl false) H
theorem op_noneTup {X : Cx} (hu : X.A.units + 64 < cLine) : OpR X (compareOp .In) (rNoneTup X.K) := by
  intro pins s σ H x y v u Q I rx ry h
  obtain ⟨p, xs, rfl, rfl, hp, hz, q⟩ := h
  cases (show v = Value.none from rx)
  cases (show u = Value.ref p from ry)
  obtain ⟨its, rv, pl, _⟩ := I.list hp
  have each : ∀ w, w ∈ its.toArray → SeqAt.EqAt X.A.in1 s w .none ((fun _ => false) w) := fun w hw => by
    have hw : w ∈ its := by simpa using hw
    obtain ⟨i, hi, e⟩ := List.mem_iff_getElem.mp hw
    have hx : i < xs.length := by rw [rv.length]; exact hi
    obtain ⟨u, hu', ru⟩ := rv.get (i := i) (x := xs[i]) (List.getElem?_eq_getElem hx)
    rw [List.getElem?_eq_getElem hi] at hu'
    injection hu' with hu'
    obtain ⟨a, ys, ez, ht⟩ := hz _ (List.getElem_mem hx)
    rw [ez] at ru
    have ru : u = Value.ref a := ru
    rw [← e, hu', ru]
    obtain ⟨ws, _, pt, _⟩ := I.tuple ht
    exact SeqAt.EqAt.tuple_none (show s.heap.IsTuple a ws.toArray from pt) (by show X.A.units + 1 < cLine; omega)
  refine SeqAt.in_listAt (fun _ => false) pl.isList each ?_
  refine ⟨.bl false, H, I, ?_, q⟩
  have : its.toArray.any (fun _ => false) = false := by simp
  rw [this]
  rfl
def strI (n : Int) : Str := Str.ofString (toString n)
theorem tl_strI {n : Int} (h : 0 ≤ n) : tl (strI n) = numL n.toNat := by
  obtain ⟨k, rfl⟩ : ∃ k : Nat, n = (k : Int) := ⟨n.toNat, by omega⟩
  rw [Int.toNat_natCast]
  exact tl_num k
def rowWords : Row → List Str
  | .copy b n => ["copy", strI b, strI n]
  | .run b n => ["run", strI b, strI n]
  | .bring bs => "bring" :: bs.map strI
def rowText (r : Row) : Str := Txt.join " " (rowWords r)
def patchText (rows : List Row) : Str := Txt.join "\n" (rows.map rowText)
theorem tl_sp : tl (" " : Str) = [32] := by decide +kernel
theorem tl_nl : tl ("\n" : Str) = [10] := by decide +kernel
/-- a word has no blank, no line end, is not empty, has up to five signs -/
structure Word (w : Str) : Prop where
  sp : 32 ∉ tl w
  nl : 10 ∉ tl w
  ne : tl w ≠ []
  few : (tl w).length ≤ 5
theorem word_num {n : Int} (h0 : 0 ≤ n) (h1 : n < 1000) : Word (strI n) := by
  have e := tl_strI h0
  refine ⟨?_, ?_, ?_, ?_⟩
  · rw [e]; exact numL_free (by omega)
  · rw [e]; exact numL_free (by omega)
  · rw [e]; exact numL_ne _
  · rw [e]
    have := numL_len (n := n.toNat) (k := 3) (by decide) (by omega)
    omega
theorem word_of (w : Str) (h : (decide (32 ∉ tl w) && decide (10 ∉ tl w) && decide (tl w ≠ []) && decide ((tl w).length ≤ 5)) = true) : Word w := by
  simp only [Bool.and_eq_true, decide_eq_true_iff] at h
  exact ⟨h.1.1.1, h.1.1.2, h.1.2, h.2⟩
theorem words_ok {r : Row} (h : r.ok 200) (hl : r.len ≤ 200) : ∀ w ∈ rowWords r, Word w := by
  cases r with
  | copy b n =>
    have h1 := h.1
    have h2 := h.2.1
    have h3 := h.2.2
    intro w hw
    rcases List.mem_cons.mp hw with rfl | hw
    · exact word_of _ (by decide +kernel)
    · rcases List.mem_cons.mp hw with rfl | hw
      · exact word_num h1 (by omega)
      · rw [List.mem_singleton.mp hw]
        exact word_num (by omega) (by omega)
  | run b n =>
    have h1 := h.1
    have h2 := h.2.1
    have h3 := h.2.2
    have hl : n ≤ 200 := hl
    intro w hw
    rcases List.mem_cons.mp hw with rfl | hw
    · exact word_of _ (by decide +kernel)
    · rcases List.mem_cons.mp hw with rfl | hw
      · exact word_num h1 (by omega)
      · rw [List.mem_singleton.mp hw]
        exact word_num (by omega) (by omega)
  | bring bs =>
    intro w hw
    rcases List.mem_cons.mp hw with rfl | hw
    · exact word_of _ (by decide +kernel)
    · obtain ⟨z, hz, rfl⟩ := List.mem_map.mp hw
      have := h.2 z hz
      exact word_num this.1 (by omega)
theorem words_len {r : Row} (h : r.ok 200) (hl : r.len ≤ 200) : (rowWords r).length ≤ 201 ∧ rowWords r ≠ [] := by
  cases r with
  | copy b n => exact ⟨by show 3 ≤ 201; decide, by simp [rowWords]⟩
  | run b n => exact ⟨by show 3 ≤ 201; decide, by simp [rowWords]⟩
  | bring bs =>
    have hl : (bs.length : Int) ≤ 200 := hl
    refine ⟨?_, by simp [rowWords]⟩
    show (bs.map strI).length + 1 ≤ 201
    rw [List.length_map]
    omega
theorem joinL_len {S : List Nat} : ∀ (ps : List (List Nat)), (joinL S ps).length ≤ (ps.map List.length).sum + ps.length * S.length
  | [] => Nat.zero_le _
  | [p] => by show p.length ≤ p.length + 0 + 1 * _; omega
  | p :: q :: r => by
    have ih := joinL_len (S := S) (q :: r)
    show (p ++ (S ++ joinL S (q :: r))).length ≤ _
    rw [List.length_append, List.length_append, List.map_cons, List.sum_cons, List.length_cons, Nat.succ_mul]
    omega
theorem joinL_free {S : List Nat} {s : Nat} (hS : s ∉ S) : ∀ (ps : List (List Nat)), (∀ p ∈ ps, s ∉ p) → s ∉ joinL S ps
  | [], _ => List.not_mem_nil
  | [p], h => h p List.mem_cons_self
  | p :: q :: r, h => by
    have ih := joinL_free hS (q :: r) fun x hx => h x (List.mem_cons_of_mem _ hx)
    intro z
    have z : s ∈ p ++ (S ++ joinL S (q :: r)) := z
    rcases List.mem_append.mp z with z | z
    · exact h p List.mem_cons_self z
    · rcases List.mem_append.mp z with z | z
      · exact hS z
      · exact ih z
theorem joinL_ne {S : List Nat} : ∀ (ps : List (List Nat)), ps ≠ [] → (∀ p ∈ ps, p ≠ []) → joinL S ps ≠ []
  | [], h, _ => absurd rfl h
  | [p], _, h => h p List.mem_cons_self
  | p :: q :: r, _, h => by
    have := h p List.mem_cons_self
    show p ++ _ ≠ []
    intro z
    exact this (List.append_eq_nil_iff.mp z).1
theorem sum_le {l : List Nat} {k : Nat} (h : ∀ x ∈ l, x ≤ k) : l.sum ≤ l.length * k := by
  induction l with
  | nil => simp
  | cons a l ih =>
    have a1 := h a List.mem_cons_self
    have a2 := ih fun x hx => h x (List.mem_cons_of_mem _ hx)
    rw [List.sum_cons, List.length_cons, Nat.succ_mul]
    omega
theorem tl_joinT (y : Str) (parts : List Str) : tl (Txt.join y parts) = joinL (tl y) (parts.map tl) := by rw [join_eq, tl_join]
theorem rowText_fits {r : Row} (h : r.ok 200) (hl : r.len ≤ 200) : (tl (rowText r)).length ≤ 1206 ∧ 10 ∉ tl (rowText r) ∧ tl (rowText r) ≠ [] := by
  have w := words_ok h hl
  have l := words_len h hl
  have e : tl (rowText r) = joinL [32] ((rowWords r).map tl) := by
    unfold rowText
    rw [tl_joinT, tl_sp]
  rw [e]
  refine ⟨?_, joinL_free (by decide) _ fun p hp => ?_, joinL_ne _ (fun z => l.2 (List.map_eq_nil_iff.mp z)) fun p hp => ?_⟩
  · have a := joinL_len (S := [32]) ((rowWords r).map tl)
    have b := sum_le (l := ((rowWords r).map tl).map List.length) (k := 5) fun x hx => by
      obtain ⟨y, hy, rfl⟩ := List.mem_map.mp hx
      obtain ⟨z, hz, rfl⟩ := List.mem_map.mp hy
      exact (w z hz).few
    rw [List.length_map, List.length_map] at b
    rw [List.length_map] at a
    rw [show ([32] : List Nat).length = 1 from rfl, Nat.mul_one] at a
    omega
  · obtain ⟨z, hz, rfl⟩ := List.mem_map.mp hp
    exact (w z hz).nl
  · obtain ⟨z, hz, rfl⟩ := List.mem_map.mp hp
    exact (w z hz).ne
theorem row_split {r : Row} (h : r.ok 200) (hl : r.len ≤ 200) : Txt.split (rowText r) " " = rowWords r :=
  split_join tl_sp (by decide +kernel) (words_len h hl).2 fun p hp => (words_ok h hl p hp).sp
theorem text_split {rows : List Row} (h : ∀ r ∈ rows, r.ok 200 ∧ r.len ≤ 200) (hne : rows ≠ []) : Txt.split (patchText rows) "\n" = rows.map rowText :=
  split_join tl_nl (by decide +kernel) (fun z => hne (List.map_eq_nil_iff.mp z)) fun p hp => by
    obtain ⟨r, hr, rfl⟩ := List.mem_map.mp hp
    exact (rowText_fits (h r hr).1 (h r hr).2).2.1
theorem text_fits {rows : List Row} (h : ∀ r ∈ rows, r.ok 200 ∧ r.len ≤ 200) (hl : rows.length ≤ 200) : (tl (patchText rows)).length ≤ 300000 ∧ (rows ≠ [] → tl (patchText rows) ≠ []) := by
  have e : tl (patchText rows) = joinL [10] ((rows.map rowText).map tl) := by
    unfold patchText
    rw [tl_joinT, tl_nl]
  rw [e]
  refine ⟨?_, fun ne => joinL_ne _ (fun z => ne (List.map_eq_nil_iff.mp (List.map_eq_nil_iff.mp z))) fun p hp => ?_⟩
  · have a := joinL_len (S := [10]) ((rows.map rowText).map tl)
    have b := sum_le (l := ((rows.map rowText).map tl).map List.length) (k := 1206) fun x hx => by
      obtain ⟨y, hy, rfl⟩ := List.mem_map.mp hx
      obtain ⟨z, hz, rfl⟩ := List.mem_map.mp hy
      obtain ⟨r, hr, rfl⟩ := List.mem_map.mp hz
      exact (rowText_fits (h r hr).1 (h r hr).2).1
    rw [List.length_map, List.length_map, List.length_map] at b
    rw [List.length_map, List.length_map] at a
    rw [show ([10] : List Nat).length = 1 from rfl, Nat.mul_one] at a
    omega
  · obtain ⟨z, hz, rfl⟩ := List.mem_map.mp hp
    obtain ⟨r, hr, rfl⟩ := List.mem_map.mp hz
    exact (rowText_fits (h r hr).1 (h r hr).2).2.2
/-- no needless 0 ahead -/
theorem numL_head : ∀ (n : Nat), 1 ≤ n → ∀ c r, numL n = c :: r → c ≠ 48 := by
  intro n
  induction n using Nat.strongRecOn with
  | _ n ih =>
    intro h1 c r e
    by_cases h : n < 10
    · rw [numL_lt h] at e
      injection e with e
      omega
    · rw [numL_step (by omega)] at e
      have q := ih (n / 10) (by omega) (by omega)
      cases hn : numL (n / 10) with
      | nil => exact absurd hn (numL_ne _)
      | cons a l =>
        rw [hn] at e
        injection e with e
        rw [← e]
        exact q a l hn
/-! ### written, read -/
open TL
def PiecesAt (H : Hp) (p : Addr) (rows : List Row) : Prop := ∃ vs, H p = some (.lst vs) ∧ Paired (PieceV H) vs rows
theorem PiecesAt.same {H H' : Hp} {p : Addr} {rows : List Row} (s : Same H H') (h : PiecesAt H p rows) : PiecesAt H' p rows := let ⟨vs, e, r⟩ := h; ⟨vs, s _ _ e, pairedMap r fun _ _ x => x.tups (Same.tups s)⟩
def spCheckPatchA : Sp := fun vs H Q _ => ∃ (v : V) (rows : List Row), vs = [v] ∧ (PatchAt H v rows ∨ ∃ p, v = .ref p ∧ PiecesAt H p rows) ∧ Good rows ∧ ∀ H', Same H H' → Q .non H'
def strsV (l : List Str) : List V := l.map V.str
def spNumberOf : Sp := fun vs H Q _ => ∃ n : Int, vs = [.str (strI n), .int 3] ∧ 0 ≤ n ∧ n < 1000 ∧ ∀ H', Same H H' → Q (.int n) H'
def spWithBytes : Sp := fun vs H Q _ => ∃ (p q : Addr) (bs : List Int), vs = [.ref p, .ref q, .int 3] ∧ H p = some (.lst [.str "bring"]) ∧ H q = some (.lst (strsV (bs.map strI))) ∧ B8 bs ∧ bs.length ≤ 200 ∧ 1 ≤ bs.length ∧ ∀ H' t, Same H H' → H' t = some (.tup (Row.tup (.bring bs))) → Q (.ref t) H'
def spWithThings : Sp := fun vs H Q _ => ∃ (w : Str) (q : Addr) (ns : List Int), vs = [.str w, .ref q] ∧ H q = some (.lst (ns.map V.int)) ∧ ns.length ≤ 10 ∧ ∀ H' t, Same H H' → H' t = some (.tup (.str w :: ns.map V.int)) → Q (.ref t) H'
def spPieceOf : Sp := fun vs H Q _ => ∃ (q : Addr) (r : Row), vs = [.ref q] ∧ H q = some (.lst (strsV (rowWords r))) ∧ r.ok 200 ∧ r.len ≤ 200 ∧ ∀ H' t, Same H H' → H' t = some (.tup r.tup) → Q (.ref t) H'
def spRowOf : Sp := fun vs H Q _ => ∃ (q : Addr) (r : Row), vs = [.ref q] ∧ H q = some (.tup r.tup) ∧ r.ok 200 ∧ r.len ≤ 200 ∧ ∀ H', Same H H' → Q (.str (rowText r)) H'
def spRowsOf : Sp := fun vs H Q _ => ∃ rows : List Row, vs = [.str (patchText rows)] ∧ Good rows ∧ ∀ H' q, Same H H' → H q = none → H' q = some (.lst (strsV (rows.map rowText))) → Q (.ref q) H'
def spWritten : Sp := fun vs H Q _ => ∃ (v : V) (rows : List Row), vs = [v] ∧ PatchAt H v rows ∧ Good rows ∧ ∀ H', Same H H' → Q (.str (patchText rows)) H'
def spReadT : Sp := fun vs H Q _ => ∃ rows : List Row, vs = [.str (patchText rows)] ∧ Good rows ∧ ∀ H' v, Same H H' → PatchAt H' v rows → Q v H'
section
variable {P : Program} {w : World} {K : PySem.W.Frag} {mg : Str → Option Value} {base : Heap}
theorem pi_enumTL {X : Cx} {e : Expr} {ta : TA} {p pos tpos : Pos} {elts : List Expr} {kk : Nat} (hg : Gl X "enumerate") (hm : X.mg "enumerate" = none) (ha : PA X [e] ta) (hs : starEach [e] X.env = [(false, eval e X.env)] := by rfl) :
    PI X (.Tuple elts kk tpos) (.Call (.Name "enumerate" p) [e] [] pos) (fun σ H R => iEnumT X.K ta σ H R ∨ iEnum X.K ta σ H R) := PI_or (pi_enumT hg hm ha hs) (pi_enum hg hm ha hs)
theorem ok_check_patch (T : All K mg) : FnOk P w K mg base CX0 3 T.d_check_patch.f T.d_check_patch.fd ["patch"] spCheckPatchA := by
  have G_can_be : FnOk P w K mg base CX0 2 T.d_can_be.f T.d_can_be.fd ["piece"] spCanBe := ok_can_be T
  have G_length_of : FnOk P w K mg base CX0 1 T.d_length_of.f T.d_length_of.fd ["piece"] spLengthOf := ok_length_of T
  refine T.d_check_patch.F.ok sc_check_patch (fun vs H Q E h => ?_) (fun cdv A outer s H vs Q E hr h => ?_)
  · obtain ⟨v, _, rfl, _⟩ := h
    rfl
  · obtain ⟨v, rows, rfl, hP, ⟨hok, htot⟩, k⟩ := h
    refine ⟨_, (pss_cons 
      (ps_set (i := 1) sc_check_patch.nd rfl (Or.inl rfl) pe_int) (pss_one 
      (ps_for PassesOwn.never rfl (pi_enumTL (by rfl) T.b_enumerate (pa_cons (pv 0) pa_nil)) (pg_tup rfl (pgs_cons (pg_name (i := 2) sc_check_patch.nd rfl (Or.inl rfl)) (pgs_cons (pg_name (i := 3) sc_check_patch.nd rfl (Or.inl rfl)) pgs_nil))) (pss_cons 
      (ps_if (pt_not (pt_val (pe_call G_can_be (hr.mono (by decide)) rfl T.d_can_be.m T.d_can_be.F.kp T.d_can_be.b .nil pass0 (pa_cons (pv 3) pa_nil)))) (pss_one ps_never) pss_nil) (pss_cons 
      (ps_aug (i := 1) sc_check_patch.nd rfl (Or.inl rfl) (pe_call G_length_of (hr.mono (by decide)) rfl T.d_length_of.m T.d_length_of.F.kp T.d_length_of.b .nil pass0 (pa_cons (pv 3) pa_nil)) ip_add) (pss_one 
      (ps_if (pt_cmpR op_gt (pv 1) (pe_glob (v := .int 200) rfl T.c_MOST ⟨_, rfl⟩) (nomark _)) (pss_one ps_never) pss_nil))))))), ?_⟩
    have turn : ∀ (i : Nat) (r : Row) (q : Addr) (p : Addr) (v2 v3 : Option V) (H3 : Hp), rows[i]? = some r → H3 q = some (.tup r.tup) → True := fun _ _ _ _ _ _ _ _ _ => trivial
    rcases hP with ⟨p, vs, rfl, hv, hpr⟩ | ⟨p, rfl, vs, hv, hpr⟩
    · refine .inl ⟨_, rfl, p, vs, rfl, SqT.of hv, for_it walk_enumT (fun i σ H2 => ∃ v2 v3 : Option V, σ = [some (.ref p), some (.int (total (rows.take i))), v2, v3] ∧ Same H H2)
        ⟨none, none, rfl, Same.refl _⟩ (fun i σ H2 _ ⟨_, _, _, s2⟩ => SqT.of (s2 _ _ hv)) ?_ ?_⟩
      · rintro i x σ H2 H3 hi ⟨v2, v3, rfl, s2⟩ ⟨t, x1, y1, rfl, ht, rfl, e1, e2⟩
        cases e1
        obtain ⟨r, hr1, q, rfl, hq⟩ := pairedAt hpr e2
        have hro := hok r (List.mem_of_getElem? hr1)
        have hrl : r.len ≤ total rows := len_le_of hok (List.mem_of_getElem? hr1)
        have s3 : Same H (upd H2 t (.tup [.int (i : Nat), .ref q])) := s2.trans (Same.new ht)
        have hq3 := s3 _ _ hq
        refine ⟨t, _, rfl, SqT.of upd_same, rfl, _, _, rfl, _, _, rfl, rfl, ?_⟩
        refine ⟨_, rfl, q, r, rfl, hq3, hro, by omega, _, rfl, iteF ?_⟩
        refine ⟨_, rfl, _, rfl, q, r, rfl, hq3, hro, by omega, _, _, rfl, rfl, ?_⟩
        have ht1 := total_take hr1
        have ht2 := total_take_le hok (i + 1)
        refine ⟨_, rfl, _, _, rfl, rfl, _, rfl, ite2 (fun h => absurd (show (200 : Int) < total (rows.take i) + r.len from of_decide_eq_true h) (by omega)) fun _ => ?_⟩
        exact ⟨_, _, by rw [ht1]; rfl, s3⟩
      · rintro σ H2 ⟨v2, v3, rfl, s2⟩
        exact k H2 s2
    · refine .inr ⟨_, rfl, p, vs, rfl, SqL.of hv, for_it walk_enum (fun i σ H2 => ∃ v2 v3 : Option V, σ = [some (.ref p), some (.int (total (rows.take i))), v2, v3] ∧ Same H H2)
        ⟨none, none, rfl, Same.refl _⟩ (fun i σ H2 _ ⟨_, _, _, s2⟩ => SqL.of (s2 _ _ hv)) ?_ ?_⟩
      · rintro i x σ H2 H3 hi ⟨v2, v3, rfl, s2⟩ ⟨t, x1, y1, rfl, ht, rfl, e1, e2⟩
        cases e1
        obtain ⟨r, hr1, q, rfl, hq⟩ := pairedAt hpr e2
        have hro := hok r (List.mem_of_getElem? hr1)
        have hrl : r.len ≤ total rows := len_le_of hok (List.mem_of_getElem? hr1)
        have s3 : Same H (upd H2 t (.tup [.int (i : Nat), .ref q])) := s2.trans (Same.new ht)
        have hq3 := s3 _ _ hq
        refine ⟨t, _, rfl, SqT.of upd_same, rfl, _, _, rfl, _, _, rfl, rfl, ?_⟩
        refine ⟨_, rfl, q, r, rfl, hq3, hro, by omega, _, rfl, iteF ?_⟩
        refine ⟨_, rfl, _, rfl, q, r, rfl, hq3, hro, by omega, _, _, rfl, rfl, ?_⟩
        have ht1 := total_take hr1
        have ht2 := total_take_le hok (i + 1)
        refine ⟨_, rfl, _, _, rfl, rfl, _, rfl, ite2 (fun h => absurd (show (200 : Int) < total (rows.take i) + r.len from of_decide_eq_true h) (by omega)) fun _ => ?_⟩
        exact ⟨_, _, by rw [ht1]; rfl, s3⟩
      · rintro σ H2 ⟨v2, v3, rfl, s2⟩
        exact k H2 s2
theorem ok_number_of (T : All K mg) : FnOk P w K mg base CX0 1 T.d_number_of.f T.d_number_of.fd ["word", "figures"] spNumberOf := by
  refine T.d_number_of.F.ok sc_number_of (fun vs H Q E h => ?_) (fun cdv A outer s H vs Q E hr h => ?_)
  · obtain ⟨_, rfl, _⟩ := h
    rfl
  · obtain ⟨n, rfl, n0, n1, k⟩ := h
    refine ⟨_, (pss_cons 
      (ps_if (PW.pt (pw_or (pt_not (pt_chain op_le op_le pe_int (pe_callB call_len (by rfl) T.b_len PySem.boot_len (pa_cons (pv 0) pa_nil)) (pv 1))) (pw_or1 (pt_not (pt_val (pe_callB (cr_all rfl) (by rfl) T.b_all (by decide +kernel) (pa_cons (pe_lc (own := [("sign", 2)]) (g := gName 2) (tt := tYes) rfl sc_number_of.nd (pi_str (pv 0)) (blkOk_by (own := [("sign", 2)]) (N := ["word", "figures", "sign"]) (sc := defScope s_number_of) (by decide +kernel)) (fun _ _ _ _ _ => (pg_name (i := 2) sc_number_of.nd rfl (Or.inl rfl))) (fun _ _ _ _ _ => pts_nil) (fun _ _ _ _ _ => (pe_cmpR op_inS (pv 2) (pe_glob (v := .str "0123456789") rfl T.c_FIGURES ⟨_, rfl⟩) (by with_unfolding_all rfl)))) pa_nil))))))) (pss_one 
      (ps_ret pe_non)) pss_nil) (pss_cons 
      (ps_if (PW.pt (pw_and (pt_cmpR op_eq (pe_item_str (pv 0) pe_int (fun _ _ => rfl)) pe_str (nomark _)) (pw_and1 (pt_cmpR op_gt (pe_callB call_len (by rfl) T.b_len PySem.boot_len (pa_cons (pv 0) pa_nil)) pe_int (nomark _))))) (pss_one 
      (ps_ret pe_non)) pss_nil) (pss_one 
      (ps_ret (pe_callTy call_int_str (by rfl) T.b_int PyProof.Rows.boot_int (pa_cons (pv 0) pa_nil)))))), ?_⟩
    have e := tl_strI n0
    have nl := numL_len (n := n.toNat) (k := 3) (by decide) (by omega)
    have nn := numL_ne n.toNat
    have len : (strI n).length = (numL n.toNat).length := by rw [len_tl, e]
    have pos : 0 < (numL n.toNat).length := List.length_pos_iff.mpr nn
    have sz : (strI n).length ≤ sizeLine := sizeS (by omega)
    refine ⟨_, rfl, _, (strI n).length, rfl, ⟨sz, rfl⟩, _, _, rfl, rfl, _, rfl, ?_⟩
    rw [decide_eq_true (show (1 : Int) ≤ ((strI n).length : Int) by omega)]
    refine iteT ⟨_, rfl, _, _, rfl, rfl, _, rfl, ?_⟩
    rw [decide_eq_true (show ((strI n).length : Int) ≤ 3 by omega)]
    refine iteF ?_
    have dig : ∀ c ∈ tl (strI n), c ∈ tl ("0123456789" : Str) := fun c hc => by
      rw [e] at hc
      have r := numL_digits n.toNat c hc
      have : tl ("0123456789" : Str) = [48, 49, 50, 51, 52, 53, 54, 55, 56, 57] := by decide +kernel
      rw [this]
      have : c = 48 ∨ c = 49 ∨ c = 50 ∨ c = 51 ∨ c = 52 ∨ c = 53 ∨ c = 54 ∨ c = 55 ∨ c = 56 ∨ c = 57 := by omega
      rcases this with rfl | rfl | rfl | rfl | rfl | rfl | rfl | rfl | rfl | rfl <;> decide
    refine ⟨_, rfl, _, rfl, fun D hD => lc_it walk_str (fun i H2 => Same H H2 ∧ H2 D = some (.lst ((List.replicate i true).map V.bl))) ⟨Same.new hD, upd_same⟩ (fun _ _ _ _ => trivial) ?_ ?_⟩
    · rintro i x H2 H3 hi ⟨s2, hd⟩ ⟨rfl, c, hc, rfl⟩
      have hm : c ∈ tl (strI n) := by
        obtain ⟨h1, h2⟩ := Array.getElem?_eq_some_iff.mp hc
        rw [← h2]
        exact Array.getElem_mem_toList h1
      refine ⟨rfl, _, rfl, c, _, rfl, rfl, ?_⟩
      rw [decide_eq_true (dig c hm)]
      refine ⟨_, hd, sizeL ?_, fun b o z => ?_, ?_⟩
      · have : i < (tl (strI n)).length := by simpa using hi
        rw [e] at this
        rw [List.length_map, List.length_replicate]
        omega
      · rw [upd_ne (ne_of_none z hD)]
        exact s2 _ _ z
      · rw [upd_same, List.replicate_succ', List.map_append]
        rfl
    · rintro H2 ⟨s2, hd⟩
      refine ⟨D, _, rfl, SqL.of hd, _, rfl, ?_⟩
      have all : (List.replicate (strI n).cps.size true).all id = true := by
        rw [List.all_eq_true]
        intro x hx
        rw [List.eq_of_mem_replicate hx]
        rfl
      rw [all]
      refine iteF ?_
      obtain ⟨m, rfl⟩ : ∃ m : Nat, n = (m : Int) := ⟨n.toNat, by omega⟩
      rw [Int.toNat_natCast] at e nl nn len pos
      obtain ⟨c, rest, ec⟩ : ∃ c rest, numL m = c :: rest := by
        cases h : numL m with
        | nil => exact absurd h nn
        | cons c rest => exact ⟨c, rest, rfl⟩
      have hc : (strI (m : Int)).cps[(0 : Int).toNat]? = some c := by
        have z : (tl (strI (m : Int)))[0]? = some c := by rw [e, ec]; rfl
        rw [Array.getElem?_toList] at z
        exact z
      have fin : Q (.int (m : Int)) H2 := k H2 s2
      have lst : ∃ a n, [V.str (strI (m : Int))] = [V.str a] ∧ PySem.intText? a = some n ∧ a.length ≤ 640 ∧ Q (.int n) H2 := ⟨_, _, rfl, int_num (by omega), by omega, fin⟩
      refine ⟨_, rfl, _, _, c, rfl, rfl, by decide, by decide, by omega, hc, rfl, _, rfl, ite2 (fun h => ?_) fun h => ?_⟩
      · have h := of_decide_eq_true h
        injection h with h
        have h2 : [c] = [48] := by
          have z := congrArg tl h
          have y : tl ("0" : Str) = [48] := by decide +kernel
          rw [y] at z
          exact z
        injection h2 with h2 _
        have m0 : m = 0 := by
          rcases Nat.eq_zero_or_pos m with q | q
          · exact q
          · exact absurd h2 (numL_head m q c rest ec)
        have l1 : (strI (m : Int)).length = 1 := by
          rw [len, m0, numL_lt (by decide)]
          rfl
        refine ⟨_, rfl, _, (strI (m : Int)).length, rfl, ⟨sz, rfl⟩, _, _, rfl, rfl, _, rfl, ite2 (fun h => absurd (of_decide_eq_true h) (by rw [l1]; decide)) fun _ => ?_⟩
        exact ⟨_, rfl, lst⟩
      · exact iteF ⟨_, rfl, lst⟩
theorem ok_with_bytes (T : All K mg) : FnOk P w K mg base CX0 2 T.d_with_bytes.f T.d_with_bytes.fd ["ahead", "words", "figures"] spWithBytes := by
  have G_number_of : FnOk P w K mg base CX0 1 T.d_number_of.f T.d_number_of.fd ["word", "figures"] spNumberOf := ok_number_of T
  refine T.d_with_bytes.F.ok sc_with_bytes (fun vs H Q E h => ?_) (fun cdv A outer s H vs Q E hr h => ?_)
  · obtain ⟨_, _, _, rfl, _⟩ := h
    rfl
  · obtain ⟨p, q, bs, rfl, hp, hq, hb, hl, h1, k⟩ := h
    refine ⟨_, (pss_cons 
      (ps_setLc (i := 3) (own := [("word", 4)]) (g := gName 4) (tt := tYes) rfl sc_with_bytes.nd rfl rfl (sw_true rfl rfl rfl (by decide +kernel)) (pi_list (pv 1)) (blkOk_by (own := [("word", 4)]) (N := ["ahead", "words", "figures", "numbers", "word", "number"]) (sc := defScope s_with_bytes) (by decide +kernel)) (fun _ _ _ _ _ => (pg_name (i := 4) sc_with_bytes.nd rfl (Or.inl rfl))) (fun _ _ _ _ _ => pts_nil) (fun _ _ _ _ _ => (pe_call G_number_of (hr.mono (by decide)) rfl T.d_number_of.m T.d_number_of.F.kp T.d_number_of.b .nil pass0 (pa_cons (pv 4) (pa_cons (pv 2) pa_nil))))) (pss_cons 
      (ps_if (pt_truth (pe_lc (own := [("number", 5)]) (g := gName 5) rfl sc_with_bytes.nd (pi_list (pv 3)) (blkOk_by (own := [("number", 5)]) (N := ["ahead", "words", "figures", "numbers", "word", "number"]) (sc := defScope s_with_bytes) (by decide +kernel)) (fun _ _ _ _ _ => (pg_name (i := 5) sc_with_bytes.nd rfl (Or.inl rfl))) (fun _ _ _ _ _ => (pts_one (PW.pt (pw_or (pt_cmpR op_isN (pv 5) pe_non (nomark _)) (pw_or1 (pt_cmpR op_gt (pv 5) (pe_glob (v := .int 255) rfl T.c_LAST_BYTE ⟨_, rfl⟩) (nomark _))))))) (fun _ _ _ _ _ => (pv 5))) (by intro _; rfl)) (pss_one 
      (ps_ret pe_non)) pss_nil) (pss_one 
      (ps_ret (pe_tup (StX.pa_star (pv 0) (pa_cons (pe_bytesOf rfl (by rfl) T.b_bytes (pv 3)) pa_nil))))))), ?_⟩
    have ql : (strsV (bs.map strI)).length = bs.length := by unfold strsV; rw [List.length_map, List.length_map]
    refine ⟨_, rfl, q, rfl, ⟨_, SqL.of hq⟩, fun D hD => lc_list (K := K) (a := q) (xs := strsV (bs.map strI)) (fun i H2 => Same H H2 ∧ H2 D = some (.lst ((bs.take i).map V.int)))
      ⟨Same.new hD, upd_same⟩ (fun i H2 _ ⟨s2, _⟩ => SqL.of (s2 _ _ hq)) ?_ ?_⟩
    · rintro i x H2 hi ⟨s2, hd⟩
      obtain ⟨z, hz, rfl⟩ : ∃ z, bs[i]? = some z ∧ x = .str (strI z) := by
        unfold strsV at hi
        rw [List.getElem?_map, List.getElem?_map] at hi
        cases hz : bs[i]? with
        | none => rw [hz] at hi; cases hi
        | some z =>
          rw [hz] at hi
          injection hi with hi
          exact ⟨z, rfl, hi.symm⟩
      have bz := hb z (List.mem_of_getElem? hz)
      have il := (List.getElem?_eq_some_iff.mp hz).1
      refine ⟨rfl, _, rfl, _, rfl, z, rfl, bz.1, by omega, fun H3 s3 => ?_⟩
      have hd3 := s3 _ _ hd
      refine ⟨_, hd3, sizeL (by rw [List.length_map, List.length_take]; omega), fun b o y => ?_, ?_⟩
      · rw [upd_ne (ne_of_none y hD)]
        exact s3 _ _ (s2 _ _ y)
      · rw [upd_same, take_snoc hz, List.map_append]
        rfl
    · rintro H2 ⟨s2, hd⟩
      rw [ql, List.take_length] at hd
      refine ⟨_, rfl, D, rfl, ⟨_, SqL.of hd⟩, fun D2 hD2 => lc_list (K := K) (a := D) (xs := bs.map V.int) (fun i H3 => Same H2 H3 ∧ H3 D2 = some (.lst []))
        ⟨Same.new hD2, upd_same⟩ (fun i H3 _ ⟨s3, _⟩ => SqL.of (s3 _ _ hd)) ?_ ?_⟩
      · rintro i x H3 hi ⟨s3, hd3⟩
        obtain ⟨z, rfl, hz⟩ := at_map hi
        have bz := hb z (List.mem_of_getElem? hz)
        refine ⟨rfl, _, rfl, rfl, _, rfl, ite2 (fun h => absurd (of_decide_eq_true h) (by intro y; cases y)) fun _ => ?_⟩
        refine ⟨_, rfl, _, _, rfl, rfl, _, rfl, ite2 (fun h => absurd (of_decide_eq_true h) (show ¬ (255 : Int) < z by omega)) fun _ => ?_⟩
        exact ⟨s3, hd3⟩
      · rintro H3 ⟨s3, hd3⟩
        refine ⟨false, .inl ⟨[], SqL.of hd3, rfl⟩, iteF ?_⟩
        have s23 := s2.trans s3
        have hp3 := s23 _ _ hp
        refine ⟨_, rfl, p, _, rfl, .inr (SqL.of hp3), _, rfl, .inr ⟨D, bs, rfl, SqL.of (s3 _ _ hd), hb, sizeS (by show 2 ≤ 100000; decide), fun t ht => ?_⟩⟩
        exact k _ t (s23.trans (Same.new ht)) upd_same
theorem ok_with_things (T : All K mg) : FnOk P w K mg base CX0 1 T.d_with_things.f T.d_with_things.fd ["first", "things"] spWithThings := by
  refine T.d_with_things.F.ok sc_with_things (fun vs H Q E h => ?_) (fun cdv A outer s H vs Q E hr h => ?_)
  · obtain ⟨_, _, _, rfl, _⟩ := h
    rfl
  · obtain ⟨wd, q, ns, rfl, hq, hl, k⟩ := h
    refine ⟨_, (pss_one 
      (ps_ret (pe_ifExp (pt_cmpR op_in_seq pe_non (pv 1) (by with_unfolding_all rfl)) pe_non (pe_tup (pa_cons (pv 0) (StX.pa_star (pv 1) pa_nil)))))), ?_⟩
    have nin : inV .non (ns.map V.int) = false := by
      unfold inV
      rw [List.any_eq_false]
      intro x hx
      obtain ⟨z, _, rfl⟩ := List.mem_map.mp hx
      exact Bool.false_ne_true
    have fl : (ns.map V.int).all flatV = true := List.all_eq_true.mpr fun x hx => by
      obtain ⟨z, _, rfl⟩ := List.mem_map.mp hx
      rfl
    refine ⟨_, rfl, q, _, rfl, .inl (SqL.of hq), rfl, fl, _, rfl, ?_⟩
    rw [show (if false = true then !inV .non (ns.map V.int) else inV .non (ns.map V.int)) = false by rw [if_neg Bool.false_ne_true]; exact nin]
    refine iteF ?_
    refine ⟨_, rfl, _, rfl, q, _, rfl, .inr (SqL.of hq), sizeS ?_, fun t ht => ?_⟩
    · rw [List.append_nil]
      show (ns.map V.int).length + 1 ≤ 100000
      rw [List.length_map]
      omega
    · refine k _ t (Same.new ht) ?_
      rw [upd_same, List.append_nil]
theorem cutTo1s (x : V) (l : List V) : cutV (x :: l) none (some 1) = [x] := by
  unfold cutV
  rw [HT.sIx_none, show (some (1 : Int)) = some ((1 : Nat) : Int) from rfl, HT.sIx_nat, List.drop_zero, Nat.sub_zero, Nat.min_eq_left (by rw [List.length_cons]; omega)]
  rfl
theorem cutFrom1s (x : V) (l : List V) : cutV (x :: l) (some 1) none = l := by
  unfold cutV
  rw [HT.sIx_none, show (some (1 : Int)) = some ((1 : Nat) : Int) from rfl, HT.sIx_nat, Nat.min_eq_left (by rw [List.length_cons]; omega), List.length_cons]
  show l.take (l.length + 1 - 1) = l
  rw [Nat.add_sub_cancel, List.take_length]
theorem ok_piece_of (T : All K mg) : FnOk P w K mg base CX0 3 T.d_piece_of.f T.d_piece_of.fd ["words"] spPieceOf := by
  have G_number_of : FnOk P w K mg base CX0 1 T.d_number_of.f T.d_number_of.fd ["word", "figures"] spNumberOf := ok_number_of T
  have G_with_bytes : FnOk P w K mg base CX0 2 T.d_with_bytes.f T.d_with_bytes.fd ["ahead", "words", "figures"] spWithBytes := ok_with_bytes T
  have G_with_things : FnOk P w K mg base CX0 1 T.d_with_things.f T.d_with_things.fd ["first", "things"] spWithThings := ok_with_things T
  refine T.d_piece_of.F.ok sc_piece_of (fun vs H Q E h => ?_) (fun cdv A outer s H vs Q E hr h => ?_)
  · obtain ⟨_, _, rfl, _⟩ := h
    rfl
  · obtain ⟨q, r, rfl, hq, hok, hl, k⟩ := h
    refine ⟨_, (pss_cons 
      (ps_if (PW.pt (pw_and (pt_cmpR op_eq (pe_ix ix_list (pv 0) pe_int (fun _ _ => rfl)) pe_str (nomark _)) (pw_and1 (pt_cmpR op_gt (pe_callB call_len (by rfl) T.b_len PySem.boot_len (pa_cons (pv 0) pa_nil)) pe_int (nomark _))))) (pss_one 
      (ps_ret (pe_call G_with_bytes (hr.mono (by decide)) rfl T.d_with_bytes.m T.d_with_bytes.F.kp T.d_with_bytes.b .nil pass0 (pa_cons (pe_slice sl_list (pv 0) po_none (po_some pe_int)) (pa_cons (pe_slice sl_list (pv 0) (po_some pe_int) po_none) (pa_cons (pe_glob (v := .int 3) rfl T.c_FEW ⟨_, rfl⟩) pa_nil)))))) pss_nil) (pss_cons 
      (ps_if (PW.pt (pw_or (pt_cmpR op_notIn_seq (pe_ix ix_list (pv 0) pe_int (fun _ _ => rfl)) (pe_tup (pa_cons pe_str (pa_cons pe_str pa_nil))) (by with_unfolding_all rfl)) (pw_or1 (pt_cmpR op_ne (pe_callB call_len (by rfl) T.b_len PySem.boot_len (pa_cons (pv 0) pa_nil)) pe_int (nomark _))))) (pss_one 
      (ps_ret pe_non)) pss_nil) (pss_one 
      (ps_ret (pe_call G_with_things (hr.mono (by decide)) rfl T.d_with_things.m T.d_with_things.F.kp T.d_with_things.b .nil pass0 (pa_cons (pe_ix ix_list (pv 0) pe_int (fun _ _ => rfl)) (pa_cons (pe_lc (own := [("word", 1)]) (g := gName 1) (tt := tYes) rfl sc_piece_of.nd (pi_list (pe_slice sl_list (pv 0) (po_some pe_int) po_none)) (blkOk_by (own := [("word", 1)]) (N := ["words", "word"]) (sc := defScope s_piece_of) (by decide +kernel)) (fun _ _ _ _ _ => (pg_name (i := 1) sc_piece_of.nd rfl (Or.inl rfl))) (fun _ _ _ _ _ => pts_nil) (fun _ _ _ _ _ => (pe_call G_number_of (hr.mono (by decide)) rfl T.d_number_of.m T.d_number_of.F.kp T.d_number_of.b .nil pass0 (pa_cons (pv 1) (pa_cons (pe_glob (v := .int 3) rfl T.c_FEW ⟨_, rfl⟩) pa_nil))))) pa_nil))))))), ?_⟩
    cases r with
    | bring bs =>
      have h1 := hok.1
      have hl : (bs.length : Int) ≤ 200 := hl
      have hq : H q = some (.lst (.str "bring" :: strsV (bs.map strI))) := hq
      refine ⟨_, rfl, q, _, _, _, rfl, rfl, SqL.of hq, at_of (j := 0) rfl rfl, rfl, _, rfl, ite2 (fun _ => ?_) fun h => absurd (by decide) h⟩
      refine ⟨_, rfl, _, _, rfl, .inl ⟨_, SqL.of hq, rfl⟩, _, _, rfl, rfl, _, rfl, ite2 (fun _ => ?_) fun h => absurd (decide_eq_true ?_) h⟩
      · refine ⟨_, rfl, 1, rfl, q, _, rfl, SqL.of hq, fun l1 hl1 => ?_⟩
        rw [cutTo1s]
        refine ⟨_, rfl, 1, rfl, q, _, rfl, SqL.of (Same.new hl1 _ _ hq), fun l2 hl2 => ?_⟩
        rw [cutFrom1s]
        have s2 := (Same.new (o := .lst [V.str "bring"]) hl1).trans (Same.new (o := .lst (strsV (bs.map strI))) hl2)
        refine ⟨l1, l2, bs, rfl, Same.new hl2 _ _ upd_same, upd_same, hok.2, by omega, by omega, fun H' t s3 ht => k H' t (s2.trans s3) ht⟩
      · show ((strsV (bs.map strI)).length + 1 : Nat) > (1 : Int)
        unfold strsV
        rw [List.length_map, List.length_map]
        omega
    | copy b n =>
      have hq : H q = some (.lst [.str "copy", .str (strI b), .str (strI n)]) := hq
      have h1 := hok.1
      have h2 := hok.2.1
      have h3 := hok.2.2
      refine ⟨_, rfl, q, _, _, _, rfl, rfl, SqL.of hq, rfl, rfl, _, rfl, ite2 (fun h => absurd h (by decide)) fun _ => ?_⟩
      refine iteF ⟨_, rfl, q, _, _, _, rfl, rfl, SqL.of hq, rfl, sizeS (by show 2 ≤ 100000; decide), fun tc htc => ?_⟩
      have hqc := Same.new (o := .tup [.str "copy", .str "run"]) htc _ _ hq
      refine ⟨tc, _, rfl, .inr (SqT.of upd_same), rfl, rfl, _, rfl, ite2 (fun h => absurd h (by decide)) fun _ => ?_⟩
      refine ⟨_, rfl, _, 3, rfl, .inl ⟨_, SqL.of hqc, rfl⟩, rfl, _, rfl, ite2 (fun h => absurd h (by decide)) fun _ => ?_⟩
      refine ⟨_, rfl, q, _, _, _, rfl, rfl, SqL.of hqc, rfl, _, rfl, 1, rfl, q, _, rfl, SqL.of hqc, fun l1 hl1 => ?_⟩
      rw [cutFrom1s]
      have s1 := (Same.new (o := .tup [.str "copy", .str "run"]) htc).trans (Same.new (o := .lst [V.str (strI b), V.str (strI n)]) hl1)
      refine ⟨l1, rfl, ⟨_, SqL.of upd_same⟩, fun D hD => lc_list (K := K) (a := l1) (xs := [V.str (strI b), V.str (strI n)]) (fun i H2 => Same (upd (upd H tc (.tup [.str "copy", .str "run"])) l1 (.lst [V.str (strI b), V.str (strI n)])) H2 ∧ H2 D = some (.lst (([b, n].take i).map V.int)))
        ⟨Same.new hD, upd_same⟩ (fun i H2 _ ⟨s2, _⟩ => SqL.of (s2 _ _ upd_same)) ?_ ?_⟩
      · rintro i x H2 hi ⟨s2, hd⟩
        have il := (List.getElem?_eq_some_iff.mp hi).1
        have il : i < 2 := il
        have : i = 0 ∨ i = 1 := by omega
        rcases this with rfl | rfl
        · injection hi with hi
          subst hi
          refine ⟨rfl, _, rfl, b, rfl, h1, by omega, fun H3 s3 => ?_⟩
          refine ⟨_, s3 _ _ hd, sizeL (by show 0 ≤ 100000; decide), fun c o y => ?_, ?_⟩
          · rw [upd_ne (ne_of_none y hD)]
            exact s3 _ _ (s2 _ _ y)
          · rw [upd_same]
            rfl
        · injection hi with hi
          subst hi
          refine ⟨rfl, _, rfl, n, rfl, by omega, by omega, fun H3 s3 => ?_⟩
          refine ⟨_, s3 _ _ hd, sizeL (by show 1 ≤ 100000; decide), fun c o y => ?_, ?_⟩
          · rw [upd_ne (ne_of_none y hD)]
            exact s3 _ _ (s2 _ _ y)
          · rw [upd_same]
            rfl
      · rintro H2 ⟨s2, hd⟩
        refine ⟨_, D, [b, n], rfl, hd, (by show 2 ≤ 10; decide), fun H' t s3 ht => k H' t (s1.trans (s2.trans s3)) ht⟩
    | run b n =>
      have hq : H q = some (.lst [.str "run", .str (strI b), .str (strI n)]) := hq
      have h1 := hok.1
      have h2 := hok.2.1
      have h3 := hok.2.2
      have hl : n ≤ 200 := hl
      refine ⟨_, rfl, q, _, _, _, rfl, rfl, SqL.of hq, rfl, rfl, _, rfl, ite2 (fun h => absurd h (by decide)) fun _ => ?_⟩
      refine iteF ⟨_, rfl, q, _, _, _, rfl, rfl, SqL.of hq, rfl, sizeS (by show 2 ≤ 100000; decide), fun tc htc => ?_⟩
      have hqc := Same.new (o := .tup [.str "copy", .str "run"]) htc _ _ hq
      refine ⟨tc, _, rfl, .inr (SqT.of upd_same), rfl, rfl, _, rfl, ite2 (fun h => absurd h (by decide)) fun _ => ?_⟩
      refine ⟨_, rfl, _, 3, rfl, .inl ⟨_, SqL.of hqc, rfl⟩, rfl, _, rfl, ite2 (fun h => absurd h (by decide)) fun _ => ?_⟩
      refine ⟨_, rfl, q, _, _, _, rfl, rfl, SqL.of hqc, rfl, _, rfl, 1, rfl, q, _, rfl, SqL.of hqc, fun l1 hl1 => ?_⟩
      rw [cutFrom1s]
      have s1 := (Same.new (o := .tup [.str "copy", .str "run"]) htc).trans (Same.new (o := .lst [V.str (strI b), V.str (strI n)]) hl1)
      refine ⟨l1, rfl, ⟨_, SqL.of upd_same⟩, fun D hD => lc_list (K := K) (a := l1) (xs := [V.str (strI b), V.str (strI n)]) (fun i H2 => Same (upd (upd H tc (.tup [.str "copy", .str "run"])) l1 (.lst [V.str (strI b), V.str (strI n)])) H2 ∧ H2 D = some (.lst (([b, n].take i).map V.int)))
        ⟨Same.new hD, upd_same⟩ (fun i H2 _ ⟨s2, _⟩ => SqL.of (s2 _ _ upd_same)) ?_ ?_⟩
      · rintro i x H2 hi ⟨s2, hd⟩
        have il := (List.getElem?_eq_some_iff.mp hi).1
        have il : i < 2 := il
        have : i = 0 ∨ i = 1 := by omega
        rcases this with rfl | rfl
        · injection hi with hi
          subst hi
          refine ⟨rfl, _, rfl, b, rfl, h1, by omega, fun H3 s3 => ?_⟩
          refine ⟨_, s3 _ _ hd, sizeL (by show 0 ≤ 100000; decide), fun c o y => ?_, ?_⟩
          · rw [upd_ne (ne_of_none y hD)]
            exact s3 _ _ (s2 _ _ y)
          · rw [upd_same]
            rfl
        · injection hi with hi
          subst hi
          refine ⟨rfl, _, rfl, n, rfl, by omega, by omega, fun H3 s3 => ?_⟩
          refine ⟨_, s3 _ _ hd, sizeL (by show 1 ≤ 100000; decide), fun c o y => ?_, ?_⟩
          · rw [upd_ne (ne_of_none y hD)]
            exact s3 _ _ (s2 _ _ y)
          · rw [upd_same]
            rfl
      · rintro H2 ⟨s2, hd⟩
        refine ⟨_, D, [b, n], rfl, hd, (by show 2 ≤ 10; decide), fun H' t s3 ht => k H' t (s1.trans (s2.trans s3)) ht⟩

def wordsV : V → List Str
  | .str z => [z]
  | .int n => [strI n]
  | .byt b => (PySem.W.KBw.bInts b).map strI
  | _ => []
theorem tup_words {r : Row} (h : r.ok 200) : r.tup.flatMap wordsV = rowWords r := by
  cases r with
  | copy b n => rfl
  | run b n => rfl
  | bring bs =>
    show ([("bring" : Str)] : List Str) ++ ((PySem.W.KBw.bInts (byteArr bs)).map strI ++ []) = (("bring" : Str) :: bs.map strI : List Str)
    rw [bInts_of h.2, List.append_nil]
    rfl
theorem tup_each {r : Row} (h : r.ok 200) (hl : r.len ≤ 200) : ∀ x ∈ r.tup, (∃ z, x = V.str z) ∨ (∃ n, x = V.int n ∧ 0 ≤ n ∧ n < 1000) ∨ ∃ bs, x = V.byt (byteArr bs) ∧ B8 bs ∧ bs.length ≤ 200 := by
  cases r with
  | copy b n =>
    have h1 := h.1
    have h2 := h.2.1
    have h3 := h.2.2
    intro x hx
    rcases List.mem_cons.mp hx with rfl | hx
    · exact .inl ⟨_, rfl⟩
    · rcases List.mem_cons.mp hx with rfl | hx
      · exact .inr (.inl ⟨_, rfl, h1, by omega⟩)
      · rw [List.mem_singleton.mp hx]
        exact .inr (.inl ⟨_, rfl, by omega, by omega⟩)
  | run b n =>
    have h1 := h.1
    have h2 := h.2.1
    have h3 := h.2.2
    have hl : n ≤ 200 := hl
    intro x hx
    rcases List.mem_cons.mp hx with rfl | hx
    · exact .inl ⟨_, rfl⟩
    · rcases List.mem_cons.mp hx with rfl | hx
      · exact .inr (.inl ⟨_, rfl, h1, by omega⟩)
      · rw [List.mem_singleton.mp hx]
        exact .inr (.inl ⟨_, rfl, by omega, by omega⟩)
  | bring bs =>
    have hl : (bs.length : Int) ≤ 200 := hl
    intro x hx
    rcases List.mem_cons.mp hx with rfl | hx
    · exact .inl ⟨_, rfl⟩
    · rw [List.mem_singleton.mp hx]
      exact .inr (.inr ⟨_, rfl, h.2, by omega⟩)
theorem str_any {X : Cx} : CallR X (.type "str") (fun xs H Q => (∃ i, xs = [.int i] ∧ i.natAbs.log2 < 1920 ∧ Q (.str (strI i)) H) ∨ ∃ a, xs = [.str a] ∧ Q (.str a) H) := callR_or call_str_int SkE.call_str_str
theorem log_ok {n : Int} (h0 : 0 ≤ n) (h1 : n < 1000) : n.natAbs.log2 < 1920 := by
  by_cases e : n.natAbs = 0
  · rw [e]; decide
  · have := (Nat.log2_lt e (k := 10)).mpr (by omega)
    omega
theorem ok_row_of (T : All K mg) : FnOk P w K mg base CX0 1 T.d_row_of.f T.d_row_of.fd ["things"] spRowOf := by
  refine T.d_row_of.F.ok sc_row_of (fun vs H Q E h => ?_) (fun cdv A outer s H vs Q E hr h => ?_)
  · obtain ⟨_, _, rfl, _⟩ := h
    rfl
  · obtain ⟨q, r, rfl, hq, hok, hl, k⟩ := h
    refine ⟨_, (pss_cons 
      (ps_set (i := 1) sc_row_of.nd rfl (Or.inl rfl) (pe_lst pa_nil)) (pss_cons 
      (ps_for PassesOwn.never rfl (pi_tup (pv 0)) (pg_name (i := 2) sc_row_of.nd rfl (Or.inl rfl)) (pss_one 
      (ps_if (pt_val (pe_callB call_isi (by rfl) T.b_isinstance (by decide +kernel) (pa_cons (pv 2) (pa_cons (pe_bltn (v := .ty "bytes") (by rfl) T.b_bytes (by decide +kernel) rfl) pa_nil)))) (pss_one 
      (ps_expr (pe_bm PySem.F.plainAttrs_list PySem.F.slot_list_extend PySem.F.type_list_extend mt_extend (pv 1) (pa_cons (pe_lc (own := [("byte", 3)]) (g := gName 3) (tt := tYes) rfl sc_row_of.nd (pi_byt (pv 2)) (blkOk_by (own := [("byte", 3)]) (N := ["things", "words", "thing", "byte"]) (sc := defScope s_row_of) (by decide +kernel)) (fun _ _ _ _ _ => (pg_name (i := 3) sc_row_of.nd rfl (Or.inl rfl))) (fun _ _ _ _ _ => pts_nil) (fun _ _ _ _ _ => (pe_callTy str_any (by rfl) T.b_str (by decide +kernel) (pa_cons (pv 3) pa_nil)))) pa_nil)))) (pss_one 
      (ps_expr (pe_bm PySem.F.plainAttrs_list PySem.F.slot_list_append PySem.F.type_list_append mt_append (pv 1) (pa_cons (pe_callTy str_any (by rfl) T.b_str (by decide +kernel) (pa_cons (pv 2) pa_nil)) pa_nil))))))) (pss_one 
      (ps_ret (pe_m1 PySem.F.slot_str_join PySem.F.type_str_join mt_join pe_str (pv 1)))))), ?_⟩
    have wl := words_len hok hl
    have wo := words_ok hok hl
    -- the last row
    have last : ∀ (H2 : Hp) (D : Addr), H2 D = some (.lst (strsV (rowWords r))) → Same H H2 → (SqL K H2 D ((rowWords r).map V.str) ∨ SqT K H2 D ((rowWords r).map V.str)) ∧ ((rowWords r).map (·.length)).sum + (rowWords r).length * (" " : Str).length ≤ 16777216 := by
      intro H2 D hd s2
      refine ⟨.inl (SqL.of hd), ?_⟩
      have b := sum_le (l := (rowWords r).map (·.length)) (k := 5) fun x hx => by
        obtain ⟨y, hy, rfl⟩ := List.mem_map.mp hx
        have := (wo y hy).few
        rw [← len_tl] at this
        exact this
      rw [List.length_map] at b
      have e1 : (" " : Str).length = 1 := by decide +kernel
      rw [e1, Nat.mul_one]
      omega
    refine ⟨sizeS (by show 0 ≤ 100000; decide), fun D hD => ?_⟩
    have each : ∀ x ∈ r.tup, (∃ z, x = V.str z) ∨ (∃ n, x = V.int n ∧ 0 ≤ n ∧ n < 1000) ∨ ∃ bs, x = V.byt (byteArr bs) ∧ B8 bs ∧ bs.length ≤ 200 := tup_each hok hl
    have whole : r.tup.flatMap wordsV = rowWords r := tup_words hok
    have tl3 : r.tup.length ≤ 3 := by cases r <;> (first | exact Nat.le_refl 3 | (show 2 ≤ 3; decide))
    refine ⟨_, rfl, q, rfl, ⟨_, SqT.of (Same.new hD _ _ hq)⟩, for_tup (K := K) (a := q) (xs := r.tup) (fun i σ H2 => ∃ v2 v3 : Option V, σ = [some (.ref q), some (.ref D), v2, v3] ∧ Same H H2 ∧ H2 D = some (.lst (strsV ((r.tup.take i).flatMap wordsV))) ∧ ((r.tup.take i).flatMap wordsV).length ≤ 201 * i)
      ⟨none, none, rfl, Same.new hD, upd_same, Nat.le_refl _⟩ (fun i σ H2 _ ⟨_, _, _, s2, _⟩ => SqT.of (s2 _ _ hq)) ?_ ?_⟩
    · rintro i x σ H2 hi ⟨v2, v3, rfl, s2, hd, dl⟩
      have il := (List.getElem?_eq_some_iff.mp hi).1
      have step : (r.tup.take (i + 1)).flatMap wordsV = (r.tup.take i).flatMap wordsV ++ wordsV x := by
        rw [take_snoc hi, List.flatMap_append, List.flatMap_cons, List.flatMap_nil, List.append_nil]
      have sv : (strsV ((r.tup.take i).flatMap wordsV)).length = ((r.tup.take i).flatMap wordsV).length := by unfold strsV; rw [List.length_map]
      rcases each x (List.mem_of_getElem? hi) with ⟨z, rfl⟩ | ⟨n, rfl, n0, n1⟩ | ⟨bs, rfl, hb, bl⟩
      · refine ⟨_, rfl, _, _, _, _, false, rfl, .ty _, .base (.str z), kit_ty (by decide +kernel), false, rfl, iteF ?_⟩
        refine ⟨_, rfl, .inl ⟨rfl, _, SqL.of hd⟩, _, rfl, .inr ⟨z, rfl, D, _, _, rfl, rfl, hd, sizeL (by omega), _, _, rfl, fun b o y => ?_, ?_, ?_⟩⟩
        · rw [upd_ne (ne_of_none y hD)]
          exact s2 _ _ y
        · rw [upd_same, step]
          unfold strsV
          rw [List.map_append]
          rfl
        · rw [step, List.length_append]
          show _ + 1 ≤ _
          omega
      · refine ⟨_, rfl, _, _, _, _, false, rfl, .ty _, .base (.int n), kit_ty (by decide +kernel), false, rfl, iteF ?_⟩
        refine ⟨_, rfl, .inl ⟨rfl, _, SqL.of hd⟩, _, rfl, .inl ⟨n, rfl, log_ok n0 n1, D, _, _, rfl, rfl, hd, sizeL (by omega), _, _, rfl, fun b o y => ?_, ?_, ?_⟩⟩
        · rw [upd_ne (ne_of_none y hD)]
          exact s2 _ _ y
        · rw [upd_same, step]
          unfold strsV
          rw [List.map_append]
          rfl
        · rw [step, List.length_append]
          show _ + 1 ≤ _
          omega
      · refine ⟨_, rfl, _, _, _, _, true, rfl, .ty _, .byt _, kit_ty (by decide +kernel), true, rfl, iteT ?_⟩
        refine ⟨_, rfl, .inl ⟨rfl, _, SqL.of hd⟩, _, rfl, _, rfl, fun G hG => ?_⟩
        refine lc_it walk_byt (fun j H3 => Same H2 H3 ∧ H3 G = some (.lst (strsV ((bs.take j).map strI)))) ⟨Same.new hG, upd_same⟩ (fun _ _ _ _ => trivial) ?_ ?_
        · rintro j x H3 H4 hj ⟨s3, hg⟩ ⟨rfl, c, hc, rfl⟩
          rw [byteArr_size] at hj
          have hz := byt_at hb hc
          have bz := hb _ (List.mem_of_getElem? hz)
          refine ⟨rfl, _, rfl, .inl ⟨_, rfl, log_ok bz.1 (by omega), _, hg, sizeL ?_, fun b o y => ?_, ?_⟩⟩
          · unfold strsV
            rw [List.length_map, List.length_map, List.length_take]
            omega
          · rw [upd_ne (ne_of_none y hG)]
            exact s3 _ _ y
          · rw [upd_same, take_snoc hz, List.map_append]
            unfold strsV
            rw [List.map_append]
            rfl
        · rintro H3 ⟨s3, hg⟩
          rw [byteArr_size, List.take_length] at hg
          have ew : wordsV (V.byt (byteArr bs)) = bs.map strI := by
            show (PySem.W.KBw.bInts (byteArr bs)).map strI = _
            rw [bInts_of hb]
          rw [ew] at step
          have el : (strsV (bs.map strI)).length = bs.length := by unfold strsV; rw [List.length_map, List.length_map]
          refine ⟨D, G, _, _, rfl, rfl, s3 _ _ hd, hg, sizeS (by omega), _, _, rfl, fun b o y => ?_, ?_, ?_⟩
          · rw [upd_ne (ne_of_none y hD)]
            exact s3 _ _ (s2 _ _ y)
          · rw [upd_same, step]
            unfold strsV
            rw [List.map_append]
          · rw [step, List.length_append, List.length_map]
            omega
    · rintro σ H2 ⟨v2, v3, rfl, s2, hd, _⟩
      rw [List.take_length, whole] at hd
      obtain ⟨l1, l2⟩ := last H2 D hd s2
      exact ⟨⟨_, rfl⟩, _, rfl, _, D, rowWords r, rfl, rfl, l1, l2, k H2 s2⟩
theorem text_room {rows : List Row} (h : ∀ r ∈ rows, r.ok 200 ∧ r.len ≤ 200) (hl : rows.length ≤ 200) : ((rows.map rowText).map (·.length)).sum + (rows.map rowText).length * ("\n" : Str).length ≤ 16777216 := by
  have b := sum_le (l := (rows.map rowText).map (·.length)) (k := 1206) fun x hx => by
    obtain ⟨y, hy, rfl⟩ := List.mem_map.mp hx
    obtain ⟨z, hz, rfl⟩ := List.mem_map.mp hy
    have := (rowText_fits (h z hz).1 (h z hz).2).1
    rw [← len_tl] at this
    exact this
  rw [List.length_map, List.length_map] at b
  have e1 : ("\n" : Str).length = 1 := by decide +kernel
  rw [e1, Nat.mul_one, List.length_map]
  omega
theorem ok_written (T : All K mg) : FnOk P w K mg base CX0 4 T.d_written.f T.d_written.fd ["patch"] spWritten := by
  have G_check_patch : FnOk P w K mg base CX0 3 T.d_check_patch.f T.d_check_patch.fd ["patch"] spCheckPatchA := ok_check_patch T
  have G_row_of : FnOk P w K mg base CX0 1 T.d_row_of.f T.d_row_of.fd ["things"] spRowOf := ok_row_of T
  refine T.d_written.F.ok sc_written (fun vs H Q E h => ?_) (fun cdv A outer s H vs Q E hr h => ?_)
  · obtain ⟨_, _, rfl, _⟩ := h
    rfl
  · obtain ⟨v, rows, rfl, hP, hG, k⟩ := h
    refine ⟨_, (pss_cons 
      (ps_expr (pe_call G_check_patch (hr.mono (by decide)) rfl T.d_check_patch.m T.d_check_patch.F.kp T.d_check_patch.b .nil pass0 (pa_cons (pv 0) pa_nil))) (pss_one 
      (ps_ret (pe_m1 PySem.F.slot_str_join PySem.F.type_str_join mt_join pe_str (pe_lc (own := [("piece", 1)]) (g := gName 1) (tt := tYes) rfl sc_written.nd (pi_tup (pv 0)) (blkOk_by (own := [("piece", 1)]) (N := ["patch", "piece"]) (sc := defScope s_written) (by decide +kernel)) (fun _ _ _ _ _ => (pg_name (i := 1) sc_written.nd rfl (Or.inl rfl))) (fun _ _ _ _ _ => pts_nil) (fun _ _ _ _ _ => (pe_call G_row_of (hr.mono (by decide)) rfl T.d_row_of.m T.d_row_of.F.kp T.d_row_of.b .nil pass0 (pa_cons (pv 1) pa_nil)))))))), ?_⟩
    refine ⟨_, rfl, v, rows, rfl, .inl hP, hG, fun H1 s1 => ?_⟩
    obtain ⟨p, vs, rfl, hv, hpr⟩ := hP
    have few := hG.nat
    refine ⟨⟨_, rfl⟩, _, rfl, p, rfl, ⟨vs, SqT.of (s1 _ _ hv)⟩, fun D hD => lc_tup (K := K) (a := p) (xs := vs) (fun i H2 => Same H1 H2 ∧ H2 D = some (.lst (strsV ((rows.take i).map rowText))))
      ⟨Same.new hD, upd_same⟩ (fun i H2 _ ⟨s2, _⟩ => SqT.of (s2 _ _ (s1 _ _ hv))) ?_ ?_⟩
    · rintro i x H2 hi ⟨s2, hd⟩
      obtain ⟨r, hr1, q, rfl, hq⟩ := pairedAt hpr hi
      obtain ⟨o1, o2⟩ := hG.each r (List.mem_of_getElem? hr1)
      have il := (List.getElem?_eq_some_iff.mp hr1).1
      refine ⟨rfl, _, rfl, q, r, rfl, s2 _ _ (s1 _ _ hq), o1, o2, fun H3 s3 => ?_⟩
      refine ⟨_, s3 _ _ hd, sizeL ?_, fun b o z => ?_, ?_⟩
      · unfold strsV
        rw [List.length_map, List.length_map, List.length_take]
        omega
      · rw [upd_ne (ne_of_none z hD)]
        exact s3 _ _ (s2 _ _ z)
      · rw [upd_same, take_snoc hr1, List.map_append]
        unfold strsV
        rw [List.map_append]
        rfl
    · rintro H2 ⟨s2, hd⟩
      rw [Paired.length hpr, List.take_length] at hd
      exact ⟨_, D, rows.map rowText, rfl, rfl, .inl (SqL.of hd), text_room hG.each few, k H2 (s1.trans s2)⟩
theorem ok_rows_of (T : All K mg) : FnOk P w K mg base CX0 1 T.d_rows_of.f T.d_rows_of.fd ["text"] spRowsOf := by
  refine T.d_rows_of.F.ok sc_rows_of (fun vs H Q E h => ?_) (fun cdv A outer s H vs Q E hr h => ?_)
  · obtain ⟨_, rfl, _⟩ := h
    rfl
  · obtain ⟨rows, rfl, hG, k⟩ := h
    refine ⟨_, (pss_one 
      (ps_ret (pe_ifExp (pt_truth (pv 0) (by intro _; rfl)) (pe_m1 PySem.F.slot_str_split PySem.F.type_str_split mt_split (pv 0) pe_str) (pe_lst pa_nil)))), ?_⟩
    obtain ⟨f1, f2⟩ := text_fits hG.each hG.nat
    have len : (patchText rows).length = (tl (patchText rows)).length := len_tl _
    refine ⟨_, rfl, _, ⟨by rw [sizeLine_eq]; omega, rfl⟩, ?_⟩
    by_cases e : rows = []
    · subst e
      have l0 : ((((patchText []).length : Nat) : Int) != 0) = false := by decide +kernel
      rw [l0]
      exact iteF ⟨sizeS (by show 0 ≤ 100000; decide), fun q hq => k _ q (Same.new hq) hq upd_same⟩
    · have ne := f2 e
      have pos : 0 < (tl (patchText rows)).length := List.length_pos_iff.mpr ne
      have l1 : ((((patchText rows).length : Nat) : Int) != 0) = true := bne_iff_ne.mpr (by omega)
      rw [l1]
      refine iteT ⟨_, rfl, ⟨_, rfl⟩, _, _, rfl, rfl, by decide +kernel, by rw [sizeLine_eq]; omega, fun q hq => ?_⟩
      rw [text_split hG.each e]
      exact k _ q (Same.new hq) hq upd_same
theorem ok_read (T : All K mg) : FnOk P w K mg base CX0 4 T.d_read.f T.d_read.fd ["text"] spReadT := by
  have G_check_patch : FnOk P w K mg base CX0 3 T.d_check_patch.f T.d_check_patch.fd ["patch"] spCheckPatchA := ok_check_patch T
  have G_rows_of : FnOk P w K mg base CX0 1 T.d_rows_of.f T.d_rows_of.fd ["text"] spRowsOf := ok_rows_of T
  have G_piece_of : FnOk P w K mg base CX0 3 T.d_piece_of.f T.d_piece_of.fd ["words"] spPieceOf := ok_piece_of T
  refine T.d_read.F.ok sc_read (fun vs H Q E h => ?_) (fun cdv A outer s H vs Q E hr h => ?_)
  · obtain ⟨_, rfl, _⟩ := h
    rfl
  · obtain ⟨rows, rfl, hG, k⟩ := h
    refine ⟨_, (pss_cons 
      (ps_setLc (i := 1) (own := [("row", 2)]) (g := gName 2) (tt := tYes) rfl sc_read.nd rfl rfl (sw_true rfl rfl rfl (by decide +kernel)) (pi_list (pe_call G_rows_of (hr.mono (by decide)) rfl T.d_rows_of.m T.d_rows_of.F.kp T.d_rows_of.b .nil pass0 (pa_cons (pv 0) pa_nil))) (blkOk_by (own := [("row", 2)]) (N := ["text", "pieces", "row"]) (sc := defScope s_read) (by decide +kernel)) (fun _ _ _ _ _ => (pg_name (i := 2) sc_read.nd rfl (Or.inl rfl))) (fun _ _ _ _ _ => pts_nil) (fun _ _ _ _ _ => (pe_call G_piece_of (hr.mono (by decide)) rfl T.d_piece_of.m T.d_piece_of.F.kp T.d_piece_of.b .nil pass0 (pa_cons (pe_m1 PySem.F.slot_str_split PySem.F.type_str_split mt_split (pv 2) pe_str) pa_nil)))) (pss_cons 
      (ps_if (pt_cmpR (op_noneTup hr.units) pe_non (pv 1) (by with_unfolding_all rfl)) (pss_one ps_never) pss_nil) (pss_cons 
      (ps_expr (pe_call G_check_patch (hr.mono (by decide)) rfl T.d_check_patch.m T.d_check_patch.F.kp T.d_check_patch.b .nil pass0 (pa_cons (pv 1) pa_nil))) (pss_one 
      (ps_ret (pe_callTy call_tuple_of (by rfl) T.b_tuple (by decide +kernel) (pa_cons (pv 1) pa_nil))))))), ?_⟩
    refine ⟨_, rfl, rows, rfl, hG, fun H1 l s1 hl hl1 => ?_⟩
    have few := hG.nat
    have ll : (strsV (rows.map rowText)).length = rows.length := by unfold strsV; rw [List.length_map, List.length_map]
    refine ⟨l, rfl, ⟨_, SqL.of hl1⟩, fun D hD => lc_list (K := K) (a := l) (xs := strsV (rows.map rowText)) (fun i H2 => ∃ ws : List V, Same H1 H2 ∧ H2 D = some (.lst ws) ∧ Paired (PieceV H2) ws (rows.take i))
      ⟨[], Same.new hD, upd_same, .nil⟩ (fun i H2 _ ⟨_, s2, _⟩ => SqL.of (s2 _ _ hl1)) ?_ ?_⟩
    · rintro i x H2 hi ⟨ws, s2, hw, pw⟩
      obtain ⟨r, hr1, rfl⟩ : ∃ r, rows[i]? = some r ∧ x = .str (rowText r) := by
        unfold strsV at hi
        rw [List.getElem?_map, List.getElem?_map] at hi
        cases hz : rows[i]? with
        | none => rw [hz] at hi; cases hi
        | some z =>
          rw [hz] at hi
          injection hi with hi
          exact ⟨z, rfl, hi.symm⟩
      obtain ⟨o1, o2⟩ := hG.each r (List.mem_of_getElem? hr1)
      have il := (List.getElem?_eq_some_iff.mp hr1).1
      obtain ⟨f1, _, _⟩ := rowText_fits o1 o2
      have wl : ws.length ≤ i := by rw [Paired.length pw, List.length_take]; omega
      refine ⟨rfl, _, rfl, ⟨_, rfl⟩, _, _, rfl, rfl, by decide +kernel, by rw [sizeLine_eq, len_tl]; omega, fun q hq => ?_⟩
      rw [row_split o1 o2]
      have s3 := Same.new (o := .lst (strsV (rowWords r))) hq
      refine ⟨q, r, rfl, upd_same, o1, o2, fun H4 t s4 ht => ?_⟩
      have s24 := s3.trans s4
      have hw4 := s24 _ _ hw
      refine ⟨ws, hw4, sizeL (by omega), ws ++ [.ref t], fun b o z => ?_, upd_same, ?_⟩
      · rw [upd_ne (ne_of_none z hD)]
        exact s24 _ _ (s2 _ _ z)
      · rw [take_snoc hr1]
        exact pairedApp (pairedMap pw fun _ _ x => (x.tups (Same.tups s24)).tups (Tups.lst hw4)) (.cons ⟨t, rfl, Tups.lst hw4 _ _ ht⟩ .nil)
    · rintro H2 ⟨ws, s2, hw, pw⟩
      rw [ll, List.take_length] at pw
      refine ⟨_, rfl, D, ws, rfl, rfl, SqL.of hw, fun z hz => ?_, _, rfl, iteF ?_⟩
      · obtain ⟨i, hi⟩ := List.mem_iff_getElem?.mp hz
        obtain ⟨r, _, t, ez, ht⟩ := pairedAt pw hi
        exact ⟨t, _, ez, SqT.of ht⟩
      · refine ⟨_, rfl, .ref D, rows, rfl, .inr ⟨D, rfl, ws, hw, pw⟩, hG, fun H3 s3 => ?_⟩
        refine ⟨_, rfl, D, ws, rfl, .inl ⟨SqL.of (s3 _ _ hw), fun u hu => ?_⟩⟩
        exact k _ _ (s1.trans (s2.trans (s3.trans (Same.new hu)))) ⟨u, ws, rfl, upd_same, pairedMap pw fun _ _ x => x.tups (Same.tups (s3.trans (Same.new hu)))⟩
end
/-! ### a statement whose ways meet again; a list against the empty one -/
def tJoin (t : TS) : TS := fun D σ H => ∃ J : L2.St → Hp → Prop, t { D with nx := J } σ H ∧ ∀ σ' H', J σ' H' → D.nx σ' H'
theorem ps_join {X : Cx} {st : Stmt} {t : TS} (h : PS X st t) : PS X st (tJoin t) := by
  refine ⟨fun pins s σ H D I hh => ?_⟩
  obtain ⟨J, h1, h2⟩ := hh
  refine thn (h.run pins s σ H { D with nx := J } I h1) fun f s' q => ?_
  cases f with
  | next =>
    obtain ⟨σ', H', I', j⟩ := q
    exact ⟨σ', H', I', h2 _ _ j⟩
  | ret u => exact q
  | brk => exact q
  | cont => exact q
def rNeEmpty : R2 := fun x y H Q => ∃ a b xs, x = .ref a ∧ y = .ref b ∧ H a = some (.lst xs) ∧ H b = some (.lst []) ∧ Q (.bl (!xs.isEmpty)) H
theorem op_neEmpty {X : Cx} (hu : X.A.units + 64 < cLine) : OpR X (compareOp .NotEq) rNeEmpty := by
  intro pins s σ H x y v u Q I rx ry h
  obtain ⟨a, b, xs, rfl, rfl, ha, hb, q⟩ := h
  cases (show v = Value.ref a from rx)
  cases (show u = Value.ref b from ry)
  obtain ⟨us, r1, p1, _⟩ := I.list (SqL.of ha)
  obtain ⟨ws, r2, p2, _⟩ := I.list (SqL.of hb)
  cases r2
  cases r1 with
  | nil =>
    have z := SeqAt.RcNeAt.lists (A := X.A) (e := fun _ => true) p1.isList p2.isList rfl (by omega) (fun j h1 => absurd h1 (Nat.not_lt_zero j))
    exact z X.prog X.w _ _ ⟨.bl false, H, I, rfl, q⟩
  | cons c t =>
    have z := SeqAt.RcNeAt.lists_lengths (A := X.A) p1.isList p2.isList (by simp) (by omega)
    exact z X.prog X.w _ _ ⟨.bl true, H, I, rfl, q⟩
theorem op_notIn_rng {X : Cx} : OpR X (compareOp .NotIn) (fun x y H Q => ∃ i a lo hi, x = V.int i ∧ y = V.ref a ∧ H a = some (.rng lo hi) ∧ Q (.bl (!decide (lo ≤ i ∧ i < hi))) H) := by
  intro pins s σ H x y v u Q I rx ry h
  obtain ⟨i, a, lo, hi, rfl, rfl, ha, q⟩ := h
  obtain ⟨k, rfl⟩ := rx
  obtain rfl : u = Value.ref a := ry
  obtain ⟨t1, t2, t3, ho⟩ := I.hok a _ ha
  refine NotIn_slot (T := "range") ⟨_, ho, rfl⟩ PySem.F.slot_range_contains (call_meets PySem.F.slot_range_contains ⟨_, ho, rfl⟩ PySem.F.entry_range_contains (PySem.F.args_range_contains_2 _ _) (q_contains a lo hi i t1 t2 t3 k) ⟨ho, wpAny_truthy_bool ⟨.bl _, H, I, rfl, ?_⟩⟩)
  show Q (.bl (!(Builtin.Range.rangePlace? lo hi 1 i).isSome)) H
  rw [place1]
  exact q
theorem atIb {bs : List Int} {z b : Int} (h0 : 0 ≤ z) (h : bs[z.toNat]? = some b) : atI (bs.map V.int) z = some (.int b) := at_of (j := z.toNat) (by omega) (by rw [List.getElem?_map, h]; rfl)
/-! ### the law's own texts -/
open TL
section
variable {P : Program} {w : World} {K : PySem.W.Frag} {mg : Str → Option Value} {base : Heap}
theorem ok_law_taken (T : All K mg) : FnOk P w K mg base CX0 1 T.d_law_taken.f T.d_law_taken.fd ["_law_row_here", "_law_many"] (spNext K) := by
  refine T.d_law_taken.F.ok sc_law_taken (fun vs H Q E h => ?_) (fun cdv A outer s H vs Q E hr h => ?_)
  · obtain ⟨_, _, d, n, rfl, _⟩ := h
    rfl
  · obtain ⟨a, ns, d, n, rfl, ⟨hS, hl, p, m, g, hp, hd⟩, n1, n2, k⟩ := h
    refine ⟨_, (pss_cons 
      (ps_if (pt_cmpR op_gt (pe_ix ix_list (pv 0) pe_int (fun _ _ => rfl)) pe_int (nomark _)) (pss_cons 
      (ps_set (i := 2) sc_law_taken.nd rfl (Or.inl rfl) (pe_op op_mod (pe_callTy call_int1 (by rfl) T.b_int PyProof.Rows.boot_int (pa_cons (pe_ix ix_list (pv 0) pe_int (fun _ _ => rfl)) pa_nil)) (pv 1))) (pss_cons 
      (ps_asg (pe_op op_fdiv (pe_ix ix_list (pv 0) pe_int (fun _ _ => rfl)) (pv 1)) (pg_sub (pv 0) pe_int set_list)) (pss_one 
      (ps_ret (pv 2))))) pss_nil) (pss_cons 
      (ps_asg (pe_op op_add (pe_ix ix_list (pv 0) pe_int (fun _ _ => rfl)) pe_int) (pg_sub (pv 0) pe_int set_list)) (pss_cons 
      (ps_if (pt_cmpR op_gt (pe_ix ix_list (pv 0) pe_int (fun _ _ => rfl)) (pe_callB call_len (by rfl) T.b_len PySem.boot_len (pa_cons (pe_ix ix_list (pv 0) pe_int (fun _ _ => rfl)) pa_nil)) (nomark _)) (pss_cons 
      (ps_asg (pe_op op_mod (pe_op op_add (pe_op op_mul (pe_ix ix_list (pv 0) pe_int (fun _ _ => rfl)) pe_int) pe_int) pe_int) (pg_sub (pv 0) pe_int set_list)) (pss_one 
      (ps_ret (pe_op op_mod (pe_op op_fdiv (pe_ix ix_list (pv 0) pe_int (fun _ _ => rfl)) pe_int) (pv 1))))) pss_nil) (pss_cons 
      (ps_set (i := 3) sc_law_taken.nd rfl (Or.inl rfl) (pe_ix ix_list (pe_ix ix_list (pv 0) pe_int (fun _ _ => rfl)) (pe_op op_sub (pe_ix ix_list (pv 0) pe_int (fun _ _ => rfl)) pe_int) (fun _ _ => rfl))) (pss_cons 
      (ps_asg (pe_op op_mod (pe_op op_add (pe_op op_add (pe_op op_mul (pe_ix ix_list (pv 0) pe_int (fun _ _ => rfl)) pe_int) (pv 3)) pe_int) pe_int) (pg_sub (pv 0) pe_int set_list)) (pss_cons 
      (ps_if (pt_cmpR op_ge (pv 3) (pe_op op_pow pe_int pe_int) (nomark _)) (pss_one 
      (ps_asg (pe_op op_fdiv (pv 3) (pv 1)) (pg_sub (pv 0) pe_int set_list))) pss_nil) (pss_one 
      (ps_ret (pe_op op_mod (pe_callTy call_int1 (by rfl) T.b_int PyProof.Rows.boot_int (pa_cons (pv 3) pa_nil)) (pv 1)))))))))), ?_⟩
    have i0 : ∀ {x0 x1 x2 x3 : V}, atI [x0, x1, x2, x3] 0 = some x0 := rfl
    have i1 : ∀ {x0 x1 x2 x3 : V}, atI [x0, x1, x2, x3] 1 = some x1 := rfl
    have i2 : ∀ {x0 x1 x2 x3 : V}, atI [x0, x1, x2, x3] 2 = some x2 := rfl
    have i3 : ∀ {x0 x1 x2 x3 : V}, atI [x0, x1, x2, x3] 3 = some x3 := rfl
    have npos : 0 < n := by omega
    refine ⟨_, rfl, d, _, _, _, rfl, rfl, SqL.of hd, i3, _, _, rfl, rfl, _, rfl, ite2 (fun hg => ?_) fun hg => ?_⟩
    · refine ⟨_, rfl, d, _, _, _, rfl, rfl, SqL.of hd, i3, .inl ⟨_, rfl, _, rfl, _, _, rfl, rfl, npos, ?_⟩⟩
      refine ⟨_, rfl, d, _, _, _, rfl, rfl, SqL.of hd, i3, _, rfl, _, _, rfl, rfl, ⟨npos, n2⟩, _, rfl, d, _, _, _, rfl, rfl, hd, rfl, _, rfl, ?_⟩
      exact k _ _ But.put (Dice.put hS hl hp hd) (Int.emod_nonneg _ (by omega)) (Int.emod_lt_of_pos _ npos)
    · refine ⟨_, rfl, d, _, _, _, rfl, rfl, SqL.of hd, i1, _, _, rfl, rfl, _, rfl, d, _, _, _, rfl, rfl, hd, rfl, ?_⟩
      have hd1 : (upd H d (.lst [V.ref a, V.int (p + 1), V.int m, V.int g])) d = some (.lst [V.ref a, V.int (p + 1), V.int m, V.int g]) := upd_same
      have hS1 : SqL K (upd H d (.lst [V.ref a, V.int (p + 1), V.int m, V.int g])) a (ns.map V.int) := sq_but But.put hd hS
      refine ⟨_, rfl, d, _, _, _, rfl, rfl, SqL.of hd1, i1, _, rfl, d, _, _, _, rfl, rfl, SqL.of hd1, i0, _, _, rfl, .inl ⟨_, hS1, rfl⟩, _, _, rfl, rfl, _, rfl, ite2 (fun hc => ?_) fun hc => ?_⟩
      · refine ⟨_, rfl, d, _, _, _, rfl, rfl, SqL.of hd1, i2, _, _, rfl, rfl, .inr ⟨by decide, by decide⟩, _, _, rfl, rfl, _, _, rfl, rfl, (by show (0 : Int) < 2147483647; decide), _, rfl, d, _, _, _, rfl, rfl, hd1, rfl, ?_⟩
        have hd2 : (upd (upd H d (.lst [V.ref a, V.int (p + 1), V.int m, V.int g])) d (.lst [V.ref a, V.int (p + 1), V.int ((m * 48271 + 11) % 2147483647), V.int g])) d = some (.lst [V.ref a, V.int (p + 1), V.int ((m * 48271 + 11) % 2147483647), V.int g]) := upd_same
        refine ⟨_, rfl, d, _, _, _, rfl, rfl, SqL.of hd2, i2, _, _, rfl, rfl, ⟨by decide, by decide⟩, _, rfl, _, _, rfl, rfl, npos, ?_⟩
        exact k _ _ (But.put.trans But.put) (Dice.put hS1 hl (by omega) hd1) (Int.emod_nonneg _ (by omega)) (Int.emod_lt_of_pos _ npos)
      · have hc' : p + 1 ≤ (ns.length : Int) := by
          have := of_decide_eq_false (Bool.not_eq_true _ ▸ hc)
          rw [List.length_map] at this
          omega
        obtain ⟨j, hj⟩ : ∃ j : Nat, p = (j : Int) := ⟨p.toNat, by omega⟩
        have hlt : j < ns.length := by omega
        have hat : atI (ns.map V.int) (p + 1 - 1) = some (V.int ns[j]) := at_of (j := j) (by omega) (by rw [List.getElem?_map, List.getElem?_eq_getElem hlt]; rfl)
        refine ⟨_, rfl, d, _, _, _, rfl, rfl, SqL.of hd1, i0, _, rfl, d, _, _, _, rfl, rfl, SqL.of hd1, i1, _, _, rfl, rfl, a, _, _, _, rfl, rfl, hS1, hat, ?_⟩
        refine ⟨_, rfl, d, _, _, _, rfl, rfl, SqL.of hd1, i2, _, _, rfl, rfl, .inr ⟨by decide, by decide⟩, _, rfl, _, _, rfl, rfl, _, _, rfl, rfl, _, _, rfl, rfl, (by show (0 : Int) < 2147483647; decide), _, rfl, d, _, _, _, rfl, rfl, hd1, rfl, ?_⟩
        have hd2 : (upd (upd H d (.lst [V.ref a, V.int (p + 1), V.int m, V.int g])) d (.lst [V.ref a, V.int (p + 1), V.int ((m * 48271 + ns[j] + 11) % 2147483647), V.int g])) d = some (.lst [V.ref a, V.int (p + 1), V.int ((m * 48271 + ns[j] + 11) % 2147483647), V.int g]) := upd_same
        have hS2 : SqL K (upd (upd H d (.lst [V.ref a, V.int (p + 1), V.int m, V.int g])) d (.lst [V.ref a, V.int (p + 1), V.int ((m * 48271 + ns[j] + 11) % 2147483647), V.int g])) a (ns.map V.int) := sq_but But.put hd1 hS1
        refine ⟨_, rfl, _, _, rfl, rfl, ⟨by decide, by decide, by decide⟩, _, _, rfl, rfl, _, rfl, ite2 (fun hb => ?_) fun hb => ?_⟩
        · refine ⟨_, rfl, _, rfl, _, _, rfl, rfl, ⟨npos, n2⟩, _, rfl, d, _, _, _, rfl, rfl, hd2, rfl, ?_⟩
          refine ⟨_, rfl, .inl ⟨_, rfl, _, rfl, _, _, rfl, rfl, npos, ?_⟩⟩
          exact k _ _ (But.put.trans (But.put.trans But.put)) (Dice.put hS2 hl (by omega) hd2) (Int.emod_nonneg _ (by omega)) (Int.emod_lt_of_pos _ npos)
        · refine ⟨_, rfl, .inl ⟨_, rfl, _, rfl, _, _, rfl, rfl, npos, ?_⟩⟩
          exact k _ _ (But.put.trans But.put) (Dice.put hS1 hl (by omega) hd1) (Int.emod_nonneg _ (by omega)) (Int.emod_lt_of_pos _ npos)

def spLPatch (K : PySem.W.Frag) : Sp := fun vs H Q _ => ∃ (a : Addr) (ns : List Int) (d : Addr) (m : Int), vs = [.ref d, .int m] ∧ Dice K a ns H d ∧ 0 ≤ m ∧ m ≤ 100 ∧ ∀ H' v rows, But d H H' → Dice K a ns H' d → PatchAt H' v rows → Good rows → Q v H'
theorem ok_law_patch (T : All K mg) : FnOk P w K mg base CX0 3 T.d_law_patch.f T.d_law_patch.fd ["_law_row_here", "_law_most"] (spLPatch K) := by
  have G_law_taken : FnOk P w K mg base CX0 1 T.d_law_taken.f T.d_law_taken.fd ["_law_row_here", "_law_many"] (spNext K) := ok_law_taken T
  have G_bytes_of : FnOk P w K mg base CX0 2 T.d_bytes_of.f T.d_bytes_of.fd ["numbers"] (spBytesOf K) := ok_bytes_of T
  refine T.d_law_patch.F.ok sc_law_patch (fun vs H Q E h => ?_) (fun cdv A outer s H vs Q E hr h => ?_)
  · obtain ⟨_, _, _, _, rfl, _⟩ := h
    rfl
  · obtain ⟨a, ns, d, m, rfl, D, m0, m1, k⟩ := h
    refine ⟨_, (pss_cons 
      (ps_par (i := 2) (j := 3) (by rfl) sc_law_patch.nd rfl rfl (by decide) rfl rfl (pa_cons (pe_lst pa_nil) (pa_cons pe_int pa_nil)) (by rfl)) (pss_cons 
      (ps_for PassesOwn.never rfl (pi_range1 (by rfl) T.b_range (pa_cons (pe_call G_law_taken (hr.mono (by decide)) rfl T.d_law_taken.m T.d_law_taken.F.kp T.d_law_taken.b .nil pass0 (pa_cons (pv 0) (pa_cons (pe_op op_add (pv 1) pe_int) pa_nil))) pa_nil)) (pg_name (i := 4) sc_law_patch.nd rfl (Or.inl rfl)) (pss_cons 
      (ps_par (i := 5) (j := 6) (by rfl) sc_law_patch.nd rfl rfl (by decide) rfl rfl (pa_cons (pe_call G_law_taken (hr.mono (by decide)) rfl T.d_law_taken.m T.d_law_taken.F.kp T.d_law_taken.b .nil pass0 (pa_cons (pv 0) (pa_cons pe_int pa_nil))) (pa_cons (pe_op op_add pe_int (pe_call G_law_taken (hr.mono (by decide)) rfl T.d_law_taken.m T.d_law_taken.F.kp T.d_law_taken.b .nil pass0 (pa_cons (pv 0) (pa_cons (pe_ix ix_list (pe_lst (pa_cons pe_int (pa_cons pe_int pa_nil))) (pe_call G_law_taken (hr.mono (by decide)) rfl T.d_law_taken.m T.d_law_taken.F.kp T.d_law_taken.b .nil pass0 (pa_cons (pv 0) (pa_cons pe_int pa_nil))) (fun _ _ => rfl)) pa_nil)))) pa_nil)) (by rfl)) (pss_one 
      (ps_if (pt_cmpR op_le (pe_op op_add (pv 3) (pv 6)) pe_int (nomark _)) (pss_cons 
      (ps_aug (i := 3) sc_law_patch.nd rfl (Or.inl rfl) (pv 6) ip_add) (pss_cons 
      (ps_setLc (i := 7) (own := [("_law_j", 8)]) (g := gName 8) (tt := tYes) rfl sc_law_patch.nd rfl rfl (sw_true rfl rfl rfl (by decide +kernel)) (pi_range1 (by rfl) T.b_range (pa_cons (pe_callB (call_min2 rfl) (by rfl) T.b_min (by decide +kernel) (pa_cons (pv 6) (pa_cons pe_int pa_nil))) pa_nil)) (blkOk_by (own := [("_law_j", 8)]) (N := ["_law_row_here", "_law_most", "_law_pieces", "_law_total", "_law_k", "_law_way_on", "_law_long", "_law_some", "_law_j", "_law_begin"]) (sc := defScope s_law_patch) (by decide +kernel)) (fun _ _ _ _ _ => (pg_name (i := 8) sc_law_patch.nd rfl (Or.inl rfl))) (fun _ _ _ _ _ => pts_nil) (fun _ _ _ _ _ => (pe_call G_law_taken (hr.mono (by decide)) rfl T.d_law_taken.m T.d_law_taken.F.kp T.d_law_taken.b .nil pass0 (pa_cons (pv 0) (pa_cons pe_int pa_nil))))) (pss_cons 
      (ps_set (i := 7) sc_law_patch.nd rfl (Or.inl rfl) (pe_slice sl_list (pe_op op_rep (pv 7) pe_int) po_none (po_some (pv 6)))) (pss_cons 
      (ps_set (i := 9) sc_law_patch.nd rfl (Or.inl rfl) (pe_call G_law_taken (hr.mono (by decide)) rfl T.d_law_taken.m T.d_law_taken.F.kp T.d_law_taken.b .nil pass0 (pa_cons (pv 0) (pa_cons (pe_op op_sub pe_int (pv 6)) pa_nil)))) (pss_one 
      (ps_expr (pe_bm PySem.F.plainAttrs_list PySem.F.slot_list_append PySem.F.type_list_append mt_append (pv 2) (pa_cons (pe_ix ix_list (pe_lst (pa_cons (pe_tup (pa_cons pe_str (pa_cons (pv 9) (pa_cons (pv 6) pa_nil)))) (pa_cons (pe_tup (pa_cons pe_str (pa_cons (pe_call G_bytes_of (hr.mono (by decide)) rfl T.d_bytes_of.m T.d_bytes_of.F.kp T.d_bytes_of.b .nil pass0 (pa_cons (pv 7) pa_nil)) pa_nil))) (pa_cons (pe_tup (pa_cons pe_str (pa_cons (pe_ix ix_list (pv 7) pe_int (fun _ _ => rfl)) (pa_cons (pv 6) pa_nil)))) pa_nil)))) (pv 5) (fun _ _ => rfl)) pa_nil)))))))) pss_nil)))) (pss_one 
      (ps_ret (pe_callTy call_tuple_of (by rfl) T.b_tuple (by decide +kernel) (pa_cons (pv 2) pa_nil)))))), ?_⟩
    refine ⟨sizeS (by show 0 ≤ 100000; decide), fun p hp => ⟨_, _, rfl, ?_⟩⟩
    have npd : p ≠ d := D.ne hp
    refine ⟨_, rfl, _, rfl, _, _, rfl, rfl, a, ns, d, m + 1, rfl, D.same (Same.new hp), by omega, by omega, fun H1 t b1 D1 t0 t1 => ?_⟩
    have B1 : But d H H1 := (But.new hp).trans b1
    refine ⟨t, rfl, by omega, by omega, for_range (lo := 0) (n := t.toNat) (fun i σ H2 => ∃ (tot : Int) (ws : List V) (rows : List Row) (v4 v5 v6 v7 v8 v9 : Option V), σ = [some (.ref d), some (.int m), some (.ref p), some (.int tot), v4, v5, v6, v7, v8, v9] ∧ But d H H2 ∧ Dice K a ns H2 d ∧ H2 p = some (.lst ws) ∧ Paired (PieceV H2) ws rows ∧ (∀ r ∈ rows, r.ok 200) ∧ total rows = tot ∧ tot ≤ 200 ∧ rows.length ≤ i)
      ⟨0, [], [], _, _, _, _, _, _, rfl, B1, D1, b1 p _ npd upd_same, .nil, fun r hr => (List.not_mem_nil hr).elim, rfl, by decide, Nat.le_refl _⟩ ?_ ?_⟩
    · rintro i σ H2 hi ⟨tot, ws, rows, v4, v5, v6, v7, v8, v9, rfl, b2, D2, hw, pw, hok, ht, t200, rl⟩
      have wl : ws.length = rows.length := Paired.length pw
      refine ⟨_, rfl, a, ns, d, 3, rfl, D2, by decide, by decide, fun H3 wy b3 D3 w0 w1 => ?_⟩
      refine ⟨_, rfl, sizeS (by show 2 ≤ 100000; decide), fun l hl => ⟨_, rfl, a, ns, d, 2, rfl, D3.same (Same.new hl), by decide, by decide, fun H4 kd b4 D4 k0 k1 => ?_⟩⟩
      have hl4 : H4 l = some (.lst [V.int 4, V.int 40]) := b4 l _ (D3.ne hl) upd_same
      obtain ⟨wd, hk, w2, w3⟩ : ∃ wd : Int, atI [V.int 4, V.int 40] kd = some (.int wd) ∧ 1 ≤ wd ∧ wd ≤ 40 := by
        have : kd = 0 ∨ kd = 1 := by omega
        rcases this with rfl | rfl
        · exact ⟨4, rfl, by decide, by decide⟩
        · exact ⟨40, rfl, by decide, by decide⟩
      refine ⟨l, _, _, _, rfl, rfl, SqL.of hl4, hk, a, ns, d, wd, rfl, D4, by omega, by omega, fun H5 z b5 D5 z0 z1 => ?_⟩
      have b25 : But d H2 H5 := b3.trans ((But.new hl).trans (b4.trans b5))
      have B5 : But d H H5 := b2.trans b25
      refine ⟨_, _, rfl, rfl, _, _, rfl, ?_⟩
      have hw5 : H5 p = some (.lst ws) := b25 p _ npd hw
      have pw5 : Paired (PieceV H5) ws rows := pairedMap pw fun _ _ x => by
        obtain ⟨q, e, x⟩ := x
        exact ⟨q, e, tup_but D2 b25 x⟩
      refine ⟨_, rfl, _, rfl, _, _, rfl, rfl, _, _, rfl, rfl, _, rfl, ite2 (fun hc => ?_) fun hc => ?_⟩
      · have hc' : tot + (1 + z) ≤ 200 := of_decide_eq_true hc
        refine ⟨_, rfl, _, rfl, _, _, rfl, rfl, _, rfl, _, _, rfl, ?_⟩
        obtain ⟨mn, hmn⟩ : ∃ mn : Int, mn = (if (9 : Int) < 1 + z then 9 else 1 + z) := ⟨_, rfl⟩
        have mn0 : 1 ≤ mn := by rw [hmn]; split <;> omega
        have mn9 : mn ≤ 9 := by rw [hmn]; split <;> omega
        have mnz : mn = 9 ∨ mn = 1 + z := by rw [hmn]; split <;> omega
        refine ⟨mn, by rw [hmn], by omega, by omega, fun e he => lc_range (lo := 0) (n := mn.toNat) (fun j H6 => ∃ bs : List Int, But d H5 H6 ∧ Dice K a ns H6 d ∧ H6 e = some (.lst (bs.map V.int)) ∧ B8 bs ∧ bs.length = j)
              ⟨[], But.new he, D5.same (Same.new he), upd_same, fun n hn => (List.not_mem_nil hn).elim, rfl⟩ ?_ ?_⟩
        · rintro j H6 hj ⟨bs, b6, D6, he6, hb, hblen⟩
          refine ⟨rfl, ?_⟩
          refine ⟨_, rfl, a, ns, d, 256, rfl, D6, by decide, by decide, fun H7 u b7 D7 u0 u1 => ?_⟩
          have he7 : H7 e = some (.lst (bs.map V.int)) := b7 e _ (D5.ne he) he6
          refine ⟨_, he7, sizeL (by rw [List.length_map]; omega), bs ++ [u], But.fresh (b6.trans b7) he, Dice.fresh D5 (b6.trans b7) he D7, ?_, ?_, ?_⟩
          · rw [upd_same, List.map_append]; rfl
          · exact hb.app (fun n hn => by
              rw [List.mem_singleton.mp hn]
              exact ⟨u0, u1⟩)
          · rw [List.length_append]; show bs.length + 1 = j + 1; omega
        · rintro H6 ⟨bs, b6, D6, he6, hb, hblen⟩
          refine ⟨_, rfl, _, _, _, rfl, rfl, he6, by decide, by decide, ?_, fun f hf => ?_⟩
          · rw [List.length_map, sizeLine_eq]; show bs.length * 9 ≤ _; omega
          have dl : ((List.replicate (Int.toNat 9) (bs.map V.int)).flatten) = ((List.replicate 9 bs).flatten).map V.int := by
            rw [List.map_flatten, List.map_replicate]
            rfl
          refine ⟨_, rfl, _, rfl, f, _, rfl, SqL.of upd_same, fun g hg => ?_⟩
          have he' : ∃ bz : List Int, cutV ((List.replicate (Int.toNat 9) (bs.map V.int)).flatten) none (some (1 + z)) = bz.map V.int ∧ B8 bz ∧ (bz.length : Int) = 1 + z := by
            obtain ⟨n, hn⟩ : ∃ n : Nat, 1 + z = (n : Int) := ⟨(1 + z).toNat, by omega⟩
            have fl : ((List.replicate 9 bs).flatten).length = 9 * bs.length := by rw [List.length_flatten, List.map_replicate, List.sum_replicate_nat]
            refine ⟨((List.replicate 9 bs).flatten).take n, ?_, ?_, ?_⟩
            · rw [dl, hn]
              unfold cutV
              rw [HT.sIx_nat, List.length_map, Nat.min_eq_left (by omega), List.map_take]
              rfl
            · intro x hx
              have := List.mem_of_mem_take hx
              obtain ⟨l', hl', hx'⟩ := List.mem_flatten.mp this
              rw [List.eq_of_mem_replicate hl'] at hx'
              exact hb x hx'
            · rw [List.length_take, hn]
              omega
          obtain ⟨bz, ebz, hbz, hlz⟩ := he'
          rw [ebz]
          refine ⟨_, rfl, _, rfl, _, _, rfl, rfl, a, ns, d, 201 - (1 + z), rfl, (D6.same (Same.new hf)).same (Same.new hg), by omega, by omega, fun H8 bg b8 D8 g0 g1 => ?_⟩
          have b58 : But d H5 H8 := b6.trans ((But.new hf).trans ((But.new hg).trans b8))
          have hw8 : H8 p = some (.lst ws) := b58 p _ npd hw5
          have pw8 : Paired (PieceV H8) ws rows := pairedMap pw5 fun _ _ x => by
            obtain ⟨q, e, x⟩ := x
            exact ⟨q, e, tup_but D5 b58 x⟩
          have hg8 : H8 g = some (.lst (bz.map V.int)) := b8 g _ (((D6.same (Same.new hf)).ne hg)) upd_same
          refine ⟨_, rfl, .inl ⟨rfl, _, SqL.of hw8⟩, ?_⟩
          refine ⟨_, rfl, _, rfl, sizeS (by show 3 ≤ 100000; decide), fun t1 ht1 => ?_⟩
          have hg9 := Same.new (o := .tup [.str "copy", .int bg, .int (1 + z)]) ht1 _ _ hg8
          refine ⟨_, rfl, g, bz, rfl, SqL.of hg9, hbz, ?_⟩
          refine ⟨sizeS (by show 2 ≤ 100000; decide), fun t2 ht2 => ?_⟩
          obtain ⟨x0, bz', rfl⟩ : ∃ x0 bz', bz = x0 :: bz' := by
            cases bz with
            | nil => exact absurd hlz (by show ((0 : Nat) : Int) ≠ 1 + z; omega)
            | cons x l => exact ⟨x, l, rfl⟩
          have hg10 := Same.new (o := .tup [.str "bring", .byt (byteArr (x0 :: bz'))]) ht2 _ _ hg9
          have at0 : atI (List.map V.int (x0 :: bz')) 0 = some (V.int x0) := at_of (j := 0) rfl rfl
          refine ⟨_, rfl, g, _, _, _, rfl, rfl, SqL.of hg10, at0, _, rfl, sizeS (by show 3 ≤ 100000; decide), fun t3 ht3 => ?_⟩
          refine ⟨sizeS (by show 3 ≤ 100000; decide), fun L hL => ?_⟩
          obtain ⟨HL, hHL⟩ : ∃ HL, HL = upd (upd (upd (upd H8 t1 (.tup [.str "copy", .int bg, .int (1 + z)])) t2 (.tup [.str "bring", .byt (byteArr (x0 :: bz'))])) t3 (.tup [.str "run", .int x0, .int (1 + z)])) L (.lst [.ref t1, .ref t2, .ref t3]) := ⟨_, rfl⟩
          have sL : Same H8 HL := by
            rw [hHL]
            exact ((Same.new ht1).trans (Same.new ht2)).trans ((Same.new ht3).trans (Same.new hL))
          have e1 : HL t1 = some (.tup [.str "copy", .int bg, .int (1 + z)]) := by
            rw [hHL]
            exact ((Same.new ht2).trans ((Same.new ht3).trans (Same.new hL))) _ _ upd_same
          have e2 : HL t2 = some (.tup [.str "bring", .byt (byteArr (x0 :: bz'))]) := by
            rw [hHL]
            exact ((Same.new ht3).trans (Same.new hL)) _ _ upd_same
          have e3 : HL t3 = some (.tup [.str "run", .int x0, .int (1 + z)]) := by
            rw [hHL]
            exact (Same.new hL) _ _ upd_same
          have hwL : HL p = some (.lst ws) := sL _ _ hw8
          have pwL : Paired (PieceV HL) ws rows := pairedMap pw8 fun _ _ x => x.tups (Same.tups sL)
          have bL : But d H HL := (B5.trans b58).trans (Same.but sL)
          have DL : Dice K a ns HL d := D8.same sL
          have fin : ∀ (tv : V) (r : Row), PieceV HL tv r → r.ok 200 → r.len = 1 + z → But d H (upd HL p (.lst (ws ++ [tv]))) ∧ Dice K a ns (upd HL p (.lst (ws ++ [tv]))) d ∧ Paired (PieceV (upd HL p (.lst (ws ++ [tv])))) (ws ++ [tv]) (rows ++ [r]) ∧ (∀ r' ∈ rows ++ [r], r'.ok 200) ∧ total (rows ++ [r]) = tot + (1 + z) ∧ (rows ++ [r]).length ≤ i + 1 := by
            intro tv r hp1 hro hrl
            refine ⟨But.fresh bL hp, Dice.fresh D bL hp DL, pairedApp (pairedMap pwL fun _ _ x => x.tups (Tups.lst hwL)) (.cons (hp1.tups (Tups.lst hwL)) .nil), fun x hx => ?_, ?_, ?_⟩
            · rcases List.mem_append.mp hx with hx | hx
              · exact hok x hx
              · rw [List.mem_singleton.mp hx]; exact hro
            · rw [total_app]
              have : total [r] = 1 + z := by show r.len + 0 = 1 + z; omega
              omega
            · rw [List.length_append]; show rows.length + 1 ≤ i + 1; omega
          have hx0 : 0 ≤ x0 ∧ x0 < 256 := hbz x0 (List.mem_cons_self ..)
          have hwy : wy = 0 ∨ wy = 1 ∨ wy = 2 := by omega
          rcases hwy with rfl | rfl | rfl
          · obtain ⟨q1, q2, q3, q4, q5, q6⟩ := fin (.ref t1) (.copy bg (1 + z)) ⟨t1, rfl, e1⟩ ⟨g0, by omega, by omega⟩ rfl
            subst hHL
            refine ⟨_, rfl, L, _, _, _, rfl, rfl, SqL.of upd_same, rfl, p, ws, _, rfl, rfl, hwL, sizeL (by omega), ?_⟩
            exact ⟨_, _, rows ++ [_], _, _, _, _, _, _, rfl, q1, q2, upd_same, q3, q4, q5, hc', q6⟩
          · obtain ⟨q1, q2, q3, q4, q5, q6⟩ := fin (.ref t2) (.bring (x0 :: bz')) ⟨t2, rfl, e2⟩ ⟨by omega, hbz⟩ hlz
            subst hHL
            refine ⟨_, rfl, L, _, _, _, rfl, rfl, SqL.of upd_same, rfl, p, ws, _, rfl, rfl, hwL, sizeL (by omega), ?_⟩
            exact ⟨_, _, rows ++ [_], _, _, _, _, _, _, rfl, q1, q2, upd_same, q3, q4, q5, hc', q6⟩
          · obtain ⟨q1, q2, q3, q4, q5, q6⟩ := fin (.ref t3) (.run x0 (1 + z)) ⟨t3, rfl, e3⟩ ⟨hx0.1, hx0.2, by omega⟩ rfl
            subst hHL
            refine ⟨_, rfl, L, _, _, _, rfl, rfl, SqL.of upd_same, rfl, p, ws, _, rfl, rfl, hwL, sizeL (by omega), ?_⟩
            exact ⟨_, _, rows ++ [_], _, _, _, _, _, _, rfl, q1, q2, upd_same, q3, q4, q5, hc', q6⟩
      · exact ⟨tot, ws, rows, _, _, _, _, _, _, rfl, B5, D5, hw5, pw5, hok, ht, t200, by omega⟩
    · rintro σ H2 ⟨tot, ws, rows, v4, v5, v6, v7, v8, v9, rfl, b2, D2, hw, pw, hok, ht, t200, rl⟩
      refine ⟨_, rfl, p, ws, rfl, .inl ⟨SqL.of hw, fun u hu => ?_⟩⟩
      exact k _ _ rows (b2.trans (But.new hu)) (D2.same (Same.new hu)) ⟨u, ws, rfl, upd_same, pairedMap pw fun _ _ x => x.tups (Same.tups (Same.new hu))⟩ ⟨hok, by omega⟩
end
def spLRow : Sp := fun vs H Q _ => ∃ (q : Addr) (r : Row), vs = [.ref q] ∧ H q = some (.tup r.tup) ∧ r.ok 200 ∧ r.len ≤ 200 ∧ ∀ H', Same H H' → Q (.str (rowText r)) H'
def rowHead : Row → Str
  | .copy _ _ => "copy"
  | .run _ _ => "run"
  | .bring _ => "bring"
def rowNums : Row → List Int
  | .copy b n => [b, n]
  | .run b n => [b, n]
  | .bring bs => bs
theorem cut1 : ¬ HT.sIx 3 0 (some 1) = 0 := by decide
theorem rowWords_is (r : Row) : rowWords r = rowHead r :: (rowNums r).map strI := by cases r <;> rfl
theorem tup_head (r : Row) : atI r.tup 0 = some (.str (rowHead r)) := by cases r <;> rfl
theorem rowNums_ok {r : Row} (h : r.ok 200) (hl : r.len ≤ 200) : (∀ n ∈ rowNums r, 0 ≤ n ∧ n < 1000) ∧ (rowNums r).length ≤ 200 := by
  cases r with
  | copy b n =>
    have h1 := h.1
    have h2 := h.2.1
    have h3 := h.2.2
    refine ⟨fun z hz => ?_, by show 2 ≤ 200; decide⟩
    rcases List.mem_cons.mp hz with rfl | hz
    · omega
    · rw [List.mem_singleton.mp hz]; omega
  | run b n =>
    have h1 := h.1
    have h2 := h.2.1
    have h3 := h.2.2
    have hl : n ≤ 200 := hl
    refine ⟨fun z hz => ?_, by show 2 ≤ 200; decide⟩
    rcases List.mem_cons.mp hz with rfl | hz
    · omega
    · rw [List.mem_singleton.mp hz]; omega
  | bring bs =>
    have hl : (bs.length : Int) ≤ 200 := hl
    refine ⟨fun z hz => ?_, by show bs.length ≤ 200; omega⟩
    have := h.2 z hz
    omega
section
variable {P : Program} {w : World} {K : PySem.W.Frag} {mg : Str → Option Value} {base : Heap}
theorem ok_law_row (T : All K mg) : FnOk P w K mg base CX0 3 T.d_law_row.f T.d_law_row.fd ["_law_piece"] spLRow := by
  have G_numbers_of : FnOk P w K mg base CX0 1 T.d_numbers_of.f T.d_numbers_of.fd ["some"] spNumsOf := ok_numbers_of T
  refine T.d_law_row.F.ok sc_law_row (fun vs H Q E h => ?_) (fun cdv A outer s H vs Q E hr h => ?_)
  · obtain ⟨_, _, rfl, _⟩ := h
    rfl
  · obtain ⟨q, r, rfl, hq, hok, hl, k⟩ := h
    refine ⟨_, (pss_cons (ps_join 
      (ps_set (i := 1) sc_law_row.nd rfl (Or.inl rfl) (pe_ifExp (pt_cmpR op_eq (pe_ix ix_tup (pv 0) pe_int (fun _ _ => rfl)) pe_str (nomark _)) (pe_call G_numbers_of (hr.mono (by decide)) rfl T.d_numbers_of.m T.d_numbers_of.F.kp T.d_numbers_of.b .nil pass0 (pa_cons (pe_ix ix_tup (pv 0) pe_int (fun _ _ => rfl)) pa_nil)) (pe_callTy call_list_of (by rfl) T.b_list (by decide +kernel) (pa_cons (pe_slice sl_tupA (pv 0) (po_some pe_int) po_none) pa_nil))))) (pss_one 
      (ps_ret (pe_m1 PySem.F.slot_str_join PySem.F.type_str_join mt_join pe_str (pe_op op_cat (pe_lst (pa_cons (pe_ix ix_tup (pv 0) pe_int (fun _ _ => rfl)) pa_nil)) (pe_lc (own := [("_law_number", 2)]) (g := gName 2) (tt := tYes) rfl sc_law_row.nd (pi_list (pv 1)) (blkOk_by (own := [("_law_number", 2)]) (N := ["_law_piece", "_law_numbers", "_law_number"]) (sc := defScope s_law_row) (by decide +kernel)) (fun _ _ _ _ _ => (pg_name (i := 2) sc_law_row.nd rfl (Or.inl rfl))) (fun _ _ _ _ _ => pts_nil) (fun _ _ _ _ _ => (pe_callTy call_str_int (by rfl) T.b_str (by decide +kernel) (pa_cons (pv 2) pa_nil))))))))), ?_⟩
    refine ⟨fun σ H1 => ∃ (l : Addr) (v2 : Option V), σ = [some (.ref q), some (.ref l), v2] ∧ Same H H1 ∧ H1 l = some (.lst ((rowNums r).map V.int)), ?_, ?_⟩
    · cases r with
      | bring bs =>
        have hl : (bs.length : Int) ≤ 200 := hl
        refine ⟨_, rfl, q, _, _, _, rfl, rfl, SqT.of hq, rfl, rfl, _, rfl, ite2 (fun _ => ?_) fun h => absurd (by decide) h⟩
        refine ⟨_, rfl, q, _, _, _, rfl, rfl, SqT.of hq, rfl, bs, rfl, hok.2, by omega, fun u hu => ?_⟩
        exact ⟨u, none, rfl, Same.new hu, upd_same⟩
      | copy b n =>
        refine ⟨_, rfl, q, _, _, _, rfl, rfl, SqT.of hq, rfl, rfl, _, rfl, ite2 (fun h => absurd h (by decide)) fun _ => ?_⟩
        refine ⟨_, rfl, _, rfl, q, _, rfl, SqT.of hq, fun h => absurd h.1 cut1, fun _ t ht => ?_⟩
        refine ⟨t, _, rfl, .inr (SqT.of upd_same), fun u hu => ?_⟩
        exact ⟨u, none, rfl, (Same.new ht).trans (Same.new hu), upd_same⟩
      | run b n =>
        refine ⟨_, rfl, q, _, _, _, rfl, rfl, SqT.of hq, rfl, rfl, _, rfl, ite2 (fun h => absurd h (by decide)) fun _ => ?_⟩
        refine ⟨_, rfl, _, rfl, q, _, rfl, SqT.of hq, fun h => absurd h.1 cut1, fun _ t ht => ?_⟩
        refine ⟨t, _, rfl, .inr (SqT.of upd_same), fun u hu => ?_⟩
        exact ⟨u, none, rfl, (Same.new ht).trans (Same.new hu), upd_same⟩
    · rintro σ H1 ⟨l, v2, rfl, s1, hl1⟩
      obtain ⟨nb, nf⟩ := rowNums_ok hok hl
      refine ⟨⟨_, rfl⟩, _, rfl, q, _, _, _, rfl, rfl, SqT.of (s1 _ _ hq), tup_head r, sizeS (by show 1 ≤ 100000; decide), fun a ha => ?_⟩
      refine ⟨_, rfl, l, rfl, ⟨_, SqL.of (Same.new ha _ _ hl1)⟩, fun D hD => lc_list (K := K) (a := l) (xs := (rowNums r).map V.int) (fun i H2 => Same (upd H1 a (.lst [.str (rowHead r)])) H2 ∧ H2 D = some (.lst (strsV (((rowNums r).take i).map strI))))
        ⟨Same.new hD, upd_same⟩ (fun i H2 _ ⟨s2, _⟩ => SqL.of (s2 _ _ (Same.new ha _ _ hl1))) ?_ ?_⟩
      · rintro i x H2 hi ⟨s2, hd⟩
        obtain ⟨n, rfl, hn⟩ := at_map hi
        obtain ⟨n0, n1⟩ := nb n (List.mem_of_getElem? hn)
        have il := (List.getElem?_eq_some_iff.mp hn).1
        refine ⟨rfl, _, rfl, n, rfl, log_ok n0 n1, ?_⟩
        refine ⟨_, hd, sizeL ?_, fun b o z => ?_, ?_⟩
        · unfold strsV
          rw [List.length_map, List.length_map, List.length_take]
          omega
        · rw [upd_ne (ne_of_none z hD)]
          exact s2 _ _ z
        · rw [upd_same, take_snoc hn, List.map_append]
          unfold strsV
          rw [List.map_append]
          rfl
      · rintro H2 ⟨s2, hd⟩
        rw [List.length_map, List.take_length] at hd
        refine ⟨a, D, _, _, rfl, rfl, s2 _ _ upd_same, hd, ?_, fun C hC => ?_⟩
        · unfold strsV
          rw [List.length_map, List.length_map, sizeLine_eq]
          show 1 + _ ≤ _
          omega
        have e : [V.str (rowHead r)] ++ strsV ((rowNums r).map strI) = (rowWords r).map V.str := by rw [rowWords_is]; rfl
        rw [e]
        have wl := words_len hok hl
        have wo := words_ok hok hl
        have b := sum_le (l := (rowWords r).map (·.length)) (k := 5) fun x hx => by
          obtain ⟨y, hy, rfl⟩ := List.mem_map.mp hx
          have := (wo y hy).few
          rw [← len_tl] at this
          exact this
        rw [List.length_map] at b
        have e1 : (" " : Str).length = 1 := by decide +kernel
        refine ⟨_, C, rowWords r, rfl, rfl, .inl (SqL.of upd_same), ?_, ?_⟩
        · rw [e1, Nat.mul_one]
          omega
        · exact k _ (((s1.trans (Same.new ha)).trans s2).trans (Same.new hC))
end
def spLaw (K : PySem.W.Frag) : Sp := fun vs H Q _ => ∃ (a : Addr) (ns : List Int), vs = [.ref a] ∧ SqL K H a (ns.map V.int) ∧ ns.length ≤ 63 ∧ ∀ H', Q (.bl true) H'
section
variable {P : Program} {w : World} {K : PySem.W.Frag} {mg : Str → Option Value} {base : Heap}
theorem ok_law (T : All K mg) {f : Addr} {fd : FuncData} (F : Fun K "law" "law" s_law f fd) : FnOk P w K mg base CX0 6 f fd ["_law_script"] (spLaw K) := by
  have G_law_patch : FnOk P w K mg base CX0 3 T.d_law_patch.f T.d_law_patch.fd ["_law_row_here", "_law_most"] (spLPatch K) := ok_law_patch T
  have G_law_row : FnOk P w K mg base CX0 3 T.d_law_row.f T.d_law_row.fd ["_law_piece"] spLRow := ok_law_row T
  have G_written : FnOk P w K mg base CX0 4 T.d_written.f T.d_written.fd ["patch"] spWritten := ok_written T
  have G_read : FnOk P w K mg base CX0 4 T.d_read.f T.d_read.fd ["text"] spReadT := ok_read T
  refine F.ok sc_law (fun vs H Q E h => ?_) (fun cdv A outer s H vs Q E hr h => ?_)
  · obtain ⟨a, ns, rfl, _⟩ := h
    rfl
  · obtain ⟨a, ns, rfl, hS, hl, k⟩ := h
    refine ⟨_, (pss_cons 
      (ps_set (i := 1) sc_law.nd rfl (Or.inl rfl) (pe_lst (pa_cons (pv 0) (pa_cons pe_int (pa_cons pe_int (pa_cons pe_int pa_nil)))))) (pss_cons 
      (ps_for PassesOwn.never rfl (pi_range1 (by rfl) T.b_range (pa_cons pe_int pa_nil)) (pg_name (i := 2) sc_law.nd rfl (Or.inl rfl)) (pss_cons 
      (ps_set (i := 3) sc_law.nd rfl (Or.inl rfl) (pe_call G_law_patch (hr.mono (by decide)) rfl T.d_law_patch.m T.d_law_patch.F.kp T.d_law_patch.b .nil pass0 (pa_cons (pv 1) (pa_cons pe_int pa_nil)))) (pss_cons 
      (ps_set (i := 4) sc_law.nd rfl (Or.inl rfl) (pe_m1 PySem.F.slot_str_join PySem.F.type_str_join mt_join pe_str (pe_lc (own := [("_law_piece", 5)]) (g := gName 5) (tt := tYes) rfl sc_law.nd (pi_tup (pv 3)) (blkOk_by (own := [("_law_piece", 5)]) (N := ["_law_script", "_law_row_here", "_law_turn", "_law_patch_here", "_law_due", "_law_piece", "_law_once"]) (sc := defScope s_law) (by decide +kernel)) (fun _ _ _ _ _ => (pg_name (i := 5) sc_law.nd rfl (Or.inl rfl))) (fun _ _ _ _ _ => pts_nil) (fun _ _ _ _ _ => (pe_call G_law_row (hr.mono (by decide)) rfl T.d_law_row.m T.d_law_row.F.kp T.d_law_row.b .nil pass0 (pa_cons (pv 5) pa_nil)))))) (pss_one 
      (ps_for PassesOwn.never rfl (pi_range1 (by rfl) T.b_range (pa_cons pe_int pa_nil)) (pg_name (i := 6) sc_law.nd rfl (Or.inl rfl)) (pss_one 
      (ps_if (PW.pt (pw_or (pt_cmpR op_ne (pe_call G_written (hr.mono (by decide)) rfl T.d_written.m T.d_written.F.kp T.d_written.b .nil pass0 (pa_cons (pv 3) pa_nil)) (pv 4) (nomark _)) (pw_or (pt_cmpR (op_neS hr.units) (pe_call G_read (hr.mono (by decide)) rfl T.d_read.m T.d_read.F.kp T.d_read.b .nil pass0 (pa_cons (pv 4) pa_nil)) (pv 3) (nomark _)) (pw_or1 (pt_not (pt_val (pe_callB call_isi (by rfl) T.b_isinstance (by decide +kernel) (pa_cons (pe_call G_read (hr.mono (by decide)) rfl T.d_read.m T.d_read.F.kp T.d_read.b .nil pass0 (pa_cons (pv 4) pa_nil)) (pa_cons (pe_bltn (v := .ty "tuple") (by rfl) T.b_tuple (by decide +kernel) rfl) pa_nil))))))))) (pss_one 
      (ps_ret pe_bl)) pss_nil))))))) (pss_one 
      (ps_ret pe_bl)))), ?_⟩
    refine ⟨_, rfl, sizeS (by show 4 ≤ 100000; decide), fun d hd => ?_⟩
    have D0 : Dice K a ns (upd H d (.lst [.ref a, .int 0, .int 0, .int 0])) d := ⟨Same.seq (Same.new hd) hS, hl, 0, 0, 0, by decide, upd_same⟩
    generalize upd H d (.lst [.ref a, .int 0, .int 0, .int 0]) = H1 at D0 ⊢
    refine ⟨5, rfl, by decide, by decide, for_range (lo := 0) (n := 5) (fun i σ H2 => ∃ v2 v3 v4 v5 v6 : Option V, σ = [some (.ref a), some (.ref d), v2, v3, v4, v5, v6] ∧ Dice K a ns H2 d)
      ⟨_, _, _, _, _, rfl, D0⟩ ?_ ?_⟩
    · rintro i σ H2 hi ⟨v2, v3, v4, v5, v6, rfl, D2⟩
      refine ⟨_, rfl, a, ns, d, 12, rfl, D2, by decide, by decide, fun H3 v rows b3 D3 hP hG => ?_⟩
      have few := hG.nat
      obtain ⟨p, vs, rfl, hv, hpr⟩ := id hP
      refine ⟨⟨_, rfl⟩, _, rfl, p, rfl, ⟨vs, SqT.of hv⟩, fun C hC => lc_tup (K := K) (a := p) (xs := vs) (fun i H4 => Same H3 H4 ∧ H4 C = some (.lst (strsV ((rows.take i).map rowText))))
        ⟨Same.new hC, upd_same⟩ (fun i H4 _ ⟨s4, _⟩ => SqT.of (s4 _ _ hv)) ?_ ?_⟩
      · rintro i x H4 hi ⟨s4, hd⟩
        obtain ⟨r, hr1, q, rfl, hq⟩ := pairedAt hpr hi
        obtain ⟨o1, o2⟩ := hG.each r (List.mem_of_getElem? hr1)
        have il := (List.getElem?_eq_some_iff.mp hr1).1
        refine ⟨rfl, _, rfl, q, r, rfl, s4 _ _ hq, o1, o2, fun H5 s5 => ?_⟩
        refine ⟨_, s5 _ _ hd, sizeL ?_, fun b o z => ?_, ?_⟩
        · unfold strsV
          rw [List.length_map, List.length_map, List.length_take]
          omega
        · rw [upd_ne (ne_of_none z hC)]
          exact s5 _ _ (s4 _ _ z)
        · rw [upd_same, take_snoc hr1, List.map_append]
          unfold strsV
          rw [List.map_append]
          rfl
      · rintro H4 ⟨s4, hd⟩
        rw [Paired.length hpr, List.take_length] at hd
        refine ⟨_, C, rows.map rowText, rfl, rfl, .inl (SqL.of hd), text_room hG.each few, ?_⟩
        show (_ : Prop)
        refine ⟨2, rfl, by decide, by decide, for_range (lo := 0) (n := 2) (fun i σ H5 => ∃ w2 w5 w6 : Option V, σ = [some (.ref a), some (.ref d), w2, some (.ref p), some (.str (patchText rows)), w5, w6] ∧ Same H4 H5)
          ⟨_, _, _, rfl, fun _ _ z => z⟩ ?_ ?_⟩
        · rintro j σ H5 hj ⟨w2, w5, w6, rfl, s5⟩
          have hP5 : PatchAt H5 (.ref p) rows := hP.tups (Same.tups (s4.trans s5))
          refine ⟨_, rfl, _, rows, rfl, hP5, hG, fun H6 s6 => ?_⟩
          refine ⟨_, rfl, rfl, _, rfl, (if_neg (by simp)).mpr ?_⟩
          refine ⟨_, rfl, rows, rfl, hG, fun H7 u s7 hu7 => ?_⟩
          obtain ⟨t, us, rfl, hu, hpu⟩ := hu7
          have s57 : Same H3 H7 := ((s4.trans s5).trans s6).trans s7
          have hv7 := s57 _ _ hv
          have hpr7 : Paired (PieceV H7) vs rows := pairedMap hpr fun _ _ x => x.tups (Same.tups s57)
          refine ⟨_, rfl, t, p, us, vs, rfl, rfl, .inl ⟨SqT.of hu, SqT.of hv7⟩, Sd.pairs (F := PieceV H7) (fun v u r a b => Sd.piece a b) hpu hpr7, _, rfl, (if_neg (by decide)).mpr ?_⟩
          refine ⟨_, rfl, rows, rfl, hG, fun H8 u8 s8 hu8 => ?_⟩
          obtain ⟨t8, us8, rfl, hu8, _⟩ := hu8
          refine ⟨_, _, _, _, _, rfl, .ty "tuple", .base (.tup hu8), if_pos rfl, ?_⟩
          refine ⟨_, rfl, ite2 (fun h => absurd h (by decide)) fun _ => ?_⟩
          exact ⟨_, _, _, rfl, (s5.trans s6).trans (s7.trans s8)⟩
        · rintro σ H5 ⟨w2, w5, w6, rfl, s5⟩
          exact ⟨_, _, _, _, _, rfl, D3.same (s4.trans s5)⟩
    · rintro σ H2 _
      exact k H2
end
theorem all_mk {l : PySem.W.OpenLaw} {w : World} {K : PySem.W.Frag} {h : Heap} {mg : Str → Option Value} {fa f0 f1 f2 f3 f4 f5 f6 f7 f8 f9 f10 f11 f12 f13 f14 f15 f16 f17 : Addr} (X : K.In h) (G : h.Ns mainGlobals mg) (hfa : mg "law" = some (.ref fa))
    {od0 an0 od1 an1 od2 an2 od3 an3 od4 an4 od5 an5 od6 an6 od7 an7 od8 an8 od9 an9 od10 an10 od11 an11 od12 an12 od13 an13 od14 an14 od15 an15 od16 an16 od17 an17 : Option Addr} {sl0 sl1 sl2 sl3 sl4 sl5 sl6 sl7 sl8 sl9 sl10 sl11 sl12 sl13 sl14 sl15 sl16 sl17 : Array (Option Value)} {oc0 kV0 dc0 pm0 cd0 ct0 oc1 kV1 dc1 pm1 cd1 ct1 oc2 kV2 dc2 pm2 cd2 ct2 oc3 kV3 dc3 pm3 cd3 ct3 oc4 kV4 dc4 pm4 cd4 ct4 oc5 kV5 dc5 pm5 cd5 ct5 oc6 kV6 dc6 pm6 cd6 ct6 oc7 kV7 dc7 pm7 cd7 ct7 oc8 kV8 dc8 pm8 cd8 ct8 oc9 kV9 dc9 pm9 cd9 ct9 oc10 kV10 dc10 pm10 cd10 ct10 oc11 kV11 dc11 pm11 cd11 ct11 oc12 kV12 dc12 pm12 cd12 ct12 oc13 kV13 dc13 pm13 cd13 ct13 oc14 kV14 dc14 pm14 cd14 ct14 oc15 kV15 dc15 pm15 cd15 ct15 oc16 kV16 dc16 pm16 cd16 ct16 oc17 kV17 dc17 pm17 cd17 ct17 : Value}
    (a0 : PySem.W.nsIn K mainGlobals "bytes_of" = some (some (.ref f0)))
    (l0 : K.lookup f0 = some ⟨oc0, od0, .func (PySem.W.fnOf "bytes_of" "bytes_of" (defArgs s_bytes_of) (defBody s_bytes_of) (defScope s_bytes_of) .none kV0 dc0 pm0 an0 cd0 ct0), sl0⟩)
    (c0 : PySem.W.codeIn K cd0 "bytes_of" = true) (k0 : PySem.W.keepIn K (.ref f0) = true)
    (a1 : PySem.W.nsIn K mainGlobals "numbers_of" = some (some (.ref f1)))
    (l1 : K.lookup f1 = some ⟨oc1, od1, .func (PySem.W.fnOf "numbers_of" "numbers_of" (defArgs s_numbers_of) (defBody s_numbers_of) (defScope s_numbers_of) .none kV1 dc1 pm1 an1 cd1 ct1), sl1⟩)
    (c1 : PySem.W.codeIn K cd1 "numbers_of" = true) (k1 : PySem.W.keepIn K (.ref f1) = true)
    (a2 : PySem.W.nsIn K mainGlobals "is_number" = some (some (.ref f2)))
    (l2 : K.lookup f2 = some ⟨oc2, od2, .func (PySem.W.fnOf "is_number" "is_number" (defArgs s_is_number) (defBody s_is_number) (defScope s_is_number) .none kV2 dc2 pm2 an2 cd2 ct2), sl2⟩)
    (c2 : PySem.W.codeIn K cd2 "is_number" = true) (k2 : PySem.W.keepIn K (.ref f2) = true)
    (a3 : PySem.W.nsIn K mainGlobals "can_be" = some (some (.ref f3)))
    (l3 : K.lookup f3 = some ⟨oc3, od3, .func (PySem.W.fnOf "can_be" "can_be" (defArgs s_can_be) (defBody s_can_be) (defScope s_can_be) .none kV3 dc3 pm3 an3 cd3 ct3), sl3⟩)
    (c3 : PySem.W.codeIn K cd3 "can_be" = true) (k3 : PySem.W.keepIn K (.ref f3) = true)
    (a4 : PySem.W.nsIn K mainGlobals "length_of" = some (some (.ref f4)))
    (l4 : K.lookup f4 = some ⟨oc4, od4, .func (PySem.W.fnOf "length_of" "length_of" (defArgs s_length_of) (defBody s_length_of) (defScope s_length_of) .none kV4 dc4 pm4 an4 cd4 ct4), sl4⟩)
    (c4 : PySem.W.codeIn K cd4 "length_of" = true) (k4 : PySem.W.keepIn K (.ref f4) = true)
    (a5 : PySem.W.nsIn K mainGlobals "check_patch" = some (some (.ref f5)))
    (l5 : K.lookup f5 = some ⟨oc5, od5, .func (PySem.W.fnOf "check_patch" "check_patch" (defArgs s_check_patch) (defBody s_check_patch) (defScope s_check_patch) .none kV5 dc5 pm5 an5 cd5 ct5), sl5⟩)
    (c5 : PySem.W.codeIn K cd5 "check_patch" = true) (k5 : PySem.W.keepIn K (.ref f5) = true)
    (a6 : PySem.W.nsIn K mainGlobals "written" = some (some (.ref f6)))
    (l6 : K.lookup f6 = some ⟨oc6, od6, .func (PySem.W.fnOf "written" "written" (defArgs s_written) (defBody s_written) (defScope s_written) .none kV6 dc6 pm6 an6 cd6 ct6), sl6⟩)
    (c6 : PySem.W.codeIn K cd6 "written" = true) (k6 : PySem.W.keepIn K (.ref f6) = true)
    (a7 : PySem.W.nsIn K mainGlobals "read" = some (some (.ref f7)))
    (l7 : K.lookup f7 = some ⟨oc7, od7, .func (PySem.W.fnOf "read" "read" (defArgs s_read) (defBody s_read) (defScope s_read) .none kV7 dc7 pm7 an7 cd7 ct7), sl7⟩)
    (c7 : PySem.W.codeIn K cd7 "read" = true) (k7 : PySem.W.keepIn K (.ref f7) = true)
    (a8 : PySem.W.nsIn K mainGlobals "rows_of" = some (some (.ref f8)))
    (l8 : K.lookup f8 = some ⟨oc8, od8, .func (PySem.W.fnOf "rows_of" "rows_of" (defArgs s_rows_of) (defBody s_rows_of) (defScope s_rows_of) .none kV8 dc8 pm8 an8 cd8 ct8), sl8⟩)
    (c8 : PySem.W.codeIn K cd8 "rows_of" = true) (k8 : PySem.W.keepIn K (.ref f8) = true)
    (a9 : PySem.W.nsIn K mainGlobals "row_of" = some (some (.ref f9)))
    (l9 : K.lookup f9 = some ⟨oc9, od9, .func (PySem.W.fnOf "row_of" "row_of" (defArgs s_row_of) (defBody s_row_of) (defScope s_row_of) .none kV9 dc9 pm9 an9 cd9 ct9), sl9⟩)
    (c9 : PySem.W.codeIn K cd9 "row_of" = true) (k9 : PySem.W.keepIn K (.ref f9) = true)
    (a10 : PySem.W.nsIn K mainGlobals "piece_of" = some (some (.ref f10)))
    (l10 : K.lookup f10 = some ⟨oc10, od10, .func (PySem.W.fnOf "piece_of" "piece_of" (defArgs s_piece_of) (defBody s_piece_of) (defScope s_piece_of) .none kV10 dc10 pm10 an10 cd10 ct10), sl10⟩)
    (c10 : PySem.W.codeIn K cd10 "piece_of" = true) (k10 : PySem.W.keepIn K (.ref f10) = true)
    (a11 : PySem.W.nsIn K mainGlobals "with_things" = some (some (.ref f11)))
    (l11 : K.lookup f11 = some ⟨oc11, od11, .func (PySem.W.fnOf "with_things" "with_things" (defArgs s_with_things) (defBody s_with_things) (defScope s_with_things) .none kV11 dc11 pm11 an11 cd11 ct11), sl11⟩)
    (c11 : PySem.W.codeIn K cd11 "with_things" = true) (k11 : PySem.W.keepIn K (.ref f11) = true)
    (a12 : PySem.W.nsIn K mainGlobals "with_bytes" = some (some (.ref f12)))
    (l12 : K.lookup f12 = some ⟨oc12, od12, .func (PySem.W.fnOf "with_bytes" "with_bytes" (defArgs s_with_bytes) (defBody s_with_bytes) (defScope s_with_bytes) .none kV12 dc12 pm12 an12 cd12 ct12), sl12⟩)
    (c12 : PySem.W.codeIn K cd12 "with_bytes" = true) (k12 : PySem.W.keepIn K (.ref f12) = true)
    (a13 : PySem.W.nsIn K mainGlobals "number_of" = some (some (.ref f13)))
    (l13 : K.lookup f13 = some ⟨oc13, od13, .func (PySem.W.fnOf "number_of" "number_of" (defArgs s_number_of) (defBody s_number_of) (defScope s_number_of) .none kV13 dc13 pm13 an13 cd13 ct13), sl13⟩)
    (c13 : PySem.W.codeIn K cd13 "number_of" = true) (k13 : PySem.W.keepIn K (.ref f13) = true)
    (a14 : PySem.W.nsIn K mainGlobals "_law_taken" = some (some (.ref f14)))
    (l14 : K.lookup f14 = some ⟨oc14, od14, .func (PySem.W.fnOf "_law_taken" "_law_taken" (defArgs s_law_taken) (defBody s_law_taken) (defScope s_law_taken) .none kV14 dc14 pm14 an14 cd14 ct14), sl14⟩)
    (c14 : PySem.W.codeIn K cd14 "_law_taken" = true) (k14 : PySem.W.keepIn K (.ref f14) = true)
    (a15 : PySem.W.nsIn K mainGlobals "_law_patch" = some (some (.ref f15)))
    (l15 : K.lookup f15 = some ⟨oc15, od15, .func (PySem.W.fnOf "_law_patch" "_law_patch" (defArgs s_law_patch) (defBody s_law_patch) (defScope s_law_patch) .none kV15 dc15 pm15 an15 cd15 ct15), sl15⟩)
    (c15 : PySem.W.codeIn K cd15 "_law_patch" = true) (k15 : PySem.W.keepIn K (.ref f15) = true)
    (a16 : PySem.W.nsIn K mainGlobals "_law_row" = some (some (.ref f16)))
    (l16 : K.lookup f16 = some ⟨oc16, od16, .func (PySem.W.fnOf "_law_row" "_law_row" (defArgs s_law_row) (defBody s_law_row) (defScope s_law_row) .none kV16 dc16 pm16 an16 cd16 ct16), sl16⟩)
    (c16 : PySem.W.codeIn K cd16 "_law_row" = true) (k16 : PySem.W.keepIn K (.ref f16) = true)
    (a17 : PySem.W.nsIn K mainGlobals "law" = some (some (.ref f17)))
    (l17 : K.lookup f17 = some ⟨oc17, od17, .func (PySem.W.fnOf "law" "law" (defArgs s_law) (defBody s_law) (defScope s_law) .none kV17 dc17 pm17 an17 cd17 ct17), sl17⟩)
    (c17 : PySem.W.codeIn K cd17 "law" = true) (k17 : PySem.W.keepIn K (.ref f17) = true)
    {t0 : Tok} (z0 : PySem.W.nsIn K mainGlobals "MOST" = some (some (.int 200 t0)))
    {t1 : Tok} (z1 : PySem.W.nsIn K mainGlobals "LAST_BYTE" = some (some (.int 255 t1)))
    {t2 : Tok} (z2 : PySem.W.nsIn K mainGlobals "FIGURES" = some (some (.str "0123456789" t2)))
    {t3 : Tok} (z3 : PySem.W.nsIn K mainGlobals "FEW" = some (some (.int 3 t3)))
    (y_all : PySem.W.nsIn K mainGlobals "all" = some none)
    (y_bool : PySem.W.nsIn K mainGlobals "bool" = some none)
    (y_bytes : PySem.W.nsIn K mainGlobals "bytes" = some none)
    (y_enumerate : PySem.W.nsIn K mainGlobals "enumerate" = some none)
    (y_int : PySem.W.nsIn K mainGlobals "int" = some none)
    (y_isinstance : PySem.W.nsIn K mainGlobals "isinstance" = some none)
    (y_len : PySem.W.nsIn K mainGlobals "len" = some none)
    (y_list : PySem.W.nsIn K mainGlobals "list" = some none)
    (y_min : PySem.W.nsIn K mainGlobals "min" = some none)
    (y_range : PySem.W.nsIn K mainGlobals "range" = some none)
    (y_str : PySem.W.nsIn K mainGlobals "str" = some none)
    (y_tuple : PySem.W.nsIn K mainGlobals "tuple" = some none)
    : ∃ fd : FuncData, (∀ (s : Shared) (v : Value), BindsTo s fd ⟨[v], []⟩ [("_law_script", v)]) ∧ ∀ base : Heap, K.In base → base.Ns mainGlobals mg → FnOk l.prog w K mg base CX0 6 fa fd ["_law_script"] (spLaw K) := by
  have e := hfa.symm.trans (PySem.W.mg_of X G a17)
  cases e
  have F0 := fun_mk (st := s_bytes_of) l0 c0 k0
  have b0 := F0.binds (ps := ["numbers"]) fun _ _ _ _ _ _ us hl => match us, hl with | [_], _ => rfl
  have F1 := fun_mk (st := s_numbers_of) l1 c1 k1
  have b1 := F1.binds (ps := ["some"]) fun _ _ _ _ _ _ us hl => match us, hl with | [_], _ => rfl
  have F2 := fun_mk (st := s_is_number) l2 c2 k2
  have b2 := F2.binds (ps := ["what", "least", "most"]) fun _ _ _ _ _ _ us hl => match us, hl with | [_, _, _], _ => rfl
  have F3 := fun_mk (st := s_can_be) l3 c3 k3
  have b3 := F3.binds (ps := ["piece"]) fun _ _ _ _ _ _ us hl => match us, hl with | [_], _ => rfl
  have F4 := fun_mk (st := s_length_of) l4 c4 k4
  have b4 := F4.binds (ps := ["piece"]) fun _ _ _ _ _ _ us hl => match us, hl with | [_], _ => rfl
  have F5 := fun_mk (st := s_check_patch) l5 c5 k5
  have b5 := F5.binds (ps := ["patch"]) fun _ _ _ _ _ _ us hl => match us, hl with | [_], _ => rfl
  have F6 := fun_mk (st := s_written) l6 c6 k6
  have b6 := F6.binds (ps := ["patch"]) fun _ _ _ _ _ _ us hl => match us, hl with | [_], _ => rfl
  have F7 := fun_mk (st := s_read) l7 c7 k7
  have b7 := F7.binds (ps := ["text"]) fun _ _ _ _ _ _ us hl => match us, hl with | [_], _ => rfl
  have F8 := fun_mk (st := s_rows_of) l8 c8 k8
  have b8 := F8.binds (ps := ["text"]) fun _ _ _ _ _ _ us hl => match us, hl with | [_], _ => rfl
  have F9 := fun_mk (st := s_row_of) l9 c9 k9
  have b9 := F9.binds (ps := ["things"]) fun _ _ _ _ _ _ us hl => match us, hl with | [_], _ => rfl
  have F10 := fun_mk (st := s_piece_of) l10 c10 k10
  have b10 := F10.binds (ps := ["words"]) fun _ _ _ _ _ _ us hl => match us, hl with | [_], _ => rfl
  have F11 := fun_mk (st := s_with_things) l11 c11 k11
  have b11 := F11.binds (ps := ["first", "things"]) fun _ _ _ _ _ _ us hl => match us, hl with | [_, _], _ => rfl
  have F12 := fun_mk (st := s_with_bytes) l12 c12 k12
  have b12 := F12.binds (ps := ["ahead", "words", "figures"]) fun _ _ _ _ _ _ us hl => match us, hl with | [_, _, _], _ => rfl
  have F13 := fun_mk (st := s_number_of) l13 c13 k13
  have b13 := F13.binds (ps := ["word", "figures"]) fun _ _ _ _ _ _ us hl => match us, hl with | [_, _], _ => rfl
  have F14 := fun_mk (st := s_law_taken) l14 c14 k14
  have b14 := F14.binds (ps := ["_law_row_here", "_law_many"]) fun _ _ _ _ _ _ us hl => match us, hl with | [_, _], _ => rfl
  have F15 := fun_mk (st := s_law_patch) l15 c15 k15
  have b15 := F15.binds (ps := ["_law_row_here", "_law_most"]) fun _ _ _ _ _ _ us hl => match us, hl with | [_, _], _ => rfl
  have F16 := fun_mk (st := s_law_row) l16 c16 k16
  have b16 := F16.binds (ps := ["_law_piece"]) fun _ _ _ _ _ _ us hl => match us, hl with | [_], _ => rfl
  have F17 := fun_mk (st := s_law) l17 c17 k17
  have T : All K mg := ⟨⟨f0, _, F0, PySem.W.mg_of X G a0, b0⟩, ⟨f1, _, F1, PySem.W.mg_of X G a1, b1⟩, ⟨f2, _, F2, PySem.W.mg_of X G a2, b2⟩, ⟨f3, _, F3, PySem.W.mg_of X G a3, b3⟩, ⟨f4, _, F4, PySem.W.mg_of X G a4, b4⟩, ⟨f5, _, F5, PySem.W.mg_of X G a5, b5⟩, ⟨f6, _, F6, PySem.W.mg_of X G a6, b6⟩, ⟨f7, _, F7, PySem.W.mg_of X G a7, b7⟩, ⟨f8, _, F8, PySem.W.mg_of X G a8, b8⟩, ⟨f9, _, F9, PySem.W.mg_of X G a9, b9⟩, ⟨f10, _, F10, PySem.W.mg_of X G a10, b10⟩, ⟨f11, _, F11, PySem.W.mg_of X G a11, b11⟩, ⟨f12, _, F12, PySem.W.mg_of X G a12, b12⟩, ⟨f13, _, F13, PySem.W.mg_of X G a13, b13⟩, ⟨f14, _, F14, PySem.W.mg_of X G a14, b14⟩, ⟨f15, _, F15, PySem.W.mg_of X G a15, b15⟩, ⟨f16, _, F16, PySem.W.mg_of X G a16, b16⟩, t0, PySem.W.mg_of X G z0, t1, PySem.W.mg_of X G z1, t2, PySem.W.mg_of X G z2, t3, PySem.W.mg_of X G z3, PySem.W.mg_none_of X G y_all, PySem.W.mg_none_of X G y_bool, PySem.W.mg_none_of X G y_bytes, PySem.W.mg_none_of X G y_enumerate, PySem.W.mg_none_of X G y_int, PySem.W.mg_none_of X G y_isinstance, PySem.W.mg_none_of X G y_len, PySem.W.mg_none_of X G y_list, PySem.W.mg_none_of X G y_min, PySem.W.mg_none_of X G y_range, PySem.W.mg_none_of X G y_str, PySem.W.mg_none_of X G y_tuple⟩
  exact ⟨PySem.W.fnOf "law" "law" (defArgs s_law) (defBody s_law) (defScope s_law) .none kV17 dc17 pm17 an17 cd17 ct17, fun s v => .of_eq rfl, fun base _ _ => ok_law T F17⟩
theorem walk {l : PySem.W.OpenLaw} {q : Program} {loose : List Str} {XP : (Str → Option Value) → Heap → Prop} {YP : World → Heap → Prop} {d : DefRec} {K : Params → PySem.W.Frag} (hn : l.most = some 63) (hdf : d.params.defaults = [])
    (hY : ∀ (w : World) (h : Heap), YP w h → (K w.params).In h)
    (F : ∀ (w : World) (mg : Str → Option Value) (fa : Addr) (h : Heap), (K w.params).In h → h.Ns mainGlobals mg → mg d.name = some (.ref fa) →
      ∃ fd : FuncData, (∀ (s : Shared) (u : Value), BindsTo s fd ⟨[u], []⟩ [("_law_script", u)]) ∧ ∀ base : Heap, (K w.params).In base → base.Ns mainGlobals mg → FnOk l.prog w (K w.params) mg base CX0 6 fa fd ["_law_script"] (spLaw (K w.params))) :
    PySem.W.WalkO q loose XP YP l.row.toRowW d [] (fun f vs => PySem.call f vs) :=
  L2.walk_of (n := 63) (k := 6) (x := "_law_script") (CX := fun _ => CX0) (sp := fun w => spLaw (K w.params)) hn (by decide) hdf ⟨rfl, by decide, by decide⟩ hY F (fun _ _ a ns hl _ hS => ⟨a, ns, rfl, hS, hl, fun _ => rfl⟩) fun _ _ _ _ _ z => z
end My
open PySem PySem.W PyProof.Rows
set_option maxRecDepth 100000 in
set_option maxHeartbeats 0 in
theorem PySem.Challenge.cw_patchover_k61_patches_written_and_read_holds : PySem.Challenge.rw_patchover_k61_patches_written_and_read.Holds := by
  w_on; o_law; k_head; (case hw => w_witness2)
  k_fill
  first | refine My.walk (l := PySem.Challenge.rw_patchover_k61_patches_written_and_read) rfl rfl (fun w h Y => PySem.W.kIn_of Y) ?F | refine My.walk (l := PySem.Challenge.rw_patchover_k61_patches_written_and_read) rfl rfl (fun w h Y => PySem.W.km_in_of Y) ?F
  case F =>
    intro w mg fa h KX G hmg
    refine' My.all_mk KX G hmg ?a0 ?l0 ?c0 ?k0 ?a1 ?l1 ?c1 ?k1 ?a2 ?l2 ?c2 ?k2 ?a3 ?l3 ?c3 ?k3 ?a4 ?l4 ?c4 ?k4 ?a5 ?l5 ?c5 ?k5 ?a6 ?l6 ?c6 ?k6 ?a7 ?l7 ?c7 ?k7 ?a8 ?l8 ?c8 ?k8 ?a9 ?l9 ?c9 ?k9 ?a10 ?l10 ?c10 ?k10 ?a11 ?l11 ?c11 ?k11 ?a12 ?l12 ?c12 ?k12 ?a13 ?l13 ?c13 ?k13 ?a14 ?l14 ?c14 ?k14 ?a15 ?l15 ?c15 ?k15 ?a16 ?l16 ?c16 ?k16 ?a17 ?l17 ?c17 ?k17 ?z0 ?z1 ?z2 ?z3 ?y_all ?y_bool ?y_bytes ?y_enumerate ?y_int ?y_isinstance ?y_len ?y_list ?y_min ?y_range ?y_str ?y_tuple
    (case a0 => k_is)
    (case l0 => k_is)
    (case c0 => k_is)
    (case k0 => k_is)
    (case a1 => k_is)
    (case l1 => k_is)
    (case c1 => k_is)
    (case k1 => k_is)
    (case a2 => k_is)
    (case l2 => k_is)
    (case c2 => k_is)
    (case k2 => k_is)
    (case a3 => k_is)
    (case l3 => k_is)
    (case c3 => k_is)
    (case k3 => k_is)
    (case a4 => k_is)
    (case l4 => k_is)
    (case c4 => k_is)
    (case k4 => k_is)
    (case a5 => k_is)
    (case l5 => k_is)
    (case c5 => k_is)
    (case k5 => k_is)
    (case a6 => k_is)
    (case l6 => k_is)
    (case c6 => k_is)
    (case k6 => k_is)
    (case a7 => k_is)
    (case l7 => k_is)
    (case c7 => k_is)
    (case k7 => k_is)
    (case a8 => k_is)
    (case l8 => k_is)
    (case c8 => k_is)
    (case k8 => k_is)
    (case a9 => k_is)
    (case l9 => k_is)
    (case c9 => k_is)
    (case k9 => k_is)
    (case a10 => k_is)
    (case l10 => k_is)
    (case c10 => k_is)
    (case k10 => k_is)
    (case a11 => k_is)
    (case l11 => k_is)
    (case c11 => k_is)
    (case k11 => k_is)
    (case a12 => k_is)
    (case l12 => k_is)
    (case c12 => k_is)
    (case k12 => k_is)
    (case a13 => k_is)
    (case l13 => k_is)
    (case c13 => k_is)
    (case k13 => k_is)
    (case a14 => k_is)
    (case l14 => k_is)
    (case c14 => k_is)
    (case k14 => k_is)
    (case a15 => k_is)
    (case l15 => k_is)
    (case c15 => k_is)
    (case k15 => k_is)
    (case a16 => k_is)
    (case l16 => k_is)
    (case c16 => k_is)
    (case k16 => k_is)
    (case a17 => k_is)
    (case l17 => k_is)
    (case c17 => k_is)
    (case k17 => k_is)
    (case z0 => k_is)
    (case z1 => k_is)
    (case z2 => k_is)
    (case z3 => k_is)
    (case y_all => k_is)
    (case y_bool => k_is)
    (case y_bytes => k_is)
    (case y_enumerate => k_is)
    (case y_int => k_is)
    (case y_isinstance => k_is)
    (case y_len => k_is)
    (case y_list => k_is)
    (case y_min => k_is)
    (case y_range => k_is)
    (case y_str => k_is)
    (case y_tuple => k_is)
