import PyProof.Rows.All
import Wide.All
import OpenK.AllK
import Wide.FinOn
import HandS.ForMost
import HandS.More
import HandS.IsInst
import HandS.Bytes
import HandS.Walk
import HandS.TupAny
import HandS.Style
import HandS.SortKw
import KE.GoesEnum
import KE.KMinKey
import HandS.WideBits
import HandS.Strs
import HandS.ToBytes
import PyProof.SumWalkG
import KE.KBytesWalk
import HandS.CallLocal
import HandS.Defaults
import HandS.Exc
import HandS.ExcIs
import HandS.ExcField
import HandS.TryOnly
import HandS.Lambda
import HandS.EndTab
import HandS.FStr
import HandS.WordsExc
import KE.KExcSuper
import KE.KExcIs
import PySem.Challenge.RW_patchover_k07_codes_refused
set_option Elab.async false
set_option linter.all false
set_option maxRecDepth 100000
set_option maxHeartbeats 4000000
namespace My
open PySem PySem.Spec PyProof.Rows L2
/-! ### the text by places -/
def top (i : Nat) : Stmt := PySem.Challenge.pw_patchover_k07_codes_refused.main.body.getD i (.Pass ⟨0, 0, 0, 0⟩)
abbrev s_bytes_of : Stmt := top 19
theorem sc_bytes_of : FnScope ["numbers", "number"] ["numbers"] (defScope s_bytes_of) := ⟨rfl, rfl, rfl, by decide +kernel, rfl, by decide +kernel, by decide +kernel⟩
abbrev s_numbers_of : Stmt := top 20
theorem sc_numbers_of : FnScope ["some"] ["some"] (defScope s_numbers_of) := ⟨rfl, rfl, rfl, by decide +kernel, rfl, by decide +kernel, by decide +kernel⟩
abbrev s_is_number : Stmt := top 21
theorem sc_is_number : FnScope ["what", "least", "most"] ["what", "least", "most"] (defScope s_is_number) := ⟨rfl, rfl, rfl, by decide +kernel, rfl, by decide +kernel, by decide +kernel⟩
abbrev s_can_be : Stmt := top 22
theorem sc_can_be : FnScope ["piece", "word", "some", "first", "many"] ["piece"] (defScope s_can_be) := ⟨rfl, rfl, rfl, by decide +kernel, rfl, by decide +kernel, by decide +kernel⟩
abbrev s_length_of : Stmt := top 23
theorem sc_length_of : FnScope ["piece"] ["piece"] (defScope s_length_of) := ⟨rfl, rfl, rfl, by decide +kernel, rfl, by decide +kernel, by decide +kernel⟩
abbrev s_check_patch : Stmt := top 24
theorem sc_check_patch : FnScope ["patch", "total", "at", "piece"] ["patch"] (defScope s_check_patch) := ⟨rfl, rfl, rfl, by decide +kernel, rfl, by decide +kernel, by decide +kernel⟩
abbrev s_decoded : Stmt := top 31
theorem sc_decoded : FnScope ["some", "patch", "end"] ["some"] (defScope s_decoded) := ⟨rfl, rfl, rfl, by decide +kernel, rfl, by decide +kernel, by decide +kernel⟩
abbrev s_check_of : Stmt := top 32
theorem sc_check_of : FnScope ["some"] ["some"] (defScope s_check_of) := ⟨rfl, rfl, rfl, by decide +kernel, rfl, by decide +kernel, by decide +kernel⟩
abbrev s_code_at : Stmt := top 33
theorem sc_code_at : FnScope ["some", "begin", "many", "place", "pieces"] ["some", "begin"] (defScope s_code_at) := ⟨rfl, rfl, rfl, by decide +kernel, rfl, by decide +kernel, by decide +kernel⟩
abbrev s_several_at : Stmt := top 34
theorem sc_several_at : FnScope ["one_at", "some", "place", "many", "told", "_", "one"] ["one_at", "some", "place", "many"] (defScope s_several_at) := ⟨rfl, rfl, rfl, by decide +kernel, rfl, by decide +kernel, by decide +kernel⟩
abbrev s_check_at : Stmt := top 35
theorem sc_check_at : FnScope ["some", "begin", "place"] ["some", "begin", "place"] (defScope s_check_at) := ⟨rfl, rfl, rfl, by decide +kernel, rfl, by decide +kernel, by decide +kernel⟩
abbrev s_byte_at : Stmt := top 36
theorem sc_byte_at : FnScope ["some", "place"] ["some", "place"] (defScope s_byte_at) := ⟨rfl, rfl, rfl, by decide +kernel, rfl, by decide +kernel, by decide +kernel⟩
abbrev s_bytes_at : Stmt := top 37
theorem sc_bytes_at : FnScope ["some", "place", "many"] ["some", "place", "many"] (defScope s_bytes_at) := ⟨rfl, rfl, rfl, by decide +kernel, rfl, by decide +kernel, by decide +kernel⟩
abbrev s_number_at : Stmt := top 38
theorem sc_number_at : FnScope ["some", "begin", "most", "number", "worth", "place", "byte"] ["some", "begin", "most"] (defScope s_number_at) := ⟨rfl, rfl, rfl, by decide +kernel, rfl, by decide +kernel, by decide +kernel⟩
abbrev s_piece_at : Stmt := top 39
theorem sc_piece_at : FnScope ["some", "place", "number", "behind", "many", "word", "begin", "brought"] ["some", "place"] (defScope s_piece_at) := ⟨rfl, rfl, rfl, by decide +kernel, rfl, by decide +kernel, by decide +kernel⟩
abbrev s_needs : Stmt := top 41
theorem sc_needs : FnScope ["patch", "piece"] ["patch"] (defScope s_needs) := ⟨rfl, rfl, rfl, by decide +kernel, rfl, by decide +kernel, by decide +kernel⟩
abbrev s_law_dice : Stmt := top 43
theorem sc_law_dice : FnScope ["_law_script", "_law_mixed", "_law_cell"] ["_law_script"] (defScope s_law_dice) := ⟨rfl, rfl, rfl, by decide +kernel, rfl, by decide +kernel, by decide +kernel⟩
abbrev s_law_next : Stmt := top 44
theorem sc_law_next : FnScope ["_law_dice_here", "_law_many", "_law_found", "_law_cell"] ["_law_dice_here", "_law_many"] (defScope s_law_next) := ⟨rfl, rfl, rfl, by decide +kernel, rfl, by decide +kernel, by decide +kernel⟩
abbrev s_law_like : Stmt := top 45
theorem sc_law_like : FnScope ["_law_found", "_law_due", "_law_k"] ["_law_found", "_law_due"] (defScope s_law_like) := ⟨rfl, rfl, rfl, by decide +kernel, rfl, by decide +kernel, by decide +kernel⟩
abbrev s_law_told : Stmt := top 46
theorem sc_law_told : FnScope ["_law_work", "e", "_law_some", "_law_terms", "_law_term"] ["_law_work"] (defScope s_law_told) := ⟨rfl, rfl, rfl, by decide +kernel, rfl, by decide +kernel, by decide +kernel⟩
abbrev s_law_rows : Stmt := top 47
theorem sc_law_rows : FnScope ["_law_d", "_law_count", "_law_most", "_law_rows_here", "_law_left", "_law_turn", "_law_n", "_law_pick", "_law_k"] ["_law_d", "_law_count", "_law_most"] (defScope s_law_rows) := ⟨rfl, rfl, rfl, by decide +kernel, rfl, by decide +kernel, by decide +kernel⟩
abbrev s_law_handed : Stmt := top 48
theorem sc_law_handed : FnScope ["_law_rows_here", "_law_found", "_law_row"] ["_law_rows_here"] (defScope s_law_handed) := ⟨rfl, rfl, rfl, by decide +kernel, rfl, by decide +kernel, by decide +kernel⟩
abbrev s_law_size : Stmt := top 49
theorem sc_law_size : FnScope ["_law_row"] ["_law_row"] (defScope s_law_size) := ⟨rfl, rfl, rfl, by decide +kernel, rfl, by decide +kernel, by decide +kernel⟩
abbrev s_law_is_patch : Stmt := top 50
theorem sc_law_is_patch : FnScope ["_law_told_here", "_law_rows_here", "_law_one", "_law_row"] ["_law_told_here", "_law_rows_here"] (defScope s_law_is_patch) := ⟨rfl, rfl, rfl, by decide +kernel, rfl, by decide +kernel, by decide +kernel⟩
abbrev s_law_number : Stmt := top 51
theorem sc_law_number : FnScope ["_law_n"] ["_law_n"] (defScope s_law_number) := ⟨rfl, rfl, rfl, by decide +kernel, rfl, by decide +kernel, by decide +kernel⟩
abbrev s_law_code : Stmt := top 52
theorem sc_law_code : FnScope ["_law_rows_here", "_law_found", "_law_row"] ["_law_rows_here"] (defScope s_law_code) := ⟨rfl, rfl, rfl, by decide +kernel, rfl, by decide +kernel, by decide +kernel⟩
abbrev s_law_first : Stmt := top 53
theorem sc_law_first : FnScope ["_law_some", "_law_at"] ["_law_some", "_law_at"] (defScope s_law_first) := ⟨rfl, rfl, rfl, by decide +kernel, rfl, by decide +kernel, by decide +kernel⟩
abbrev s_law_parsed : Stmt := top 54
theorem sc_law_parsed : FnScope ["_law_some", "_law_count", "_law_at", "_law_rows_here", "_law_turn", "_law_begin", "_law_head", "_law_n", "_law_kind", "_law_place", "_law_size_of"] ["_law_some"] (defScope s_law_parsed) := ⟨rfl, rfl, rfl, by decide +kernel, rfl, by decide +kernel, by decide +kernel⟩
abbrev s_law : Stmt := top 55
theorem sc_law : FnScope ["_law_script", "_law_d", "_law_turn", "_law_code_here", "_law_k", "_law_pick", "_law_place", "_law_rows_here", "_law_found", "_law_handed_here", "_law_due"] ["_law_script"] (defScope s_law) := ⟨rfl, rfl, rfl, by decide +kernel, rfl, by decide +kernel, by decide +kernel⟩
structure Df (K : PySem.W.Frag) (mg : Str → Option Value) (x : Str) (st : Stmt) (ps : List Str) where
  f : Addr
  fd : FuncData
  F : Fun K x x st f fd
  m : mg x = some (.ref f)
  b : Binds K fd ps []
structure DfD (K : PySem.W.Frag) (mg : Str → Option Value) (x : Str) (st : Stmt) (ps : List Str) (dvs : List V) where
  f : Addr
  fd : FuncData
  F : FunD K x x (defArgs st) (defBody st) (defScope st) dvs [] f fd
  m : mg x = some (.ref f)
  b : ∃ ds, Vals dvs ds ∧ Binds K fd ps ds
structure All (K : PySem.W.Frag) (mg : Str → Option Value) where
  d_bytes_of : Df K mg "bytes_of" s_bytes_of ["numbers"]
  d_numbers_of : Df K mg "numbers_of" s_numbers_of ["some"]
  d_is_number : Df K mg "is_number" s_is_number ["what", "least", "most"]
  d_can_be : Df K mg "can_be" s_can_be ["piece"]
  d_length_of : Df K mg "length_of" s_length_of ["piece"]
  d_check_patch : Df K mg "check_patch" s_check_patch ["patch"]
  d_decoded : Df K mg "decoded" s_decoded ["some"]
  d_check_of : Df K mg "check_of" s_check_of ["some"]
  d_code_at : Df K mg "code_at" s_code_at ["some", "begin"]
  d_several_at : Df K mg "several_at" s_several_at ["one_at", "some", "place", "many"]
  d_check_at : Df K mg "check_at" s_check_at ["some", "begin", "place"]
  d_byte_at : Df K mg "byte_at" s_byte_at ["some", "place"]
  d_bytes_at : Df K mg "bytes_at" s_bytes_at ["some", "place", "many"]
  d_number_at : DfD K mg "number_at" s_number_at ["some", "begin", "most"] [.int 2]
  d_piece_at : Df K mg "piece_at" s_piece_at ["some", "place"]
  d_needs : Df K mg "needs" s_needs ["patch"]
  d_law_dice : Df K mg "_law_dice" s_law_dice ["_law_script"]
  d_law_next : Df K mg "_law_next" s_law_next ["_law_dice_here", "_law_many"]
  d_law_like : Df K mg "_law_like" s_law_like ["_law_found", "_law_due"]
  d_law_told : Df K mg "_law_told" s_law_told ["_law_work"]
  d_law_rows : Df K mg "_law_rows" s_law_rows ["_law_d", "_law_count", "_law_most"]
  d_law_handed : Df K mg "_law_handed" s_law_handed ["_law_rows_here"]
  d_law_size : Df K mg "_law_size" s_law_size ["_law_row"]
  d_law_is_patch : Df K mg "_law_is_patch" s_law_is_patch ["_law_told_here", "_law_rows_here"]
  d_law_number : Df K mg "_law_number" s_law_number ["_law_n"]
  d_law_code : Df K mg "_law_code" s_law_code ["_law_rows_here"]
  d_law_first : Df K mg "_law_first" s_law_first ["_law_some", "_law_at"]
  d_law_parsed : Df K mg "_law_parsed" s_law_parsed ["_law_some"]
  t_MOST : Tok
  c_MOST : mg "MOST" = some (.int 200 t_MOST)
  t_LAST_BYTE : Tok
  c_LAST_BYTE : mg "LAST_BYTE" = some (.int 255 t_LAST_BYTE)
  a_WORDS : Addr
  c_WORDS : mg "WORDS" = some (.ref a_WORDS)
  v_WORDS : ∀ H : Hp, SqT K H a_WORDS [.str "copy", .str "bring", .str "run"]
  w_WORDS : ∃ o, K.lookup a_WORDS = some o ∧ o.cls = .type "tuple" ∧ o.dict = none
  t_NO_WORD : Tok
  c_NO_WORD : mg "NO_WORD" = some (.int 3 t_NO_WORD)
  t_SEVENS : Tok
  c_SEVENS : mg "SEVENS" = some (.int 128 t_SEVENS)
  t_MOST_SEVENS : Tok
  c_MOST_SEVENS : mg "MOST_SEVENS" = some (.int 2 t_MOST_SEVENS)
  t_CHECK : Tok
  c_CHECK : mg "CHECK" = some (.int 251 t_CHECK)
  k_PatchError : Addr
  m_PatchError : mg "PatchError" = some (.ref k_PatchError)
  k_BadEdition : Addr
  m_BadEdition : mg "BadEdition" = some (.ref k_BadEdition)
  k_BadPatch : Addr
  m_BadPatch : mg "BadPatch" = some (.ref k_BadPatch)
  k_Beyond : Addr
  m_Beyond : mg "Beyond" = some (.ref k_Beyond)
  k_BadCount : Addr
  m_BadCount : mg "BadCount" = some (.ref k_BadCount)
  k_BadMeet : Addr
  m_BadMeet : mg "BadMeet" = some (.ref k_BadMeet)
  k_BadCode : Addr
  m_BadCode : mg "BadCode" = some (.ref k_BadCode)
  k_TooMany : Addr
  m_TooMany : mg "TooMany" = some (.ref k_TooMany)
  k_BadPieces : Addr
  m_BadPieces : mg "BadPieces" = some (.ref k_BadPieces)
  k_BadOrder : Addr
  m_BadOrder : mg "BadOrder" = some (.ref k_BadOrder)
  k_BadMarks : Addr
  m_BadMarks : mg "BadMarks" = some (.ref k_BadMarks)
  k_Underway : Addr
  m_Underway : mg "Underway" = some (.ref k_Underway)
  k_Asleep : Addr
  m_Asleep : mg "Asleep" = some (.ref k_Asleep)
  k_Awake : Addr
  m_Awake : mg "Awake" = some (.ref k_Awake)
  k_BadCell : Addr
  m_BadCell : mg "BadCell" = some (.ref k_BadCell)
  b_bool : mg "bool" = none
  b_bytes : mg "bytes" = none
  b_enumerate : mg "enumerate" = none
  b_int : mg "int" = none
  b_isinstance : mg "isinstance" = none
  b_len : mg "len" = none
  b_list : mg "list" = none
  b_max : mg "max" = none
  b_min : mg "min" = none
  b_range : mg "range" = none
  b_str : mg "str" = none
  b_sum : mg "sum" = none
  b_tuple : mg "tuple" = none
  b_zip : mg "zip" = none
/-! ### rules within a comprehension's block -/
theorem ixlK {X : Cx} {K : PySem.W.Frag} (h : X.K = K) : IxR X (rIxL K) := by subst h; exact ix_list
theorem ixtK {X : Cx} {K : PySem.W.Frag} (h : X.K = K) : IxR X (rIxT K) := by subst h; exact ix_tup
theorem ixsK {X : Cx} {K : PySem.W.Frag} (h : X.K = K) : IxR X (rIx K) := by subst h; exact ix_seq
theorem lenK {X : Cx} {K : PySem.W.Frag} (h : X.K = K) : CallR X (.builtin "len") (fun xs H Q => ∃ x n, xs = [x] ∧ LenV K x H n ∧ Q (.int n) H) := by subst h; exact call_len
theorem pg_tupK {X : Cx} {K : PySem.W.Frag} {es : List Expr} {k : Nat} {t : TGs} {n : Nat} {pos : Pos} (hK : X.K = K) (hc : X.calm = true) (h : PGs X es t)
    (hn : (assignEach es X.env).length = n := by rfl) (hst : (assignEach es X.env).findIdx? (·.1) = none := by rfl) : PG X (.Tuple es k pos) (gTup K n t) := by subst hK; exact pg_tup hc h hn hst
/-! ### heaps -/
/-- all but d is as it was -/
def But (d : Addr) (H H' : Hp) : Prop := ∀ b o, b ≠ d → H b = some o → H' b = some o
theorem But.refl (d : Addr) (H : Hp) : But d H H := fun _ _ _ h => h
theorem But.trans {d : Addr} {H H1 H2 : Hp} (a : But d H H1) (b : But d H1 H2) : But d H H2 := fun c o n h => b c o n (a c o n h)
theorem Same.but {d : Addr} {H H' : Hp} (a : Same H H') : But d H H' := fun c o _ h => a c o h
theorem But.put {d : Addr} {H : Hp} {o : HO} : But d H (upd H d o) := fun c u n h => by rw [upd_ne n]; exact h
theorem Same.new {p : Addr} {H : Hp} {o : HO} (n : H p = none) : Same H (upd H p o) := fun c u h => by rw [upd_ne (ne_of_none h n)]; exact h
theorem But.new {d p : Addr} {H : Hp} {o : HO} (n : H p = none) : But d H (upd H p o) := Same.but (Same.new n)
theorem But.at {d p : Addr} {H H' : Hp} {o u : HO} (b : But d H H') (hd : H d = some u) (h : H p = some o) (hn : o ≠ u) : H' p = some o := b p o (ne_of h hd hn) h
theorem But.free {d p : Addr} {H H' : Hp} {u : HO} (b : But d H H') (hd : H d = some u) (h : H' d = some u ∨ ∃ u', H' d = some u') (n : H' p = none) : H p = none := by
  cases e : H p with
  | none => rfl
  | some o =>
    by_cases hp : p = d
    · subst hp
      rcases h with h | ⟨_, h⟩ <;> (rw [n] at h; cases h)
    · rw [b p o hp e] at n; cases n
theorem tup_lst {xs ys : List V} : HO.tup xs ≠ HO.lst ys := by intro z; cases z
theorem sizeS {n : Nat} (h : n ≤ 100000) : n ≤ sizeLine := by rw [sizeLine_eq]; omega
theorem sizeL {n : Nat} (h : n ≤ 100000) : n < sizeLine := by rw [sizeLine_eq]; omega
/-! ### the dice -/
structure Dice (K : PySem.W.Frag) (a : Addr) (ns : List Int) (H : Hp) (d : Addr) : Prop where
  sq : SqL K H a (ns.map V.int)
  len : ns.length ≤ 63
  ex : ∃ p m g : Int, 0 ≤ p ∧ H d = some (.lst [.ref a, .int p, .int m, .int g])
theorem sq_but {K : PySem.W.Frag} {H H' : Hp} {a d : Addr} {ns : List Int} {x : Addr} {xs : List V} (b : But d H H') (hd : H d = some (.lst (.ref x :: xs))) (h : SqL K H a (ns.map V.int)) : SqL K H' a (ns.map V.int) := by
  rcases h with (h | ⟨o, h⟩) | h
  · refine .inl (.inl (b.at hd h ?_))
    intro z
    cases ns with
    | nil => cases z
    | cons n r => cases z
  · exact .inl (.inr ⟨o, b.at hd h (by intro z; cases z)⟩)
  · exact .inr h
section
variable {K : PySem.W.Frag} {a : Addr} {ns : List Int} {d : Addr}
theorem Dice.same {H H' : Hp} (D : Dice K a ns H d) (s : Same H H') : Dice K a ns H' d := by
  obtain ⟨h1, h2, p, m, g, h3, h4⟩ := D
  exact ⟨s.seq h1, h2, p, m, g, h3, s _ _ h4⟩
/-- the dice's list is no tuple, no list of ints -/
theorem Dice.is {H : Hp} (D : Dice K a ns H d) : ∃ xs, H d = some (.lst (.ref a :: xs)) := by
  obtain ⟨h1, h2, p, m, g, h3, h4⟩ := D
  exact ⟨_, h4⟩
theorem Dice.put {H : Hp} {p m g p' m' g' : Int} (h1 : SqL K H a (ns.map V.int)) (h2 : ns.length ≤ 63) (h3 : 0 ≤ p') (h4 : H d = some (.lst [.ref a, .int p, .int m, .int g])) :
    Dice K a ns (upd H d (.lst [.ref a, .int p', .int m', .int g'])) d :=
  ⟨sq_but But.put h4 h1, h2, p', m', g', h3, upd_same⟩
theorem tup_but {H H' : Hp} {p : Addr} {xs : List V} (D : Dice K a ns H d) (b : But d H H') (h : H p = some (.tup xs)) : H' p = some (.tup xs) := by
  obtain ⟨ys, e⟩ := D.is
  exact b.at e h tup_lst
theorem ints_but {H H' : Hp} {p : Addr} {ms : List Int} (D : Dice K a ns H d) (b : But d H H') (h : H p = some (.lst (ms.map V.int))) : H' p = some (.lst (ms.map V.int)) := by
  obtain ⟨ys, e⟩ := D.is
  refine b.at e h ?_
  intro z
  cases ms with
  | nil => cases z
  | cons n r => cases z
theorem none_but {H H' : Hp} {p : Addr} (D : Dice K a ns H d) (D' : Dice K a ns H' d) (b : But d H H') (h : H' p = none) : H p = none := by
  obtain ⟨ys, e⟩ := D.is
  obtain ⟨ys', e'⟩ := D'.is
  exact b.free e (.inr ⟨_, e'⟩) h
theorem Dice.ne {H : Hp} {p : Addr} (D : Dice K a ns H d) (h : H p = none) : p ≠ d := by
  obtain ⟨ys, e⟩ := D.is
  exact (ne_of_none e h).symm
/-- what was made since H0 may be changed -/
theorem But.fresh {H0 H : Hp} {p : Addr} {o : HO} (b : But d H0 H) (h : H0 p = none) : But d H0 (upd H p o) := fun c u n e => by rw [upd_ne (ne_of_none e h)]; exact b c u n e
theorem Dice.fresh {H0 H : Hp} {p : Addr} {o : HO} (D0 : Dice K a ns H0 d) (b : But d H0 H) (h : H0 p = none) (D : Dice K a ns H d) : Dice K a ns (upd H p o) d := by
  obtain ⟨ys, e⟩ := D0.is
  obtain ⟨h1, h2, q, m, g, h3, h4⟩ := D
  exact ⟨sq_but (But.fresh b h) e D0.sq, h2, q, m, g, h3, by rw [upd_ne (D0.ne h).symm]; exact h4⟩
end
/-- _law_dice(script) -/
def spDice (K : PySem.W.Frag) : Sp := fun vs H Q _ => ∃ (a : Addr) (ns : List Int), vs = [.ref a] ∧ SqL K H a (ns.map V.int) ∧ ns.length ≤ 63 ∧ ∀ H' d, Same H H' → H d = none → Dice K a ns H' d → Q (.ref d) H'
/-- _law_next(d, n): any number below n -/
def spNext (K : PySem.W.Frag) : Sp := fun vs H Q _ => ∃ (a : Addr) (ns : List Int) (d : Addr) (n : Int), vs = [.ref d, .int n] ∧ Dice K a ns H d ∧ 1 ≤ n ∧ n < 1073741824 ∧ ∀ H' r, But d H H' → Dice K a ns H' d → 0 ≤ r → r < n → Q (.int r) H'
section
variable {P : Program} {w : World} {K : PySem.W.Frag} {mg : Str → Option Value} {base : Heap}
theorem at_map {ns : List Int} {i : Nat} {x : V} (h : (ns.map V.int)[i]? = some x) : ∃ z, x = V.int z ∧ ns[i]? = some z := by
  rw [List.getElem?_map] at h
  cases e : ns[i]? with
  | none => rw [e] at h; cases h
  | some z => rw [e] at h; exact ⟨z, (Option.some.inj h).symm, rfl⟩
theorem ok_law_dice (T : All K mg) : FnOk P w K mg base CX0 1 T.d_law_dice.f T.d_law_dice.fd ["_law_script"] (spDice K) := by
  refine T.d_law_dice.F.ok sc_law_dice (fun vs H Q E h => ?_) (fun cdv A outer s H vs Q E hr h => ?_)
  · obtain ⟨a, ns, rfl, _⟩ := h
    rfl
  · obtain ⟨a, ns, rfl, hS, hl, k⟩ := h
    refine ⟨_, (pss_cons 
      (ps_set (i := 1) sc_law_dice.nd rfl (Or.inl rfl) pe_int) (pss_cons 
      (ps_for PassesOwn.never rfl (pi_list (pv 0)) (pg_name (i := 2) sc_law_dice.nd rfl (Or.inl rfl)) (pss_one 
      (ps_set (i := 1) sc_law_dice.nd rfl (Or.inl rfl) (pe_op op_mod (pe_op op_add (pe_op op_add (pe_op op_mul (pv 1) pe_int) (pe_op op_mul (pe_op op_mod (pe_callTy call_int1 (by rfl) T.b_int PyProof.Rows.boot_int (pa_cons (pv 2) pa_nil)) pe_int) pe_int)) pe_int) pe_int)))) (pss_one 
      (ps_ret (pe_lst (pa_cons (pv 0) (pa_cons pe_int (pa_cons (pe_op op_mul (pv 1) (pe_callTy call_int1 (by rfl) T.b_int PyProof.Rows.boot_int (pa_cons (pe_cmpR op_gt (pe_callB call_len (by rfl) T.b_len PySem.boot_len (pa_cons (pv 0) pa_nil)) pe_int (nomark _)) pa_nil))) (pa_cons pe_int pa_nil))))))))), ?_⟩
    refine ⟨_, rfl, a, rfl, ⟨_, hS⟩, for_list (K := K) (a := a) (xs := ns.map V.int) (fun i σ H' => ∃ (m : Int) (v : Option V), σ = [some (.ref a), some (.int m), v] ∧ H' = H ∧ 0 ≤ m ∧ m < 2147483647)
      ⟨0, none, rfl, rfl, by decide, by decide⟩ (fun i σ H' _ ⟨_, _, _, e, _⟩ => by rw [e]; exact hS) ?_ ?_⟩
    · rintro i y σ H' hi ⟨m, v, rfl, rfl, h0, h1⟩
      obtain ⟨z, rfl, _⟩ := at_map hi
      refine ⟨_, rfl, _, _, rfl, rfl, .inl ⟨by omega, by omega⟩, _, rfl, .inl ⟨_, rfl, _, _, rfl, rfl, (by show (0 : Int) < 2147483647; decide), ?_⟩⟩
      have b0 : 0 ≤ z % 2147483647 := Int.emod_nonneg _ (by decide)
      have b1 : z % 2147483647 < 2147483647 := Int.emod_lt_of_pos _ (by decide)
      refine ⟨_, _, rfl, rfl, .inl ⟨by omega, by omega⟩, _, _, rfl, rfl, _, _, rfl, rfl, _, _, rfl, rfl, (by show (0 : Int) < 2147483647; decide), ?_⟩
      exact ⟨_, _, rfl, rfl, Int.emod_nonneg _ (by decide), Int.emod_lt_of_pos _ (by decide)⟩
    · rintro σ H' ⟨m, v, rfl, rfl, h0, h1⟩
      refine ⟨_, rfl, _, rfl, _, rfl, _, ns.length, rfl, .inl ⟨_, hS, by rw [List.length_map]⟩, _, _, rfl, rfl, .inr ⟨_, rfl, _, _, rfl, rfl, .inl ⟨by omega, by omega⟩, sizeS (by show 4 ≤ 100000; decide), fun d hd => ?_⟩⟩
      exact k _ d (Same.new hd) hd ⟨(Same.new hd).seq hS, hl, 0, _, 0, by decide, upd_same⟩
theorem ok_law_next (T : All K mg) : FnOk P w K mg base CX0 1 T.d_law_next.f T.d_law_next.fd ["_law_dice_here", "_law_many"] (spNext K) := by
  refine T.d_law_next.F.ok sc_law_next (fun vs H Q E h => ?_) (fun cdv A outer s H vs Q E hr h => ?_)
  · obtain ⟨_, _, d, n, rfl, _⟩ := h
    rfl
  · obtain ⟨a, ns, d, n, rfl, ⟨hS, hl, p, m, g, hp, hd⟩, n1, n2, k⟩ := h
    refine ⟨_, (pss_cons 
      (ps_if (pt_cmpR op_gt (pe_ix ix_list (pv 0) pe_int (fun _ _ => rfl)) pe_int (nomark _)) (pss_cons 
      (ps_set (i := 2) sc_law_next.nd rfl (Or.inl rfl) (pe_op op_mod (pe_callTy call_int1 (by rfl) T.b_int PyProof.Rows.boot_int (pa_cons (pe_ix ix_list (pv 0) pe_int (fun _ _ => rfl)) pa_nil)) (pv 1))) (pss_cons 
      (ps_asg (pe_op op_fdiv (pe_ix ix_list (pv 0) pe_int (fun _ _ => rfl)) (pv 1)) (pg_sub (pv 0) pe_int set_list)) (pss_one 
      (ps_ret (pv 2))))) pss_nil) (pss_cons 
      (ps_asg (pe_op op_add (pe_ix ix_list (pv 0) pe_int (fun _ _ => rfl)) pe_int) (pg_sub (pv 0) pe_int set_list)) (pss_cons 
      (ps_if (pt_cmpR op_le (pe_ix ix_list (pv 0) pe_int (fun _ _ => rfl)) (pe_callB call_len (by rfl) T.b_len PySem.boot_len (pa_cons (pe_ix ix_list (pv 0) pe_int (fun _ _ => rfl)) pa_nil)) (nomark _)) (pss_cons 
      (ps_set (i := 3) sc_law_next.nd rfl (Or.inl rfl) (pe_ix ix_list (pe_ix ix_list (pv 0) pe_int (fun _ _ => rfl)) (pe_op op_sub (pe_ix ix_list (pv 0) pe_int (fun _ _ => rfl)) pe_int) (fun _ _ => rfl))) (pss_cons 
      (ps_asg (pe_ifExp (pt_cmpR op_ge (pv 3) (pe_op op_pow pe_int pe_int) (nomark _)) (pe_op op_fdiv (pv 3) (pv 1)) pe_int) (pg_sub (pv 0) pe_int set_list)) (pss_one 
      (ps_ret (pe_op op_mod (pe_callTy call_int1 (by rfl) T.b_int PyProof.Rows.boot_int (pa_cons (pv 3) pa_nil)) (pv 1)))))) pss_nil) (pss_cons 
      (ps_asg (pe_op op_mod (pe_callTy call_int1 (by rfl) T.b_int PyProof.Rows.boot_int (pa_cons (pe_op op_mul (pe_ix ix_list (pv 0) pe_int (fun _ _ => rfl)) pe_int) pa_nil)) pe_int) (pg_sub (pv 0) pe_int set_list)) (pss_one 
      (ps_ret (pe_op op_mod (pe_op op_fdiv (pe_ix ix_list (pv 0) pe_int (fun _ _ => rfl)) pe_int) (pv 1)))))))), ?_⟩
    have i0 : ∀ {x0 x1 x2 x3 : V}, atI [x0, x1, x2, x3] 0 = some x0 := rfl
    have i1 : ∀ {x0 x1 x2 x3 : V}, atI [x0, x1, x2, x3] 1 = some x1 := rfl
    have i2 : ∀ {x0 x1 x2 x3 : V}, atI [x0, x1, x2, x3] 2 = some x2 := rfl
    have i3 : ∀ {x0 x1 x2 x3 : V}, atI [x0, x1, x2, x3] 3 = some x3 := rfl
    have npos : 0 < n := by omega
    refine ⟨_, rfl, d, _, _, _, rfl, rfl, SqL.of hd, i3, _, _, rfl, rfl, _, rfl, ite2 (fun hg => ?_) fun hg => ?_⟩
    · refine ⟨_, rfl, d, _, _, _, rfl, rfl, SqL.of hd, i3, .inl ⟨_, rfl, _, rfl, _, _, rfl, rfl, npos, ?_⟩⟩
      refine ⟨_, rfl, d, _, _, _, rfl, rfl, SqL.of hd, i3, _, rfl, _, _, rfl, rfl, ⟨npos, n2⟩, _, rfl, d, _, _, _, rfl, rfl, hd, rfl, _, rfl, ?_⟩
      exact k _ _ But.put (Dice.put hS hl hp hd) (Int.emod_nonneg _ (by omega)) (Int.emod_lt_of_pos _ npos)
    · refine ⟨_, rfl, d, _, _, _, rfl, rfl, SqL.of hd, i1, _, _, rfl, rfl, _, rfl, d, _, _, _, rfl, rfl, hd, rfl, ?_⟩
      have hd1 : (upd H d (.lst [V.ref a, V.int (p + 1), V.int m, V.int g])) d = some (.lst [V.ref a, V.int (p + 1), V.int m, V.int g]) := upd_same
      have hS1 : SqL K (upd H d (.lst [V.ref a, V.int (p + 1), V.int m, V.int g])) a (ns.map V.int) := sq_but But.put hd hS
      refine ⟨_, rfl, d, _, _, _, rfl, rfl, SqL.of hd1, i1, _, rfl, d, _, _, _, rfl, rfl, SqL.of hd1, i0, _, _, rfl, .inl ⟨_, hS1, rfl⟩, _, _, rfl, rfl, _, rfl, ite2 (fun hc => ?_) fun hc => ?_⟩
      · have hc' : p + 1 ≤ (ns.length : Int) := by
          have := of_decide_eq_true hc
          rw [List.length_map] at this
          exact this
        obtain ⟨j, hj⟩ : ∃ j : Nat, p = (j : Int) := ⟨p.toNat, by omega⟩
        have hlt : j < ns.length := by omega
        have hat : atI (ns.map V.int) (p + 1 - 1) = some (V.int ns[j]) := at_of (j := j) (by omega) (by rw [List.getElem?_map, List.getElem?_eq_getElem hlt]; rfl)
        refine ⟨_, rfl, d, _, _, _, rfl, rfl, SqL.of hd1, i0, _, rfl, d, _, _, _, rfl, rfl, SqL.of hd1, i1, _, _, rfl, rfl, a, _, _, _, rfl, rfl, hS1, hat, ?_⟩
        refine ⟨_, rfl, _, _, rfl, rfl, ⟨by decide, by decide, by decide⟩, _, _, rfl, rfl, _, rfl, ite2 (fun hb => ?_) fun hb => ?_⟩
        · refine ⟨_, rfl, _, rfl, _, _, rfl, rfl, ⟨npos, n2⟩, _, rfl, d, _, _, _, rfl, rfl, hd1, rfl, ?_⟩
          refine ⟨_, rfl, .inl ⟨_, rfl, _, rfl, _, _, rfl, rfl, npos, ?_⟩⟩
          exact k _ _ (But.put.trans But.put) (Dice.put hS1 hl (by omega) hd1) (Int.emod_nonneg _ (by omega)) (Int.emod_lt_of_pos _ npos)
        · refine ⟨_, rfl, d, _, _, _, rfl, rfl, hd1, rfl, ?_⟩
          refine ⟨_, rfl, .inl ⟨_, rfl, _, rfl, _, _, rfl, rfl, npos, ?_⟩⟩
          exact k _ _ (But.put.trans But.put) (Dice.put hS1 hl (by omega) hd1) (Int.emod_nonneg _ (by omega)) (Int.emod_lt_of_pos _ npos)
      · refine ⟨_, rfl, d, _, _, _, rfl, rfl, SqL.of hd1, i2, _, _, rfl, rfl, .inr ⟨by decide, by decide⟩, .inl ⟨_, rfl, _, _, rfl, rfl, (by show (0 : Int) < 2147483647; decide), _, rfl, d, _, _, _, rfl, rfl, hd1, rfl, ?_⟩⟩
        have hd2 : (upd (upd H d (.lst [V.ref a, V.int (p + 1), V.int m, V.int g])) d (.lst [V.ref a, V.int (p + 1), V.int (m * 48271 % 2147483647), V.int g])) d = some (.lst [V.ref a, V.int (p + 1), V.int (m * 48271 % 2147483647), V.int g]) := upd_same
        refine ⟨_, rfl, d, _, _, _, rfl, rfl, SqL.of hd2, i2, _, _, rfl, rfl, ⟨by decide, by decide⟩, _, rfl, _, _, rfl, rfl, npos, ?_⟩
        exact k _ _ (But.put.trans But.put) (Dice.put hS1 hl (by omega) hd1) (Int.emod_nonneg _ (by omega)) (Int.emod_lt_of_pos _ npos)
end
/-! ### enumerate(tuple) -/
open AutoSeq1 (wpAny_loadPart') in
set_option maxHeartbeats 1000000 in
theorem meets_enumT (t : Addr) (items : Array Value) :
    Meets (Builtin.«enumerate.__new__» ⟨[.type "enumerate", .ref t], []⟩) (fun _ R s => s.heap.IsTuple t items ∧
      R (.ok (.ret (.ref (s.heap.push { cls := .type "tuple_iterator", data := .fields #[.ref t, .int 0 0] }).objs.size)))
        { s with heap := (s.heap.push { cls := .type "tuple_iterator", data := .fields #[.ref t, .int 0 0] }).push { cls := .type "enumerate", data := .fields #[.none, .bool false, .ref s.heap.objs.size, rawInt 0, .none, .none] } }) :=
  .of_wp fun prog w A R s h => by
    obtain ⟨hp, g, d, tk, os⟩ := s; obtain ⟨hl, h⟩ := h
    have hsub := sub_enumerate
    have q1 : ∀ {A' : Around} {E : Value → Shared → Prop} {Q : Value → Shared → Prop}, Q (.ref hp.objs.size) ⟨hp.push { cls := .type "tuple_iterator", data := .fields #[.ref t, .int 0 0] }, g, d, tk, os⟩ → wpAny (model prog w) A' (pyIter (.ref t)) Q E ⟨hp, g, d, tk, os⟩ :=
      fun q => (begins_tuple t items).iter prog w _ _ ⟨hp, g, d, tk, os⟩ _ hl q
    wp_walk using q1
    refine wpAny_stack_any fun st => wpAny_pure ?_
    split
    · rename_i c _ _ _ _ _
      cases (c == Value.type "enumerate")
      · wp_walk using q1
        exact ⟨_, rfl, h⟩
      · wp_walk using q1
        exact ⟨_, rfl, h⟩
    · wp_walk using q1
      exact ⟨_, rfl, h⟩
theorem call_enumT {prog : Program} {w : World} {A : Around} {E : Value → Shared → Prop} {s : Shared} {t : Addr} {items : Array Value} {Q : Value → Shared → Prop} (ht : s.heap.IsTuple t items)
    (h : ∀ h', IsEnum h' (s.heap.objs.size + 1) s.heap.objs.size 0 .none → h'.IsTupleIter s.heap.objs.size t 0 → h'.objs.size = s.heap.objs.size + 2 →
      (∀ b o, s.heap.get? b = some o → h'.get? b = some o) → Q (.ref (s.heap.objs.size + 1)) { s with heap := h' }) :
    wpAny (model prog w) A (call (.type "enumerate") [.ref t]) Q E s := by
  refine callType_new F.called_enumerate (by decide) (F.typeCall_enumerate_1 _) (F.newCall_enumerate_1 _) (fun obj => F.args_object_init_2 obj _) F.entry_enumerate_new
    (meets_enumT t items) ⟨ht, ?_⟩
  have hz : (s.heap.push { cls := .type "tuple_iterator", data := .fields #[.ref t, .int 0 0] }).objs.size = s.heap.objs.size + 1 := Heap.size_push ..
  show _ ∧ _
  rw [hz]
  have he : IsEnum ((s.heap.push { cls := .type "tuple_iterator", data := .fields #[.ref t, .int 0 0] }).push
      { cls := .type "enumerate", data := .fields #[.none, .bool false, .ref s.heap.objs.size, rawInt 0, .none, .none] }) (s.heap.objs.size + 1) s.heap.objs.size 0 .none := by
    have := Heap.get?_push_size (s.heap.push { cls := .type "tuple_iterator", data := .fields #[.ref t, .int 0 0] })
      (o := { cls := .type "enumerate", data := .fields #[.none, .bool false, .ref s.heap.objs.size, rawInt 0, .none, .none] }) rfl
    rw [hz] at this; exact this
  refine ⟨⟨_, he, rfl⟩, h _ he ⟨_, Heap.get?_push_of_some _ (Heap.get?_push_size _ rfl), rfl, rfl⟩ (by rw [Heap.size_push, hz]) fun b o x => Heap.get?_push_of_some _ (Heap.get?_push_of_some _ x)⟩
theorem pyNext_enumT_end {prog : Program} {w : World} {A : Around} {E : Value → Shared → Prop} {s : Shared} {e it t : Addr} {i : Nat} {c : Int} {items : Array Value} {old : Value} {Q : Option Value → Shared → Prop} (hh : A.handled = none)
    (he : IsEnum s.heap e it c old) (hit : s.heap.IsTupleIter it t i) (ht : s.heap.IsTuple t items) (hx : items[i]? = none)
    (hQ : ∀ h', Heap.ExtBut it s.heap h' → Q none { s with heap := h' }) : wpAny (model prog w) A (pyNext (.ref e)) Q E s := by
  have hT : s.TypeIs (.ref e) "enumerate" := ⟨_, he, rfl⟩
  unfold pyNext
  refine wpAny_bind (wpAny_attempt (wpAny_callSpecial?_slot (name := Str.ofString "__next__") hT F.slot_enumerate_next
    (wpAny_call_entry F.slot_enumerate_next hT F.entry_enumerate_next ?_ (F.args_enumerate_next_1 _))))
  show wpAny _ _ (field (.ref e) 2 >>= _) _ _ _
  refine wpAny_bind (wpAny_field he rfl (x := .ref it) rfl ?_)
  refine wpAny_bind (wpAny_nextOf_tuple_end (by exact hh) hit ht hx fun h' x he' hx' => ?_)
  obtain ⟨o, ho, hc⟩ := hx'
  refine wpAny_bind (wpAny_isInstance (T := "StopIteration") (b := true) ⟨o, ho, hc⟩ isSubtype_stop ?_)
  exact wpAny_pure (hQ _ he')
/-- the tuple at a, each item in a new pair -/
def Itet (K : PySem.W.Frag) (a : Addr) : It :=
  ⟨fun i H => ∃ (xs : List V) (x : V), SqT K H a xs ∧ xs[i]? = some x, fun i H v H' => ∃ T x, v = .ref T ∧ H T = none ∧ H' = upd H T (.tup [.int (i : Nat), x]) ∧ ∀ xs, SqT K H a xs → xs[i]? = some x, fun i H => ∃ xs : List V, SqT K H a xs ∧ xs.length ≤ i⟩
theorem turn_enumT {P : Program} {w : World} {K : PySem.W.Frag} {elts : List Expr} {kk : Nat} {tpos : Pos} (a e it : Addr) :
    Turn P w K (.Tuple elts kk tpos) (Itet K a) [e, it] e (fun i h => (∃ old, IsEnum h e it ((i : Nat) : Int) old) ∧ h.IsTupleIter it a i ∧ e ≠ it ∧ a ≠ it ∧ e ≠ a) where
  mem := by simp
  obj := fun i h st b hb => by
    obtain ⟨⟨old, he⟩, ⟨o, ho, hc, hd⟩, _⟩ := st
    have e' : b = e ∨ b = it := by simpa using hb
    rcases e' with z | z
    · rw [z]; exact ⟨_, he, fun v q => nomatch q⟩
    · rw [z]; exact ⟨o, ho, fun v q => by rw [hd] at q; cases q⟩
  keep := fun i h h' st k => let ⟨⟨old, he⟩, hi, hne⟩ := st; ⟨⟨old, k e (by simp) _ he⟩, hi.at fun o q => k it (by simp) o q, hne⟩
  item := by
    intro X hP hw hK hc i pins s σ H E I hf st hg
    subst hP hw hK
    obtain ⟨⟨old, he⟩, hit, hne, hne2, hne3⟩ := st
    obtain ⟨xs, x, hq, hx⟩ := hg
    obtain ⟨its, rv, p, hz⟩ := I.tuple hq
    obtain ⟨u, hu, ru⟩ := rv.get hx
    have hel : e < s.heap.objs.size := Heap.lt_size he
    have hil : it < s.heap.objs.size := by obtain ⟨_, q, _⟩ := hit; exact Heap.lt_size q
    have ht : s.heap.IsTuple a its.toArray := p
    have hlt : i < its.toArray.size := by
      have := (List.getElem?_eq_some_iff.mp hu).1
      simpa using this
    refine wpAny_pyNext_enum_itemD (Draws.tuple (A := X.A.in1) (by exact I.ok.hd hc) it a hne2 its.toArray) he ⟨hit, ht⟩ hlt hne (by simp; exact ⟨hne, hne3⟩) fun y h' tk hPy ho hst' hT hsz hk => ?_
    have ey : y = u := by
      have z : its[i]? = some y := by simpa using hPy
      rw [hu] at z; exact (Option.some.inj z).symm
    subst ey
    refine ⟨_, rfl, wpAny_letOwnedTupleGo_enum (s := { s with heap := h', toks := tk + 1 }) ho fun h'' he' sb => ?_⟩
    have hT2 : h''.get? s.heap.objs.size = some { cls := .type "tuple", data := .seq #[.int i tk, y] } := (sb.2 _ (Nat.ne_of_gt hel)).trans hT
    have new : ObjOk X.prog X.w (upd H s.heap.objs.size (.tup [.int (i : Nat), x])) h'' s.heap.objs.size (.tup [.int (i : Nat), x]) :=
      ⟨by show 2 ≤ sizeLine; decide, [.int i tk, y], .cons ⟨_, rfl⟩ (.cons ru .nil), ⟨_, hT2, rfl, _, rfl⟩⟩
    have I1 : Inv X pins σ (upd H s.heap.objs.size (.tup [.int (i : Nat), x])) { s with heap := h'', toks := tk + 1 } :=
      I.turnedNew (ch := [e, it]) (fun b ob hb q => (sb.2 b (fun z => hb (by simp [z]))).trans (hk b ob (fun z => hb (by simp [z])) (fun z => hb (by simp [z])) q)) hf (Nat.le_refl _) new
    refine ⟨.ref s.heap.objs.size, _, I1, rfl, ⟨_, x, rfl, I.hok.fresh (Nat.le_refl _), rfl, fun ys hy => by rw [I.tuple_inj hy hq]; exact hx⟩, ⟨⟨y, ?_⟩, hst'.1.at fun o q => (sb.2 it (Ne.symm hne)).trans q, hne, hne2, hne3⟩, fun b hb => ?_⟩
    · have e1 : ((i + 1 : Nat) : Int) = (i : Int) + 1 := by omega
      rw [e1]; exact he'
    · have hb' : b < s.heap.objs.size := by
        have e' : b = e ∨ b = it := by simpa using hb
        rcases e' with z | z
        · rw [z]; exact hel
        · rw [z]; exact hil
      rw [upd_ne (Nat.ne_of_lt hb')]
      exact (hf b hb).1
  done := by
    intro X hP hw hK hc i pins s σ H E I hf st hg
    subst hP hw hK
    obtain ⟨⟨old, he⟩, hit, hne, hne2, hne3⟩ := st
    obtain ⟨xs, hq, hx⟩ := hg
    obtain ⟨its, rv, p, hz⟩ := I.tuple hq
    obtain ⟨f0, f1, f2, f3, f4, f5⟩ := hf it (by simp)
    have hl := rv.length
    have ht : s.heap.IsTuple a its.toArray := p
    exact pyNext_enumT_end (I.ok.hd hc) he hit ht (by simp; omega) fun h' eb => ⟨rfl, I.turned (t' := s.toks) (fun b o hb q => eb b o hb q) f0 f1 f3 f4 f5⟩
  self := fun A i s Q E st h => let ⟨⟨_, he⟩, _⟩ := st; wpAny_pyIter_enum he h
def iEnumT (K : PySem.W.Frag) (ta : TA) : TI := fun σ H R => ta σ H fun vs H1 => ∃ a xs, vs = [.ref a] ∧ SqT K H1 a xs ∧ R (Itet K a) H1
theorem pi_enumT {X : Cx} {e : Expr} {ta : TA} {p pos tpos : Pos} {elts : List Expr} {kk : Nat} (hg : Gl X "enumerate") (hm : X.mg "enumerate" = none) (ha : PA X [e] ta) (hs : starEach [e] X.env = [(false, eval e X.env)] := by rfl) :
    PI X (.Tuple elts kk tpos) (.Call (.Name "enumerate" p) [e] [] pos) (iEnumT X.K ta) := by
  refine ⟨fun pins s σ H R I h => ?_⟩
  refine Call_ (ld_blt I hg hm boot_enumerate (PyProof.Rows.callWith_type1 (thn (ha.run pos pins s σ H _ I h) fun us s1 ⟨vs, H1, I1, r1, q1⟩ => ?_) hs rfl))
  obtain ⟨a, xs, ex, hq, q⟩ := q1
  subst ex
  cases r1 with
  | cons r rr =>
    cases rr
    cases r
    obtain ⟨its, rv, p', hz⟩ := I1.tuple hq
    have ht : s1.heap.IsTuple a its.toArray := p'
    have hal : a < s1.heap.objs.size := by obtain ⟨_, q', _⟩ := id ht; exact Heap.lt_size q'
    refine call_enumT ht fun h' he hit hsz hk => wpAny_pyIter_enum he ?_
    have I2 : Inv X pins σ H1 { s1 with heap := h' } := I1.kept (t' := s1.toks) hk
    refine ⟨s1.heap.objs.size + 1, [s1.heap.objs.size + 1, s1.heap.objs.size], _, _, H1, rfl, I2, turn_enumT a (s1.heap.objs.size + 1) s1.heap.objs.size, ⟨⟨.none, he⟩, hit, Nat.succ_ne_self _, Nat.ne_of_lt hal, Nat.ne_of_gt (Nat.lt_succ_of_lt hal)⟩, fun b hb => ?_, q⟩
    have e' : b = s1.heap.objs.size + 1 ∨ b = s1.heap.objs.size := by simpa using hb
    have hle : s1.heap.objs.size ≤ b := by
      rcases e' with z | z
      · rw [z]; exact Nat.le_add_right _ _
      · rw [z]; exact Nat.le_refl _
    exact I1.fpOk hle (I1.hok.fresh hle)
theorem walk_enumT {K : PySem.W.Frag} {a : Addr} {xs : List V} : Walk (Itet K a) xs.length (fun H => SqT K H a xs) (YPair (fun i => some (.int (i : Nat))) (fun i => xs[i]?)) := by
  refine ⟨fun i _ hi q => ⟨xs, xs[i], q, by simp [hi]⟩, fun _ q => ⟨xs, q, Nat.le_refl _⟩, fun i H v H' _ q y => ?_⟩
  obtain ⟨T, x, h1, h2, h3, h4⟩ := y
  exact ⟨T, .int (i : Nat), x, h1, h2, h3, rfl, h4 xs q⟩
theorem walk_byt {x : Array UInt8} : Walk (Itb x) x.size (fun _ => True) (fun i H v H' => H' = H ∧ ∃ c, x[i]? = some c ∧ v = .int ((c.toNat : Nat) : Int)) :=
  ⟨fun _ _ hi _ => hi, fun _ _ => Nat.le_refl _, fun _ _ _ _ _ _ y => y⟩
/-- the i-th byte -/
theorem byt_at {bs : List Int} {i : Nat} {c : UInt8} (hb : B8 bs) (h : (byteArr bs)[i]? = some c) : bs[i]? = some ((c.toNat : Nat) : Int) := by
  have h1 : (bs.map fun n : Int => n.toNat.toUInt8)[i]? = some c := by
    have : (byteArr bs)[i]? = (bs.map fun n : Int => n.toNat.toUInt8)[i]? := by unfold byteArr; simp
    rw [← this]; exact h
  have hl : i < bs.length := by
    have := (List.getElem?_eq_some_iff.mp h1).1
    simpa using this
  have h2 := byte_at (j := i) hb (List.getElem?_eq_getElem hl)
  rw [List.getD_eq_getElem?_getD, h1] at h2
  rw [List.getElem?_eq_getElem hl, ← h2]
  rfl
/-! ### max(list of ints, default=int) -/
theorem args_maxD (a v : Value) : argsOk "max" ⟨[a], [(Str.ofString "default", v)]⟩ := by unfold argsOk; kernel_rfl
section
variable {prog : Program} {w : World} {A : Around} {R : Result → Shared → Prop} {I S : Addr} {fp wr : List Addr} {n : Nat} {P : Nat → Value → Prop} {St : Nat → Heap → Prop} {f : Nat → Int} {kw : List (Str × Value)}
theorem maxD_turns (W : Walks prog w A.in1 I fp wr n P St) (num : ∀ i v, P i v → ∃ t, v = Value.int (f i) t) (apart : S ∉ fp) : ∀ (left j b : Nat) (s : Shared) (best : Value) (c : Nat), n = j + 1 + left → St (j + 1) s.heap → P b best → b ≤ j → (∀ i, i ≤ j → f i ≤ f b) →
    s.heap.get? S = some { cls := .type "list", dict := none, data := .seq #[best, best] c, slots := #[] } →
    (∀ b v h' tk, b < n → P b v → (∀ i, i < n → f i ≤ f b) → (∀ a o, a ∉ wr → a ≠ S → s.heap.get? a = some o → h'.get? a = some o) → R (.ok (.ret v)) { s with heap := h', toks := tk }) →
    codeAny (model prog w) A (.builtin "max.loop" ⟨[.ref I, .none, .ref S], kw⟩) R s := by
  have outside : S ∉ wr := fun z => apart (W.sub _ z)
  have nm : (toString "max" ++ toString ".loop" : String) = "max.loop" := by decide
  intro left
  induction left with
  | zero =>
    intro j b s best c en st hb bj top hS fin
    refine codeAny_builtin F.entry_max_loop ?_
    rw [Around.under_plainId F.plain_max_loop _]
    refine wpAny_bind (wpAny_seqItems hS rfl (wpAny_bind (wpAny_tryCatch (W.done s _ _ (by rw [en]; exact st) fun h' tk kept => ?_))))
    refine wpAny_bind (wpAny_updateSeq (kept S _ outside hS) rfl (wpAny_bind (wpAny_letGo (wpAny_pure ?_))))
    exact fin b best _ tk (by omega) hb (fun i hi => top i (by omega)) fun a o ha hs e => (Heap.get?_update_other _ _ (Ne.symm hs)).trans (kept a o ha e)
  | succ left ih =>
    intro j b s best c en st hb bj top hS fin
    refine codeAny_builtin F.entry_max_loop ?_
    rw [Around.under_plainId F.plain_max_loop _]
    refine wpAny_bind (wpAny_seqItems hS rfl (wpAny_bind (wpAny_tryCatch (W.item (j + 1) s _ _ (by omega) st fun v h' tk hv st' kept => ?_))))
    have hS1 := kept S _ outside hS
    refine wpAny_bind (wpAny_pure ?_)
    refine wpAny_bind (wpAny_tryCatch (wpAny_holding (wpAny_bind (CmpOf.ints_gt f num (j + 1) b v best _ _ _ hv hb ?_))))
    refine wpAny_bind (wpAny_holding (wpAny_truthy_bool (wpAny_bind (wpAny_letGo (wpAny_pure ?_)))))
    by_cases gt : f (j + 1) > f b
    · rw [if_pos (by exact decide_eq_true gt)]
      refine wpAny_bind ?_
      refine wpAny_updateSeq hS1 rfl (wpAny_bind (wpAny_letGo ?_))
      rw [nm]
      refine wpAny_pure ⟨plainId_quiet F.plain_max_loop _, ?_⟩
      refine ih (j + 1) (j + 1) _ v c (by omega) (W.frame _ _ _ st' fun a ha o e => ?_) hv (Nat.le_refl _) (fun i hi => ?_) (Heap.get?_update_self _ hS1 rfl) fun b' v' h2 tk2 lt hv' top' kept' => ?_
      · exact (Heap.get?_update_other _ _ (fun z : S = a => apart (by rw [z]; exact ha))).trans e
      · by_cases e : i = j + 1
        · rw [e]; omega
        · have := top i (by omega)
          omega
      · exact fin b' v' h2 tk2 lt hv' top' fun a o ha hs e => kept' a o ha hs ((Heap.get?_update_other _ _ (Ne.symm hs)).trans (kept a o ha e))
    · rw [if_neg (by intro z; exact gt (of_decide_eq_true z))]
      refine wpAny_bind (wpAny_letGo ?_)
      rw [nm]
      refine wpAny_pure ⟨plainId_quiet F.plain_max_loop _, ?_⟩
      refine ih (j + 1) b _ best c (by omega) st' hb (by omega) (fun i hi => ?_) hS1 fun b' v' h2 tk2 lt hv' top' kept' => ?_
      · by_cases e : i = j + 1
        · rw [e]; omega
        · exact top i (by omega)
      · exact fin b' v' h2 tk2 lt hv' top' fun a o ha hs e => kept' a o ha hs (kept a o ha e)
end
theorem call_maxD {prog : Program} {w : World} {A : Around} {E : Value → Shared → Prop} {s : Shared} {l : Addr} {its : List Value} {ns : List Int} {d : Value} {Q : Value → Shared → Prop} (hh : A.handled = none) (hl : s.heap.IsList l its.toArray) (hi : ∀ i v, its[i]? = some v → ∃ t, v = Value.int (ns.getD i 0) t) (len : its.length = ns.length)
    (h0 : ns = [] → ∀ h' tk, (∀ b o, s.heap.get? b = some o → h'.get? b = some o) → Q d { s with heap := h', toks := tk })
    (h1 : ∀ m t h' tk, m ∈ ns → (∀ y, y ∈ ns → y ≤ m) → (∀ b o, s.heap.get? b = some o → h'.get? b = some o) → Q (Value.int m t) { s with heap := h', toks := tk }) :
    wpAny (model prog w) A (call (.builtin "max") [.ref l] [(Str.ofString "default", d)]) Q E s := by
  have nm : (toString "max" ++ toString ".loop" : String) = "max.loop" := by decide
  have below : l < s.heap.objs.size := by obtain ⟨_, q, _⟩ := id hl; exact Heap.lt_size q
  refine PyProof.Rows.kmk_tree F.kind_max F.plain_max F.entry_max (args_maxD _ _) ?_
  refine wpAny_bind (wpAny_of_eq (show Builtin.Builtins.bindParams "max" ["key", "default"] 0 ⟨[], [(Str.ofString "default", d)]⟩ = pure [none, some d] from rfl) (wpAny_bind (wpAny_pure ?_)))
  refine wpAny_bind (wpAny_pyIter_list hl (wpAny_bind (wpAny_newList ?_ (Nat.zero_le _))))
  rw [nm]
  have sz : (s.heap.push { cls := .type "list_iterator", data := .fields #[.ref l, .int 0 0] }).objs.size = s.heap.objs.size + 1 := Heap.size_push ..
  refine wpAny_pure ⟨plainId_quiet F.plain_max_loop _, ?_⟩
  have W := Walks.list (prog := prog) (w := w) (A := A.in1) hh s.heap.objs.size l (Nat.ne_of_lt below) its.toArray
  have hn : its.toArray.size = ns.length := by rw [List.size_toArray]; exact len
  have gI : ((s.heap.push { cls := .type "list_iterator", data := .fields #[.ref l, .int 0 0] }).push (PyProof.Rows.seqObj "list" #[] 0)).IsListIter s.heap.objs.size l 0 := ⟨_, Heap.get?_push_of_some _ (Heap.get?_push_size _ rfl), rfl, rfl⟩
  have gS : ((s.heap.push { cls := .type "list_iterator", data := .fields #[.ref l, .int 0 0] }).push (PyProof.Rows.seqObj "list" #[] 0)).get? (s.heap.push { cls := .type "list_iterator", data := .fields #[.ref l, .int 0 0] }).objs.size = some (PyProof.Rows.seqObj "list" #[] 0) := Heap.get?_push_size _ rfl
  have nS : (s.heap.push { cls := .type "list_iterator", data := .fields #[.ref l, .int 0 0] }).objs.size ≠ s.heap.objs.size := by rw [sz]; exact Nat.succ_ne_self _
  have old : ∀ b o, s.heap.get? b = some o → ((s.heap.push { cls := .type "list_iterator", data := .fields #[.ref l, .int 0 0] }).push (PyProof.Rows.seqObj "list" #[] 0)).get? b = some o := fun b o e => Heap.get?_push_of_some _ (Heap.get?_push_of_some _ e)
  have gl := hl.at fun o e => old l o e
  have away : ∀ b o, s.heap.get? b = some o → b ∉ [s.heap.objs.size] ∧ b ≠ (s.heap.push { cls := .type "list_iterator", data := .fields #[.ref l, .int 0 0] }).objs.size := fun b o e => by
    have := Heap.lt_size e
    constructor
    · intro hm; rw [List.mem_singleton.mp hm] at this; exact Nat.lt_irrefl _ this
    · rw [sz]; exact Nat.ne_of_lt (Nat.lt_succ_of_lt this)
  refine codeAny_builtin F.entry_max_loop ?_
  rw [Around.under_plainId F.plain_max_loop _]
  refine wpAny_bind (wpAny_seqItems gS rfl ?_)
  cases e : ns with
  | nil =>
    have z : its.toArray.size = 0 := by rw [hn, e]; rfl
    refine wpAny_bind (wpAny_tryCatch (W.done _ _ _ (by rw [z]; exact ⟨gI, gl⟩) fun h' tk kept => ?_))
    refine wpAny_bind (wpAny_rule (wpAny_pure ?_))
    exact h0 e _ tk fun b o q => kept b o (away b o q).1 (old b o q)
  | cons y r =>
    have pos : 0 < its.toArray.size := by rw [hn, e]; exact Nat.succ_pos _
    refine wpAny_bind (wpAny_tryCatch (W.item 0 _ _ _ pos ⟨gI, gl⟩ fun v h' tk hv st' kept => ?_))
    have hS1 := kept _ _ (by simpa using nS) gS
    refine wpAny_bind (wpAny_pure ?_)
    refine wpAny_bind ?_
    refine wpAny_updateSeq hS1 rfl ?_
    rw [nm]
    refine wpAny_pure ⟨plainId_quiet F.plain_max_loop _, ?_⟩
    have ap : (s.heap.push { cls := .type "list_iterator", data := .fields #[.ref l, .int 0 0] }).objs.size ∉ [s.heap.objs.size, l] := by
      intro hm
      rcases List.mem_cons.mp hm with hm | hm
      · exact nS hm
      · have q := List.mem_singleton.mp hm
        rw [sz] at q
        rw [← q] at below
        exact absurd below (by simp [Nat.not_lt])
    refine maxD_turns (f := fun i => ns.getD i 0) W (fun i v h => hi i v (by simpa using h)) ap (its.toArray.size - 1) 0 0 _ v _ (by omega) (W.frame _ _ _ st' fun a ha o q => ?_) hv (Nat.le_refl _) (fun i hi => by rw [Nat.le_zero.mp hi]; exact Int.le_refl _) (Heap.get?_update_self _ hS1 rfl) fun b v' h2 tk2 lt hv' top kept' => ?_
    · exact (Heap.get?_update_other _ _ (fun z => ap (by rw [z]; exact ha))).trans q
    · obtain ⟨t, ev⟩ := hi b v' (by simpa using hv')
      subst ev
      refine h1 _ t h2 tk2 ?_ (fun x hx => ?_) fun a o q => kept' a o (away a o q).1 (away a o q).2 ((Heap.get?_update_other _ _ (Ne.symm (away a o q).2)).trans (kept a o (away a o q).1 (old a o q)))
      · have lb : b < ns.length := by rw [← hn]; exact lt
        show ns.getD b 0 ∈ ns
        rw [List.getD_eq_getElem?_getD, List.getElem?_eq_getElem lb]
        exact List.getElem_mem lb
      · obtain ⟨i, hi', rfl⟩ := List.mem_iff_getElem.mp hx
        have := top i (by rw [hn]; exact hi')
        rw [List.getD_eq_getElem?_getD, List.getElem?_eq_getElem hi'] at this
        exact this
/-- max(xs, default=z) of a list of ints -/
def rMaxDf (K : PySem.W.Frag) : List V → List V → Hp → VK → Prop := fun vs zs H Q => ∃ (a : Addr) (ns : List Int) (z : Int), vs = [.ref a] ∧ zs = [.int z] ∧ SqL K H a (ns.map V.int) ∧ (ns = [] → Q (.int z) H) ∧ ∀ m, m ∈ ns → (∀ y, y ∈ ns → y ≤ m) → Q (.int m) H
theorem cr_maxDf {X : Cx} (hc : X.calm = true) : CallRK X (.builtin "max") [Str.ofString "default"] (rMaxDf X.K) := by
  intro pins s σ H vs zs us ws Q I r rz h
  obtain ⟨a, ns, z, rfl, rfl, hs, q0, q1⟩ := h
  obtain ⟨its, rv, hl, _⟩ := I.list hs
  obtain rfl := Vals.ref1 r
  obtain ⟨w1, rfl, e1⟩ := vals1 rz
  have len : its.length = ns.length := by rw [← rv.length, List.length_map]
  refine call_maxD (ns := ns) (I.ok.hd hc) hl.isList (fun i v hv => ?_) len (fun e h' tk hk => ⟨.int z, H, I.kept hk, e1, q0 e⟩) fun m t h' tk hm top hk => ⟨.int m, H, I.kept hk, ⟨t, rfl⟩, q1 m hm top⟩
  have lt : i < ns.length := by rw [← len]; exact (List.getElem?_eq_some_iff.mp hv).1
  obtain ⟨u, hu, ru⟩ := rv.get (i := i) (x := V.int ns[i]) (by rw [List.getElem?_map, List.getElem?_eq_getElem lt]; rfl)
  rw [hv] at hu
  cases hu
  obtain ⟨t, rfl⟩ := ru
  exact ⟨t, by rw [List.getD_eq_getElem?_getD, List.getElem?_eq_getElem lt]; rfl⟩
/-! ### zip(tuple, list) -/
def Itzm (K : PySem.W.Frag) (a b : Addr) : It :=
  ⟨fun i H => ∃ (xs ys : List V) (x y : V), SqT K H a xs ∧ SqL K H b ys ∧ xs[i]? = some x ∧ ys[i]? = some y,
    fun i H v H' => ∃ T x y, v = .ref T ∧ H T = none ∧ H' = upd H T (.tup [x, y]) ∧ (∀ xs, SqT K H a xs → xs[i]? = some x) ∧ ∀ ys, SqL K H b ys → ys[i]? = some y,
    fun i H => ∃ xs ys : List V, SqT K H a xs ∧ SqL K H b ys ∧ i ≤ xs.length ∧ i ≤ ys.length ∧ (i = xs.length ∨ i = ys.length)⟩
theorem turn_zipM {P : Program} {w : World} {K : PySem.W.Frag} {elts : List Expr} {kk : Nat} {tpos : Pos} {a b z TI TO i1 i2 : Addr} (D : ZipSep2 z TI TO i1 i2 [i1, a] [i2, b]) :
    Turn P w K (.Tuple elts kk tpos) (Itzm K a b) [z, TI, TO, i1, i2] z (fun i h => IsZip h z TI TO .none ∧ IsTupOf2 h TI (.ref i1) (.ref i2) ∧ (∃ x y, IsTupOf2 h TO x y) ∧ h.IsTupleIter i1 a i ∧ h.IsListIter i2 b i) where
  mem := by simp
  obj := fun i h st c hc => by
    obtain ⟨hz, hTI, ⟨x, y, hTO⟩, ⟨o1, e1, _, d1⟩, ⟨o2, e2, _, d2⟩⟩ := st
    have which : c = z ∨ c = TI ∨ c = TO ∨ c = i1 ∨ c = i2 := by simpa using hc
    rcases which with rfl | rfl | rfl | rfl | rfl
    · exact ⟨_, hz, fun v q => nomatch q⟩
    · exact ⟨_, hTI, fun v q => nomatch q⟩
    · exact ⟨_, hTO, fun v q => nomatch q⟩
    · exact ⟨o1, e1, fun v q => by rw [d1] at q; cases q⟩
    · exact ⟨o2, e2, fun v q => by rw [d2] at q; cases q⟩
  keep := fun i h h' ⟨hz, hTI, ⟨x, y, hTO⟩, h1, h2⟩ k =>
    ⟨k z (by simp) _ hz, k TI (by simp) _ hTI, ⟨x, y, k TO (by simp) _ hTO⟩, h1.at fun o q => k i1 (by simp) o q, h2.at fun o q => k i2 (by simp) o q⟩
  item := by
    intro X hP hw hK hc i pins s σ H E I hf st hg
    subst hP hw hK
    obtain ⟨hz, hTI, ⟨x0, y0, hTO⟩, h1, h2⟩ := st
    obtain ⟨xs, ys, x, y, hqx, hqy, hx, hy⟩ := hg
    obtain ⟨its, rv, p, _⟩ := I.tuple hqx
    obtain ⟨its2, rv2, p2, _⟩ := I.list hqy
    obtain ⟨u, hu, ru⟩ := rv.get hx
    obtain ⟨u2, hu2, ru2⟩ := rv2.get hy
    have l1 : i < its.toArray.size := by have := (List.getElem?_eq_some_iff.mp hu).1; simpa using this
    have l2 : i < its2.toArray.size := by have := (List.getElem?_eq_some_iff.mp hu2).1; simpa using this
    have hzl : z < s.heap.objs.size := Heap.lt_size hz
    have ht : s.heap.IsTuple a its.toArray := p
    have a1 : a ≠ i1 := by
      intro e; subst e
      obtain ⟨o, ho, c1, _⟩ := ht
      obtain ⟨o', ho', c2, _⟩ := h1
      rw [ho] at ho'; cases ho'
      rw [c1] at c2; exact absurd c2 (by simp)
    have b2 : b ≠ i2 := by
      intro e; subst e
      obtain ⟨o, ho, c1, _⟩ := p2.isList
      obtain ⟨o', ho', c2, _⟩ := h2
      rw [ho] at ho'; cases ho'
      rw [c1] at c2; exact absurd c2 (by simp)
    refine wpAny_pyNext_zipD2_item D (Draws.tuple (A := X.A.in1) (by exact I.ok.hd hc) i1 a a1 its.toArray) (Draws.list (A := X.A.in1) (by exact I.ok.hd hc) i2 b b2 its2.toArray) hz hTI hTO ⟨h1, ht⟩ ⟨h2, p2.isList⟩ l1 l2 fun y1 y2 h' tk e1 e2 z' TO' st1 st2 hT hsz hk => ?_
    have eq1 : y1 = u := by have q : its[i]? = some y1 := by simpa using e1
                            rw [hu] at q; exact (Option.some.inj q).symm
    have eq2 : y2 = u2 := by have q : its2[i]? = some y2 := by simpa using e2
                             rw [hu2] at q; exact (Option.some.inj q).symm
    subst eq1 eq2
    have n1 : i1 ≠ z := fun q => D.zf1 (by rw [← q]; exact D.mem1)
    have n2 : i2 ≠ z := fun q => D.zf2 (by rw [← q]; exact D.mem2)
    refine ⟨_, rfl, wpAny_letOwnedTupleGo_zip (s := { s with heap := h', toks := tk }) z' fun h'' z'' sb => ?_⟩
    have hT2 : h''.get? s.heap.objs.size = some { cls := .type "tuple", data := .seq #[y1, y2] } := (sb.2 _ (Nat.ne_of_gt hzl)).trans hT
    have new : ObjOk X.prog X.w (upd H s.heap.objs.size (.tup [x, y])) h'' s.heap.objs.size (.tup [x, y]) :=
      ⟨by show 2 ≤ sizeLine; decide, [y1, y2], .cons ru (.cons ru2 .nil), ⟨_, hT2, rfl, _, rfl⟩⟩
    have I1 : Inv X pins σ (upd H s.heap.objs.size (.tup [x, y])) { s with heap := h'', toks := tk } :=
      I.turnedNew (ch := [z, TI, TO, i1, i2]) (fun c o hb q => (sb.2 c (fun q' => hb (by simp [q']))).trans (hk c o (fun q' => hb (by simp [q'])) (fun q' => hb (by simp [q'])) (fun q' => hb (by simp [q'])) (fun q' => hb (by simp [q'])) q)) hf (Nat.le_refl _) new
    refine ⟨.ref s.heap.objs.size, _, I1, rfl, ⟨_, x, y, rfl, I.hok.fresh (Nat.le_refl _), rfl, fun l hl => by rw [I.tuple_inj hl hqx]; exact hx, fun l hl => by rw [I.list_inj hl hqy]; exact hy⟩, ⟨z'', ?_, ⟨y1, y2, ?_⟩, ?_, ?_⟩, fun c hcm => ?_⟩
    · exact (sb.2 _ D.TIz).trans (hk _ _ D.TIz D.TITO D.TIi1 D.TIi2 hTI)
    · exact (sb.2 _ D.TOz).trans TO'
    · exact st1.1.at fun o q => (sb.2 _ n1).trans q
    · exact st2.1.at fun o q => (sb.2 _ n2).trans q
    · have hlt : c < s.heap.objs.size := by
        have which : c = z ∨ c = TI ∨ c = TO ∨ c = i1 ∨ c = i2 := by simpa using hcm
        rcases which with rfl | rfl | rfl | rfl | rfl
        · exact hzl
        · exact Heap.lt_size hTI
        · exact Heap.lt_size hTO
        · obtain ⟨_, e1, _⟩ := h1; exact Heap.lt_size e1
        · obtain ⟨_, e2, _⟩ := h2; exact Heap.lt_size e2
      rw [upd_ne (Nat.ne_of_lt hlt)]
      exact (hf c hcm).1
  done := by
    intro X hP hw hK hc i pins s σ H E I hf st hg
    subst hP hw hK
    obtain ⟨hz, hTI, ⟨x0, y0, hTO⟩, h1, h2⟩ := st
    obtain ⟨xs, ys, hqx, hqy, le1, le2, hend⟩ := hg
    obtain ⟨its, rv, p, _⟩ := I.tuple hqx
    obtain ⟨its2, rv2, p2, _⟩ := I.list hqy
    have q1 := rv.length
    have q2 := rv2.length
    have ht : s.heap.IsTuple a its.toArray := p
    have a1 : a ≠ i1 := by
      intro e; subst e
      obtain ⟨o, ho, c1, _⟩ := ht
      obtain ⟨o', ho', c2, _⟩ := h1
      rw [ho] at ho'; cases ho'
      rw [c1] at c2; exact absurd c2 (by simp)
    have b2 : b ≠ i2 := by
      intro e; subst e
      obtain ⟨o, ho, c1, _⟩ := p2.isList
      obtain ⟨o', ho', c2, _⟩ := h2
      rw [ho] at ho'; cases ho'
      rw [c1] at c2; exact absurd c2 (by simp)
    refine wpAny_pyNext_zipD2_end D (Draws.tuple (A := X.A.in1) (by exact I.ok.hd hc) i1 a a1 its.toArray) (Draws.list (A := X.A.in1) (by exact I.ok.hd hc) i2 b b2 its2.toArray) hz hTI hTO ⟨h1, ht⟩ ⟨h2, p2.isList⟩ (by simp; omega) (by simp; omega) (by simp; omega) fun h' tk hk => ⟨rfl, I.turnedL (ch := [z, TI, TO, i1, i2]) (fun c o hb q =>
      hk c o (fun q' => hb (by simp [q'])) (fun q' => hb (by simp [q'])) (fun q' => hb (by simp [q'])) (fun q' => hb (by simp [q'])) q) hf⟩
  self := fun A i s Q E st h => wpAny_pyIter_zip st.1 h
def iZipM (K : PySem.W.Frag) (ta : TA) : TI := fun σ H R => ta σ H fun vs H1 => ∃ a b xs ys, vs = [.ref a, .ref b] ∧ SqT K H1 a xs ∧ SqL K H1 b ys ∧ R (Itzm K a b) H1
theorem pi_zipM {X : Cx} {e e2 : Expr} {ta : TA} {p pos tpos : Pos} {elts : List Expr} {kk : Nat} (hg : Gl X "zip") (hm : X.mg "zip" = none) (ha : PA X [e, e2] ta)
    (hs : starEach [e, e2] X.env = (false, eval e X.env) :: starEach [e2] X.env := by rfl) (hpl : (backTo pos (starEach [e2] X.env)).any (·.1) = false := by rfl) :
    PI X (.Tuple elts kk tpos) (.Call (.Name "zip" p) [e, e2] [] pos) (iZipM X.K ta) := by
  refine ⟨fun pins s σ H R I h => ?_⟩
  refine Call_ (ld_blt I hg hm PyProof.Rows.boot_zip (PyProof.Rows.callWith_type1 (thn (ha.run pos pins s σ H _ I h) fun us s1 ⟨vs, H1, I1, r1, q1⟩ => ?_) hs hpl))
  obtain ⟨a, b, xs, ys, ex, hqx, hqy, q⟩ := q1
  subst ex
  cases r1 with
  | cons r rr =>
    cases rr with
    | cons r' rr =>
      cases rr
      cases r
      cases r'
      obtain ⟨its, rv, p1, _⟩ := I1.tuple hqx
      obtain ⟨its2, rv2, p2, _⟩ := I1.list hqy
      have ht : s1.heap.IsTuple a its.toArray := p1
      have la : a < s1.heap.objs.size := by obtain ⟨_, z, _⟩ := id ht; exact Heap.lt_size z
      have lb : b < s1.heap.objs.size := p2.lt
      refine zip_begins2 (begins_tuple a its.toArray) (begins_list b its2.toArray) ht p2.isList fun h' hz hTI hTO g1 g2 hsz hk => wpAny_pyIter_zip hz ?_
      have I2 : Inv X pins σ H1 { s1 with heap := h' } := I1.kept (t' := s1.toks) hk
      refine ⟨s1.heap.objs.size + 4, [s1.heap.objs.size + 4, s1.heap.objs.size + 2, s1.heap.objs.size + 3, s1.heap.objs.size, s1.heap.objs.size + 1], _, _, H1, rfl, I2,
        turn_zipM (zip_sep2 (N := s1.heap.objs.size) (fp1 := [a]) (fp2 := [b]) (fun c hc => by rw [List.mem_singleton.mp hc]; exact la) (fun c hc => by rw [List.mem_singleton.mp hc]; exact lb)), ⟨hz, hTI, ⟨_, _, hTO⟩, ⟨_, g1, rfl, rfl⟩, ⟨_, g2, rfl, rfl⟩⟩, fun c hcm => ?_, q⟩
      have which : c = s1.heap.objs.size + 4 ∨ c = s1.heap.objs.size + 2 ∨ c = s1.heap.objs.size + 3 ∨ c = s1.heap.objs.size ∨ c = s1.heap.objs.size + 1 := by simpa using hcm
      have hle : s1.heap.objs.size ≤ c := by
        rcases which with z | z | z | z | z <;> (rw [z]; first | exact Nat.le_add_right _ _ | exact Nat.le_refl _)
      exact I1.fpOk hle (I1.hok.fresh hle)
theorem walk_zipM {K : PySem.W.Frag} {a b : Addr} {xs ys : List V} (hl : xs.length = ys.length) : Walk (Itzm K a b) xs.length (fun H => SqT K H a xs ∧ SqL K H b ys) (YPair (fun i => xs[i]?) (fun i => ys[i]?)) := by
  refine ⟨fun i _ hi q => ?_, fun _ q => ⟨xs, ys, q.1, q.2, Nat.le_refl _, by omega, .inl rfl⟩, fun i H v H' _ q y => ?_⟩
  · have h2 : i < ys.length := by omega
    exact ⟨xs, ys, xs[i], ys[i], q.1, q.2, by simp [hi], by simp [h2]⟩
  · obtain ⟨T, x, z, h1, h2, h3, h4, h5⟩ := y
    exact ⟨T, x, z, h1, h2, h3, h4 xs q.1, h5 ys q.2⟩
/-! ### rows, pieces, cells -/
inductive Cell where
  | old (k : Int) | new (b : Int)
  deriving DecidableEq
inductive Row where
  | copy (b n : Int) | run (b n : Int) | bring (bs : List Int)
  deriving DecidableEq
def Cell.tup : Cell → List V
  | .old k => [.str "old", .int k]
  | .new b => [.str "new", .int b]
def Row.tup : Row → List V
  | .copy b n => [.str "copy", .int b, .int n]
  | .run b n => [.str "run", .int b, .int n]
  | .bring bs => [.str "bring", .byt (byteArr bs)]
def Row.len : Row → Int
  | .copy _ n => n
  | .run _ n => n
  | .bring bs => bs.length
def Row.ok (c : Int) : Row → Prop
  | .copy b n => 0 ≤ b ∧ 1 ≤ n ∧ b + n ≤ c
  | .run b n => 0 ≤ b ∧ b < 256 ∧ 1 ≤ n
  | .bring bs => 1 ≤ (bs.length : Int) ∧ B8 bs
def total : List Row → Int
  | [] => 0
  | r :: l => r.len + total l
theorem total_app : ∀ (a b : List Row), total (a ++ b) = total a + total b
  | [], b => by show total b = 0 + total b; omega
  | r :: a, b => by
    have := total_app a b
    show r.len + total (a ++ b) = r.len + total a + total b
    omega
theorem Row.len_pos {c : Int} : ∀ {r : Row}, r.ok c → 1 ≤ r.len
  | .copy _ _, h => h.2.1
  | .run _ _, h => h.2.2
  | .bring _, h => h.1
theorem total_nn {c : Int} : ∀ {l : List Row}, (∀ r ∈ l, r.ok c) → 0 ≤ total l
  | [], _ => by show (0 : Int) ≤ 0; decide
  | r :: l, h => by
    have a := Row.len_pos (h r List.mem_cons_self)
    have b := total_nn (l := l) fun x hx => h x (List.mem_cons_of_mem _ hx)
    show 0 ≤ r.len + total l
    omega
theorem len_le_total {c : Int} : ∀ {l : List Row}, (∀ r ∈ l, r.ok c) → (l.length : Int) ≤ total l
  | [], _ => by show (0 : Int) ≤ 0; decide
  | r :: l, h => by
    have a := Row.len_pos (h r List.mem_cons_self)
    have b := len_le_total (l := l) fun x hx => h x (List.mem_cons_of_mem _ hx)
    show ((l.length + 1 : Nat) : Int) ≤ r.len + total l
    omega
def CellV (H : Hp) (v : V) (c : Cell) : Prop := ∃ p, v = .ref p ∧ H p = some (.tup c.tup)
def PieceV (H : Hp) (v : V) (r : Row) : Prop := ∃ p, v = .ref p ∧ H p = some (.tup r.tup)
def RowV (H : Hp) (v : V) : Row → Prop
  | .bring bs => ∃ p q, v = .ref p ∧ H p = some (.tup [.str "bring", .ref q]) ∧ H q = some (.lst (bs.map V.int))
  | r => ∃ p, v = .ref p ∧ H p = some (.tup r.tup)
/-- the tuples stay -/
def Tups (H H' : Hp) : Prop := ∀ p xs, H p = some (.tup xs) → H' p = some (.tup xs)
theorem Same.tups {H H' : Hp} (s : Same H H') : Tups H H' := fun p xs h => s p _ h
theorem But.tups {K : PySem.W.Frag} {a : Addr} {ns : List Int} {d : Addr} {H H' : Hp} (b : But d H H') (D : Dice K a ns H d) : Tups H H' := fun p xs h => tup_but D b h
theorem Tups.lst {H : Hp} {p : Addr} {xs : List V} {o : HO} (h : H p = some (.lst xs)) : Tups H (upd H p o) := fun q ys e => by rw [upd_ne (ne_of e h tup_lst)]; exact e
theorem Tups.trans {H H1 H2 : Hp} (a : Tups H H1) (b : Tups H1 H2) : Tups H H2 := fun p xs h => b p xs (a p xs h)
theorem CellV.tups {H H' : Hp} {v : V} {c : Cell} (t : Tups H H') (h : CellV H v c) : CellV H' v c := let ⟨p, e, x⟩ := h; ⟨p, e, t _ _ x⟩
theorem PieceV.tups {H H' : Hp} {v : V} {c : Row} (t : Tups H H') (h : PieceV H v c) : PieceV H' v c := let ⟨p, e, x⟩ := h; ⟨p, e, t _ _ x⟩
theorem RowV.keep {H H' : Hp} {v : V} : ∀ {r : Row}, Tups H H' → (∀ q ns, H q = some (.lst (List.map V.int ns)) → H' q = some (.lst (List.map V.int ns))) → RowV H v r → RowV H' v r
  | .copy _ _, t, _, ⟨p, e, x⟩ => ⟨p, e, t _ _ x⟩
  | .run _ _, t, _, ⟨p, e, x⟩ => ⟨p, e, t _ _ x⟩
  | .bring _, t, l, ⟨p, q, e, x, y⟩ => ⟨p, q, e, t _ _ x, l _ _ y⟩
theorem RowV.same {H H' : Hp} {v : V} {r : Row} (s : Same H H') (h : RowV H v r) : RowV H' v r := h.keep (Same.tups s) (fun q ns e => s _ _ e)
theorem RowV.but {K : PySem.W.Frag} {a : Addr} {ns : List Int} {H H' : Hp} {d : Addr} {v : V} {r : Row} (D : Dice K a ns H d) (b : But d H H') (h : RowV H v r) : RowV H' v r := h.keep (But.tups b D) (fun q ns e => ints_but D b e)
theorem RowV.isRef {H : Hp} {v : V} : ∀ {r : Row}, RowV H v r → ∃ p, v = .ref p
  | .copy _ _, ⟨p, e, _⟩ => ⟨p, e⟩
  | .run _ _, ⟨p, e, _⟩ => ⟨p, e⟩
  | .bring _, ⟨p, _, e, _⟩ => ⟨p, e⟩
theorem pairedMem {α β : Type} {F G : α → β → Prop} : ∀ {l : List α} {m : List β}, Paired F l m → (∀ a ∈ l, ∀ b ∈ m, F a b → G a b) → Paired G l m
  | _, _, .nil, _ => .nil
  | _, _, .cons r t, f => .cons (f _ List.mem_cons_self _ List.mem_cons_self r) (pairedMem t fun a ha b hb => f a (List.mem_cons_of_mem _ ha) b (List.mem_cons_of_mem _ hb))
theorem pairedMap {α β : Type} {F G : α → β → Prop} {l : List α} {m : List β} (h : Paired F l m) (f : ∀ a b, F a b → G a b) : Paired G l m := pairedMem h fun a _ b _ => f a b
theorem pairedApp {α β : Type} {F : α → β → Prop} : ∀ {l l' : List α} {m m' : List β}, Paired F l m → Paired F l' m' → Paired F (l ++ l') (m ++ m')
  | _, _, _, _, .nil, s => s
  | _, _, _, _, .cons r t, s => .cons r (pairedApp t s)
theorem pairedAt {α β : Type} {F : α → β → Prop} : ∀ {l : List α} {m : List β} {i : Nat} {x : α}, Paired F l m → l[i]? = some x → ∃ y, m[i]? = some y ∧ F x y
  | _, _, _, _, .nil, e => by simp at e
  | _, _, 0, _, .cons r _, e => by simp at e; subst e; exact ⟨_, rfl, r⟩
  | _, _, i + 1, x, .cons _ t, e => by
    obtain ⟨y, h1, h2⟩ := pairedAt (i := i) (x := x) t (by simpa using e)
    exact ⟨y, by simpa using h1, h2⟩
theorem pairedAt' {α β : Type} {F : α → β → Prop} : ∀ {l : List α} {m : List β} {i : Nat} {y : β}, Paired F l m → m[i]? = some y → ∃ x, l[i]? = some x ∧ F x y
  | _, _, _, _, .nil, e => by simp at e
  | _, _, 0, _, .cons r _, e => by simp at e; subst e; exact ⟨_, rfl, r⟩
  | _, _, i + 1, y, .cons _ t, e => by
    obtain ⟨x, h1, h2⟩ := pairedAt' (i := i) (y := y) t (by simpa using e)
    exact ⟨x, by simpa using h1, h2⟩
/-- a list of rows at p -/
def RowsAt (H : Hp) (p : Addr) (rows : List Row) : Prop := ∃ vs, H p = some (.lst vs) ∧ Paired (RowV H) vs rows
def PatchAt (H : Hp) (v : V) (rows : List Row) : Prop := ∃ p vs, v = .ref p ∧ H p = some (.tup vs) ∧ Paired (PieceV H) vs rows
def CellsAt (H : Hp) (p : Addr) (cs : List Cell) : Prop := ∃ vs, H p = some (.lst vs) ∧ Paired (CellV H) vs cs
theorem RowsAt.same {H H' : Hp} {p : Addr} {rows : List Row} (s : Same H H') (h : RowsAt H p rows) : RowsAt H' p rows := let ⟨vs, e, r⟩ := h; ⟨vs, s _ _ e, pairedMap r fun _ _ x => x.same s⟩
theorem CellsAt.same {H H' : Hp} {p : Addr} {cs : List Cell} (s : Same H H') (h : CellsAt H p cs) : CellsAt H' p cs := let ⟨vs, e, r⟩ := h; ⟨vs, s _ _ e, pairedMap r fun _ _ x => x.tups (Same.tups s)⟩
theorem PatchAt.tups {H H' : Hp} {v : V} {rows : List Row} (s : Tups H H') (h : PatchAt H v rows) : PatchAt H' v rows := let ⟨p, vs, e, x, r⟩ := h; ⟨p, vs, e, s _ _ x, pairedMap r fun _ _ x => x.tups s⟩
theorem RowsAt.but {K : PySem.W.Frag} {a : Addr} {ns : List Int} {H H' : Hp} {d p : Addr} {rows : List Row} (D : Dice K a ns H d) (b : But d H H') (hn : p ≠ d) (h : RowsAt H p rows) : RowsAt H' p rows :=
  let ⟨vs, e, r⟩ := h; ⟨vs, b _ _ hn e, pairedMap r fun _ _ x => x.but D b⟩
/-- one row more at the end of the list -/
theorem rows_put {H : Hp} {p : Addr} {vs : List V} {rows : List Row} {v : V} {r : Row} (e : H p = some (.lst vs)) (h : Paired (RowV H) vs rows) (hv : RowV H v r) (hq : ∀ bs p' q, r = .bring bs → H p' = some (.tup [.str "bring", .ref q]) → v = .ref p' → q ≠ p) :
    RowsAt (upd H p (.lst (vs ++ [v]))) p (rows ++ [r]) := by
  refine ⟨_, upd_same, pairedApp (pairedMem h fun a ha b _ x => ?_) (.cons ?_ .nil)⟩
  · refine x.keep (Tups.lst e) fun q ns z => ?_
    rw [upd_ne]
    · exact z
    · rintro rfl
      rw [e] at z
      obtain ⟨u, rfl⟩ := x.isRef
      have z' : vs = ns.map V.int := by injection z with z; injection z
      rw [z'] at ha
      obtain ⟨_, _, z2⟩ := List.mem_map.mp ha
      cases z2
  · cases r with
    | copy b n => obtain ⟨u, e1, e2⟩ := hv; exact ⟨u, e1, Tups.lst e _ _ e2⟩
    | run b n => obtain ⟨u, e1, e2⟩ := hv; exact ⟨u, e1, Tups.lst e _ _ e2⟩
    | bring bs =>
      obtain ⟨u, q, e1, e2, e3⟩ := hv
      exact ⟨u, q, e1, Tups.lst e _ _ e2, by rw [upd_ne (hq bs u q rfl e2 e1)]; exact e3⟩
/-! ### _law_bytes, _law_rows, _law_handed, bytes_of, is_number, numbers_of -/
def spBytes (K : PySem.W.Frag) : Sp := fun vs H Q _ => ∃ (a : Addr) (ns : List Int) (d : Addr) (m : Int), vs = [.ref d, .int m] ∧ Dice K a ns H d ∧ 0 ≤ m ∧ m ≤ 1000 ∧
  ∀ H' p bs, But d H H' → Dice K a ns H' d → H p = none → H' p = some (.lst (List.map V.int bs)) → B8 bs → (bs.length : Int) ≤ m → Q (.ref p) H'
def spRows (K : PySem.W.Frag) : Sp := fun vs H Q _ => ∃ (a : Addr) (ns : List Int) (d : Addr) (c m : Int), vs = [.ref d, .int c, .int m] ∧ Dice K a ns H d ∧ 0 ≤ c ∧ c ≤ 1000 ∧ 0 ≤ m ∧ m ≤ 1000 ∧
  ∀ H' p rows, But d H H' → Dice K a ns H' d → H p = none → RowsAt H' p rows → (∀ r ∈ rows, r.ok c) → total rows ≤ m → Q (.ref p) H'
def spIsNum : Sp := fun vs H Q _ => ∃ z lo hi : Int, vs = [.int z, .int lo, .int hi] ∧ Q (.bl (decide (lo ≤ z) && decide (z ≤ hi))) H
def spBytesOf (K : PySem.W.Frag) : Sp := fun vs H Q _ => ∃ (p : Addr) (bs : List Int), vs = [.ref p] ∧ SqL K H p (bs.map V.int) ∧ B8 bs ∧ Q (.byt (byteArr bs)) H
def spNumsOf : Sp := fun vs H Q _ => ∃ bs : List Int, vs = [.byt (byteArr bs)] ∧ B8 bs ∧ bs.length ≤ 100000 ∧ ∀ p, H p = none → Q (.ref p) (upd H p (.lst (bs.map V.int)))
def spHanded : Sp := fun vs H Q _ => ∃ (p : Addr) (rows : List Row) (c : Int), vs = [.ref p] ∧ RowsAt H p rows ∧ (∀ r ∈ rows, r.ok c) ∧ rows.length ≤ 10000 ∧ ∀ H' v, Same H H' → PatchAt H' v rows → Q v H'
section
variable {P : Program} {w : World} {K : PySem.W.Frag} {mg : Str → Option Value} {base : Heap}
theorem ok_is_number (T : All K mg) : FnOk P w K mg base CX0 1 T.d_is_number.f T.d_is_number.fd ["what", "least", "most"] spIsNum := by
  refine T.d_is_number.F.ok sc_is_number (fun vs H Q E h => ?_) (fun cdv A outer s H vs Q E hr h => ?_)
  · obtain ⟨z, lo, hi, rfl, _⟩ := h
    rfl
  · obtain ⟨z, lo, hi, rfl, k⟩ := h
    refine ⟨_, (pss_one 
      (ps_ret (pe_and (pe_callB call_isi (by rfl) T.b_isinstance (by decide +kernel) (pa_cons (pv 0) (pa_cons (pe_bltn (v := .ty "int") (by rfl) T.b_int (by decide +kernel) rfl) pa_nil))) (pe_and (pe_not (pe_callB call_isi (by rfl) T.b_isinstance (by decide +kernel) (pa_cons (pv 0) (pa_cons (pe_bltn (v := .ty "bool") (by rfl) T.b_bool (by decide +kernel) rfl) pa_nil)))) (pe_one (pe_chain op_le op_le (pv 1) (pv 0) (pv 2))))))), ?_⟩
    refine ⟨_, rfl, _, _, _, _, true, rfl, .ty _, .base (.int z), kit_ty (by decide +kernel), true, rfl, iteT ?_⟩
    refine ⟨_, rfl, _, _, _, _, false, rfl, .ty _, .base (.int z), kit_ty (by decide +kernel), false, rfl, true, rfl, iteT ?_⟩
    refine ⟨_, rfl, _, rfl, _, _, rfl, rfl, decide (lo ≤ z), rfl, ?_⟩
    by_cases h1 : lo ≤ z
    · rw [decide_eq_true h1] at k ⊢
      refine iteT ⟨_, rfl, _, _, rfl, rfl, ?_⟩
      exact k
    · rw [decide_eq_false h1] at k ⊢
      exact iteF k
theorem ok_bytes_of (T : All K mg) : FnOk P w K mg base CX0 2 T.d_bytes_of.f T.d_bytes_of.fd ["numbers"] (spBytesOf K) := by
  have G_is_number : FnOk P w K mg base CX0 1 T.d_is_number.f T.d_is_number.fd ["what", "least", "most"] spIsNum := ok_is_number T
  refine T.d_bytes_of.F.ok sc_bytes_of (fun vs H Q E h => ?_) (fun cdv A outer s H vs Q E hr h => ?_)
  · obtain ⟨p, bs, rfl, _⟩ := h
    rfl
  · obtain ⟨p, bs, rfl, hS, hb, k⟩ := h
    refine ⟨_, (pss_cons 
      (ps_for PassesOwn.never rfl (pi_list (pv 0)) (pg_name (i := 1) sc_bytes_of.nd rfl (Or.inl rfl)) (pss_one 
      (ps_if (pt_not (pt_val (pe_call G_is_number (hr.mono (by decide)) rfl T.d_is_number.m T.d_is_number.F.kp T.d_is_number.b .nil pass0 (pa_cons (pv 1) (pa_cons pe_int (pa_cons (pe_glob (v := .int 255) rfl T.c_LAST_BYTE ⟨_, rfl⟩) pa_nil)))))) (pss_one ps_never) pss_nil))) (pss_one 
      (ps_ret (pe_bytesOf rfl (by rfl) T.b_bytes (pv 0))))), ?_⟩
    refine ⟨_, rfl, p, rfl, ⟨_, hS⟩, for_list (K := K) (a := p) (xs := bs.map V.int) (fun i σ H' => ∃ v : Option V, σ = [some (.ref p), v] ∧ H' = H)
      ⟨none, rfl, rfl⟩ (fun i σ H' _ ⟨_, _, e⟩ => by rw [e]; exact hS) ?_ ?_⟩
    · rintro i y σ H' hi ⟨v, rfl, rfl⟩
      obtain ⟨z, rfl, hz⟩ := at_map hi
      have hm := hb z (List.mem_of_getElem? hz)
      refine ⟨_, rfl, z, 0, 255, rfl, _, rfl, ?_⟩
      rw [decide_eq_true hm.1, decide_eq_true (show z ≤ 255 by omega)]
      refine iteF ?_
      exact ⟨_, rfl, rfl⟩
    · rintro σ H' ⟨v, rfl, rfl⟩
      refine ⟨_, rfl, .inr ⟨p, bs, rfl, hS, hb, k⟩⟩
theorem ok_numbers_of (T : All K mg) : FnOk P w K mg base CX0 1 T.d_numbers_of.f T.d_numbers_of.fd ["some"] spNumsOf := by
  refine T.d_numbers_of.F.ok sc_numbers_of (fun vs H Q E h => ?_) (fun cdv A outer s H vs Q E hr h => ?_)
  · obtain ⟨bs, rfl, _⟩ := h
    rfl
  · obtain ⟨bs, rfl, hb, hl, k⟩ := h
    refine ⟨_, (pss_one 
      (ps_ret (pe_listOfB rfl (by rfl) T.b_list (pv 0)))), ?_⟩
    refine ⟨_, rfl, _, rfl, by rw [byteArr_size]; exact sizeS hl, fun q hq => ?_⟩
    rw [bi_make hb]
    exact k q hq
end
section
variable {P : Program} {w : World} {K : PySem.W.Frag} {mg : Str → Option Value} {base : Heap}
theorem RowsAt.at {H : Hp} {p : Addr} {rows : List Row} (h : RowsAt H p rows) : ∃ vs, H p = some (.lst vs) ∧ vs.length = rows.length := by
  obtain ⟨vs, e, r⟩ := h
  exact ⟨vs, e, Paired.length r⟩
theorem ok_law_rows (T : All K mg) : FnOk P w K mg base CX0 2 T.d_law_rows.f T.d_law_rows.fd ["_law_d", "_law_count", "_law_most"] (spRows K) := by
  have G_law_next : FnOk P w K mg base CX0 1 T.d_law_next.f T.d_law_next.fd ["_law_dice_here", "_law_many"] (spNext K) := ok_law_next T
  refine T.d_law_rows.F.ok sc_law_rows (fun vs H Q E h => ?_) (fun cdv A outer s H vs Q E hr h => ?_)
  · obtain ⟨_, _, d, c, m, rfl, _⟩ := h
    rfl
  · obtain ⟨a, ns, d, c, m, rfl, D, c0, c1, m0, m1, k⟩ := h
    refine ⟨_, (pss_cons 
      (ps_par (i := 3) (j := 4) (by rfl) sc_law_rows.nd rfl rfl (by decide) rfl rfl (pa_cons (pe_lst pa_nil) (pa_cons (pe_call G_law_next (hr.mono (by decide)) rfl T.d_law_next.m T.d_law_next.F.kp T.d_law_next.b .nil pass0 (pa_cons (pv 0) (pa_cons (pe_op op_add (pv 2) pe_int) pa_nil))) pa_nil)) (by rfl)) (pss_cons 
      (ps_for PassesOwn.never rfl (pi_range1 (by rfl) T.b_range (pa_cons pe_int pa_nil)) (pg_name (i := 5) sc_law_rows.nd rfl (Or.inl rfl)) (pss_cons 
      (ps_set (i := 6) sc_law_rows.nd rfl (Or.inl rfl) (pe_callB (call_min2 rfl) (by rfl) T.b_min (by decide +kernel) (pa_cons (pv 4) (pa_cons (pe_op op_add pe_int (pe_call G_law_next (hr.mono (by decide)) rfl T.d_law_next.m T.d_law_next.F.kp T.d_law_next.b .nil pass0 (pa_cons (pv 0) (pa_cons (pe_ix ix_list (pe_lst (pa_cons pe_int (pa_cons pe_int (pa_cons pe_int pa_nil)))) (pe_call G_law_next (hr.mono (by decide)) rfl T.d_law_next.m T.d_law_next.F.kp T.d_law_next.b .nil pass0 (pa_cons (pv 0) (pa_cons pe_int pa_nil))) (fun _ _ => rfl)) pa_nil)))) pa_nil)))) (pss_one 
      (ps_if (pt_cmpR op_gt (pv 6) pe_int (nomark _)) (pss_cons 
      (ps_set (i := 7) sc_law_rows.nd rfl (Or.inl rfl) (pe_call G_law_next (hr.mono (by decide)) rfl T.d_law_next.m T.d_law_next.F.kp T.d_law_next.b .nil pass0 (pa_cons (pv 0) (pa_cons pe_int pa_nil)))) (pss_cons 
      (ps_if (PW.pt (pw_and (pt_cmpR op_lt (pv 7) pe_int (nomark _)) (pw_and1 (pt_cmpR op_gt (pv 1) pe_int (nomark _))))) (pss_cons 
      (ps_set (i := 6) sc_law_rows.nd rfl (Or.inl rfl) (pe_callB (call_min2 rfl) (by rfl) T.b_min (by decide +kernel) (pa_cons (pv 6) (pa_cons (pv 1) pa_nil)))) (pss_one 
      (ps_expr (pe_bm PySem.F.plainAttrs_list PySem.F.slot_list_append PySem.F.type_list_append mt_append (pv 3) (pa_cons (pe_tup (pa_cons pe_str (pa_cons (pe_call G_law_next (hr.mono (by decide)) rfl T.d_law_next.m T.d_law_next.F.kp T.d_law_next.b .nil pass0 (pa_cons (pv 0) (pa_cons (pe_op op_add (pe_op op_sub (pv 1) (pv 6)) pe_int) pa_nil))) (pa_cons (pv 6) pa_nil)))) pa_nil))))) (pss_one 
      (ps_if (pt_cmpR op_eq (pv 7) pe_int (nomark _)) (pss_one 
      (ps_expr (pe_bm PySem.F.plainAttrs_list PySem.F.slot_list_append PySem.F.type_list_append mt_append (pv 3) (pa_cons (pe_tup (pa_cons pe_str (pa_cons (pe_op op_mod (pe_callTy call_int1 (by rfl) T.b_int PyProof.Rows.boot_int (pa_cons (pe_op op_mul (pe_call G_law_next (hr.mono (by decide)) rfl T.d_law_next.m T.d_law_next.F.kp T.d_law_next.b .nil pass0 (pa_cons (pv 0) (pa_cons pe_int pa_nil))) pe_int) pa_nil)) pe_int) (pa_cons (pv 6) pa_nil)))) pa_nil)))) (pss_one 
      (ps_expr (pe_bm PySem.F.plainAttrs_list PySem.F.slot_list_append PySem.F.type_list_append mt_append (pv 3) (pa_cons (pe_tup (pa_cons pe_str (pa_cons (pe_lc (own := [("_law_k", 8)]) (g := gName 8) (tt := tYes) rfl sc_law_rows.nd (pi_range1 (by rfl) T.b_range (pa_cons (pv 6) pa_nil)) (blkOk_by (own := [("_law_k", 8)]) (N := ["_law_d", "_law_count", "_law_most", "_law_rows_here", "_law_left", "_law_turn", "_law_n", "_law_pick", "_law_k"]) (sc := defScope s_law_rows) (by decide +kernel)) (fun _ _ _ _ _ => (pg_name (i := 8) sc_law_rows.nd rfl (Or.inl rfl))) (fun _ _ _ _ _ => pts_nil) (fun _ _ _ _ _ => (pe_op op_mod (pe_callTy call_int1 (by rfl) T.b_int PyProof.Rows.boot_int (pa_cons (pe_op op_mul (pe_call G_law_next (hr.mono (by decide)) rfl T.d_law_next.m T.d_law_next.F.kp T.d_law_next.b .nil pass0 (pa_cons (pv 0) (pa_cons pe_int pa_nil))) pe_int) pa_nil)) pe_int))) pa_nil))) pa_nil))))))) (pss_one 
      (ps_set (i := 4) sc_law_rows.nd rfl (Or.inl rfl) (pe_op op_sub (pv 4) (pv 6)))))) pss_nil)))) (pss_one 
      (ps_ret (pv 3))))), ?_⟩
    refine ⟨sizeS (by show 0 ≤ 100000; decide), fun p hp => ⟨_, rfl, _, rfl, _, _, rfl, rfl, a, ns, d, m + 1, rfl, D.same (Same.new hp), by omega, by omega, fun H1 l b1 D1 l0 l1 => ⟨_, _, rfl, ?_⟩⟩⟩
    have npd : p ≠ d := D.ne hp
    have B1 : But d H H1 := (But.new hp).trans b1
    have hp1 : H1 p = some (.lst []) := b1 p _ npd upd_same
    refine ⟨40, rfl, by decide, by decide, for_range (lo := 0) (n := 40) (fun i σ H2 => ∃ (l : Int) (rows : List Row) (v5 v6 v7 v8 : Option V),
      σ = [some (.ref d), some (.int c), some (.int m), some (.ref p), some (.int l), v5, v6, v7, v8] ∧ But d H H2 ∧ Dice K a ns H2 d ∧ RowsAt H2 p rows ∧ (∀ r ∈ rows, r.ok c) ∧ 0 ≤ l ∧ total rows + l ≤ m ∧ rows.length ≤ i)
      ⟨l, [], none, none, none, none, rfl, B1, D1, ⟨[], hp1, .nil⟩, fun r hr => (List.not_mem_nil hr).elim, l0, by show 0 + l ≤ m; omega, Nat.le_refl _⟩ ?_ ?_⟩
    · rintro i σ H2 hi ⟨l, rows, v5, v6, v7, v8, rfl, b2, D2, R2, hok, hl0, htot, hlen⟩
      -- _law_n = min(..)
      refine ⟨_, rfl, _, rfl, sizeS (by show 3 ≤ 100000; decide), fun q hq => ⟨_, rfl, a, ns, d, 3, rfl, D2.same (Same.new hq), by decide, by decide, fun H3 r b3 D3 r0 r1 => ?_⟩⟩
      have hq3 : H3 q = some (.lst (List.map V.int [3, 12, 40])) := ints_but (D2.same (Same.new hq)) b3 (by exact upd_same)
      obtain ⟨kd, hk, k0, k1⟩ : ∃ kd : Int, atI (List.map V.int [3, 12, 40]) r = some (.int kd) ∧ 1 ≤ kd ∧ kd ≤ 40 := by
        have : r = 0 ∨ r = 1 ∨ r = 2 := by omega
        rcases this with rfl | rfl | rfl
        · exact ⟨3, rfl, by decide, by decide⟩
        · exact ⟨12, rfl, by decide, by decide⟩
        · exact ⟨40, rfl, by decide, by decide⟩
      refine ⟨q, _, _, _, rfl, rfl, SqL.of hq3, hk, a, ns, d, kd, rfl, D3, by omega, by omega, fun H4 t b4 D4 t0 t1 => ?_⟩
      have b24 : But d H2 H4 := (But.new hq).trans (b3.trans b4)
      have R4 : RowsAt H4 p rows := R2.but D2 b24 npd
      refine ⟨_, _, rfl, rfl, _, _, rfl, ?_⟩
      generalize hn : (if 1 + t < l then 1 + t else l) = n
      have hnl : n ≤ l := by rw [← hn]; split <;> omega
      have hn41 : n ≤ 40 := by rw [← hn]; split <;> omega
      refine ⟨_, rfl, _, _, rfl, rfl, _, rfl, ite2 (fun hpos => ?_) fun hneg => ?_⟩
      · have hpos : 0 < n := of_decide_eq_true hpos
        refine ⟨_, rfl, a, ns, d, 6, rfl, D4, by decide, by decide, fun H5 pk b5 D5 p0 p1 => ?_⟩
        have b05 : But d H H5 := b2.trans (b24.trans b5)
        have R5 : RowsAt H5 p rows := R4.but D4 b5 npd
        obtain ⟨vs, hv, hvl⟩ := R5.at
        -- what comes behind an append
        have fin : ∀ (r : Row) (H7 : Hp) (tv : V) (n' : Int), But d H5 H7 → Dice K a ns H7 d → r.ok c → r.len = n' → n' ≤ n → RowV H7 tv r → (∀ bs p' q, r = .bring bs → H7 p' = some (.tup [.str "bring", .ref q]) → tv = .ref p' → q ≠ p) → 
            H7 p = some (.lst vs) ∧ (∃ rows' : List Row, But d H (upd H7 p (.lst (vs ++ [tv]))) ∧ Dice K a ns (upd H7 p (.lst (vs ++ [tv]))) d ∧ RowsAt (upd H7 p (.lst (vs ++ [tv]))) p rows' ∧ (∀ r ∈ rows', r.ok c) ∧ 0 ≤ l - n' ∧ total rows' + (l - n') ≤ m ∧ rows'.length ≤ i + 1) := by
          intro r H7 tv n' b7 D7 hro hrl hnn hrv hbr
          have hv7 : H7 p = some (.lst vs) := b7 p _ npd hv
          obtain ⟨vs', hv', hp'⟩ := R5.but D5 b7 npd
          have ev : vs' = vs := by rw [hv7] at hv'; injection hv' with z; injection z with z; exact z.symm
          subst ev
          refine ⟨hv7, rows ++ [r], But.fresh (b05.trans b7) hp, Dice.fresh D (b05.trans b7) hp D7, rows_put hv7 hp' hrv hbr, fun x hx => ?_, by omega, ?_, ?_⟩
          · rcases List.mem_append.mp hx with hx | hx
            · exact hok x hx
            · rw [List.mem_singleton.mp hx]; exact hro
          · rw [total_app]
            have : total [r] = n' := by show r.len + 0 = n'; omega
            omega
          · rw [List.length_append]; show rows.length + 1 ≤ i + 1; omega
        refine ⟨_, rfl, _, _, rfl, rfl, _, rfl, ite2 (fun h1 => ⟨_, rfl, _, _, rfl, rfl, _, rfl, ite2 (fun h2 => ?copy) (fun h2 => ?e1)⟩) (fun h1 => iteF ?e2)⟩
        case copy =>
          have h2 : 0 < c := of_decide_eq_true h2
          refine ⟨_, rfl, _, rfl, _, _, rfl, ?_⟩
          generalize hm : (if c < n then c else n) = n'
          have hm1 : n' ≤ n := by rw [← hm]; split <;> omega
          have hm2 : n' ≤ c := by rw [← hm]; split <;> omega
          have hm3 : 1 ≤ n' := by rw [← hm]; split <;> omega
          refine ⟨_, rfl, .inl ⟨rfl, _, SqL.of hv⟩, _, rfl, _, rfl, _, rfl, _, _, rfl, rfl, _, _, rfl, rfl, a, ns, d, c - n' + 1, rfl, D5, by omega, by omega, fun H6 b b6 D6 z0 z1 => ⟨_, rfl, sizeS (by show 3 ≤ 100000; decide), fun tq htq => ?_⟩⟩
          obtain ⟨hv7, rows', q1, q2, q3, q4, q5, q6, q7⟩ := fin (.copy b n') (upd H6 tq (.tup [.str "copy", .int b, .int n'])) (.ref tq) n' (b6.trans (But.new htq)) (D6.same (Same.new htq)) ⟨z0, hm3, by omega⟩ rfl hm1 ⟨tq, rfl, upd_same⟩ (fun _ _ _ e => by cases e)
          refine ⟨p, vs, _, rfl, rfl, hv7, sizeL (by omega), _, rfl, _, rfl, _, _, rfl, rfl, ?_⟩
          exact ⟨_, rows', _, _, _, _, rfl, q1, q2, q3, q4, q5, q6, q7⟩
        all_goals
          refine ⟨_, rfl, rfl, _, rfl, ite2 (fun h3 => ?_) fun h3 => ?_⟩
          · refine ⟨_, rfl, .inl ⟨rfl, _, SqL.of hv⟩, _, rfl, a, ns, d, 3, rfl, D5, by decide, by decide, fun H6 u b6 D6 u0 u1 => ⟨_, _, rfl, rfl, .inl ⟨by omega, by omega⟩, .inl ⟨_, rfl, _, _, rfl, rfl, (by show (0 : Int) < 256; decide), _, rfl, sizeS (by show 3 ≤ 100000; decide), fun tq htq => ?_⟩⟩⟩
            obtain ⟨hv7, rows', q1, q2, q3, q4, q5, q6, q7⟩ := fin (.run (u * 97 % 256) n) (upd H6 tq (.tup [.str "run", .int (u * 97 % 256), .int n])) (.ref tq) n (b6.trans (But.new htq)) (D6.same (Same.new htq)) ⟨Int.emod_nonneg _ (by decide), Int.emod_lt_of_pos _ (by decide), by omega⟩ rfl (Int.le_refl _) ⟨tq, rfl, upd_same⟩ (fun _ _ _ e => by cases e)
            refine ⟨p, vs, _, rfl, rfl, hv7, sizeL (by omega), _, rfl, _, rfl, _, _, rfl, rfl, ?_⟩
            exact ⟨_, rows', _, _, _, _, rfl, q1, q2, q3, q4, q5, q6, q7⟩
          · refine ⟨_, rfl, .inl ⟨rfl, _, SqL.of hv⟩, _, rfl, n, rfl, by omega, by omega, fun e he => lc_range (lo := 0) (n := n.toNat) (fun j H6 => ∃ bs : List Int, But d H5 H6 ∧ Dice K a ns H6 d ∧ H6 e = some (.lst (bs.map V.int)) ∧ B8 bs ∧ bs.length = j)
              ⟨[], But.new he, D5.same (Same.new he), upd_same, fun n hn => (List.not_mem_nil hn).elim, rfl⟩ ?_ ?_⟩
            · rintro j H6 hj ⟨bs, b6, D6, he6, hb, hblen⟩
              refine ⟨rfl, ?_⟩
              refine ⟨_, rfl, a, ns, d, 3, rfl, D6, by decide, by decide, fun H7 u b7 D7 u0 u1 => ⟨_, _, rfl, rfl, .inl ⟨by omega, by omega⟩, .inl ⟨_, rfl, _, _, rfl, rfl, (by show (0 : Int) < 256; decide), ?_⟩⟩⟩
              have he7 : H7 e = some (.lst (bs.map V.int)) := b7 e _ (D5.ne he) he6
              refine ⟨_, he7, sizeL (by rw [List.length_map]; omega), bs ++ [u * 97 % 256], But.fresh (b6.trans b7) he, Dice.fresh D5 (b6.trans b7) he D7, ?_, ?_, ?_⟩
              · rw [upd_same, List.map_append]; rfl
              · exact hb.app (fun n hn => by
                  rw [List.mem_singleton.mp hn]
                  exact ⟨Int.emod_nonneg _ (by decide), Int.emod_lt_of_pos _ (by decide)⟩)
              · rw [List.length_append]; show bs.length + 1 = j + 1; omega
            · rintro H6 ⟨bs, b6, D6, he6, hb, hblen⟩
              refine ⟨sizeS (by show 2 ≤ 100000; decide), fun tq htq => ?_⟩
              have nep : e ≠ p := (ne_of_none hv he).symm
              obtain ⟨hv7, rows', q1, q2, q3, q4, q5, q6, q7⟩ := fin (.bring bs) (upd H6 tq (.tup [.str "bring", .ref e])) (.ref tq) n (b6.trans (But.new htq)) (D6.same (Same.new htq)) ⟨by omega, hb⟩ (by show (bs.length : Int) = n; omega) (Int.le_refl _)
                ⟨tq, e, rfl, upd_same, by rw [upd_ne (ne_of_none he6 htq)]; exact he6⟩ (fun bs' p' q' e1 e2 e3 => by
                  cases e3
                  rw [upd_same] at e2
                  injection e2 with e2
                  injection e2 with e2
                  injection e2 with _ e2
                  injection e2 with e2 _
                  injection e2 with e2
                  rw [← e2]; exact nep)
              refine ⟨p, vs, _, rfl, rfl, hv7, sizeL (by omega), _, rfl, _, rfl, _, _, rfl, rfl, ?_⟩
              exact ⟨_, rows', _, _, _, _, rfl, q1, q2, q3, q4, q5, q6, q7⟩
      · exact ⟨l, rows, _, _, _, _, rfl, b2.trans b24, D4, R4, hok, hl0, htot, by omega⟩
    · rintro σ H2 ⟨l, rows, v5, v6, v7, v8, rfl, b2, D2, R2, hok, hl0, htot, hlen⟩
      refine ⟨_, rfl, ?_⟩
      exact k H2 p rows b2 D2 hp R2 hok (by omega)
theorem ok_law_handed (T : All K mg) : FnOk P w K mg base CX0 3 T.d_law_handed.f T.d_law_handed.fd ["_law_rows_here"] spHanded := by
  have G_bytes_of : FnOk P w K mg base CX0 2 T.d_bytes_of.f T.d_bytes_of.fd ["numbers"] (spBytesOf K) := ok_bytes_of T
  refine T.d_law_handed.F.ok sc_law_handed (fun vs H Q E h => ?_) (fun cdv A outer s H vs Q E hr h => ?_)
  · obtain ⟨p, _, _, rfl, _⟩ := h
    rfl
  · obtain ⟨p, rows, c, rfl, ⟨vs, hv, hpr⟩, hok, hlen, k⟩ := h
    have hvl : vs.length = rows.length := Paired.length hpr
    refine ⟨_, (pss_cons 
      (ps_set (i := 1) sc_law_handed.nd rfl (Or.inl rfl) (pe_lst pa_nil)) (pss_cons 
      (ps_for PassesOwn.never rfl (pi_list (pv 0)) (pg_name (i := 2) sc_law_handed.nd rfl (Or.inl rfl)) (pss_one 
      (ps_expr (pe_bm PySem.F.plainAttrs_list PySem.F.slot_list_append PySem.F.type_list_append mt_append (pv 1) (pa_cons (pe_ifExp (pt_cmpR op_eq (pe_ix ix_tup (pv 2) pe_int (fun _ _ => rfl)) pe_str (nomark _)) (pe_tup (pa_cons pe_str (pa_cons (pe_call G_bytes_of (hr.mono (by decide)) rfl T.d_bytes_of.m T.d_bytes_of.F.kp T.d_bytes_of.b .nil pass0 (pa_cons (pe_ix ix_tup (pv 2) pe_int (fun _ _ => rfl)) pa_nil)) pa_nil))) (pe_callTy call_tuple_of (by rfl) T.b_tuple (by decide +kernel) (pa_cons (pv 2) pa_nil))) pa_nil))))) (pss_one 
      (ps_ret (pe_callTy call_tuple_of (by rfl) T.b_tuple (by decide +kernel) (pa_cons (pv 1) pa_nil)))))), ?_⟩
    refine ⟨sizeS (by show 0 ≤ 100000; decide), fun f hf => ?_⟩
    refine ⟨_, rfl, p, rfl, ⟨vs, SqL.of (Same.new hf _ _ hv)⟩, for_list (K := K) (a := p) (xs := vs) (fun i σ H2 => ∃ (ws : List V) (v : Option V), σ = [some (.ref p), some (.ref f), v] ∧ Same H H2 ∧ H2 f = some (.lst ws) ∧ Paired (PieceV H2) ws (rows.take i))
      ⟨[], none, rfl, Same.new hf, upd_same, .nil⟩ (fun i σ H2 _ ⟨_, _, _, s2, _⟩ => SqL.of (s2 _ _ hv)) ?_ ?_⟩
    · rintro i y σ H2 hi ⟨ws, v, rfl, s2, hf2, hw⟩
      obtain ⟨r, hr1, hr2⟩ := pairedAt hpr hi
      have hro := hok r (List.mem_of_getElem? hr1)
      have hwl : ws.length = (rows.take i).length := Paired.length hw
      have hil : i < rows.length := (List.getElem?_eq_some_iff.mp hr1).1
      have hwi : ws.length = i := by rw [hwl, List.length_take]; omega
      have htk : rows.take (i + 1) = rows.take i ++ [r] := by rw [List.take_add_one, hr1]; rfl
      -- what comes behind the append
      have fin : ∀ (H3 : Hp) (tv : V), Same H2 H3 → PieceV H3 tv r → H3 f = some (.lst ws) ∧ Same H (upd H3 f (.lst (ws ++ [tv]))) ∧ Paired (PieceV (upd H3 f (.lst (ws ++ [tv])))) (ws ++ [tv]) (rows.take (i + 1)) := by
        intro H3 tv s3 hpv
        have hf3 := s3 _ _ hf2
        refine ⟨hf3, fun b o e => ?_, ?_⟩
        · rw [upd_ne (ne_of_none e hf)]; exact s3 _ _ (s2 _ _ e)
        · rw [htk]
          exact pairedApp (pairedMap hw fun _ _ x => (x.tups (Same.tups s3)).tups (Tups.lst hf3)) (.cons (hpv.tups (Tups.lst hf3)) .nil)
      refine ⟨_, rfl, .inl ⟨rfl, _, SqL.of hf2⟩, ?_⟩
      cases r with
      | copy b n =>
        obtain ⟨t, rfl, ht⟩ := hr2.same s2
        refine ⟨_, rfl, t, _, _, _, rfl, rfl, SqT.of ht, rfl, rfl, _, rfl, ite2 (fun h => absurd h (by decide)) fun _ => ?_⟩
        refine ⟨_, rfl, t, _, rfl, .inr ⟨SqT.of ht, ?_⟩⟩
        obtain ⟨q1, q2, q3⟩ := fin H2 (.ref t) (Same.refl _) ⟨t, rfl, ht⟩
        exact ⟨f, ws, _, rfl, rfl, q1, sizeL (by omega), _, _, rfl, q2, upd_same, q3⟩
      | run b n =>
        obtain ⟨t, rfl, ht⟩ := hr2.same s2
        refine ⟨_, rfl, t, _, _, _, rfl, rfl, SqT.of ht, rfl, rfl, _, rfl, ite2 (fun h => absurd h (by decide)) fun _ => ?_⟩
        refine ⟨_, rfl, t, _, rfl, .inr ⟨SqT.of ht, ?_⟩⟩
        obtain ⟨q1, q2, q3⟩ := fin H2 (.ref t) (Same.refl _) ⟨t, rfl, ht⟩
        exact ⟨f, ws, _, rfl, rfl, q1, sizeL (by omega), _, _, rfl, q2, upd_same, q3⟩
      | bring bs =>
        obtain ⟨t, q, rfl, ht, hq⟩ := hr2.same s2
        refine ⟨_, rfl, t, _, _, _, rfl, rfl, SqT.of ht, rfl, rfl, _, rfl, ite2 (fun _ => ?_) fun h => absurd (by decide) h⟩
        refine ⟨_, rfl, t, _, _, _, rfl, rfl, SqT.of ht, rfl, q, bs, rfl, SqL.of hq, hro.2, sizeS (by show 2 ≤ 100000; decide), fun t2 ht2 => ?_⟩
        obtain ⟨q1, q2, q3⟩ := fin (upd H2 t2 (.tup [.str "bring", .byt (byteArr bs)])) (.ref t2) (Same.new ht2) ⟨t2, rfl, upd_same⟩
        exact ⟨f, ws, _, rfl, rfl, q1, sizeL (by omega), _, _, rfl, q2, upd_same, q3⟩
    · rintro σ H2 ⟨ws, v, rfl, s2, hf2, hw⟩
      rw [hvl, List.take_length] at hw
      refine ⟨_, rfl, f, ws, rfl, .inl ⟨SqL.of hf2, fun u hu => ?_⟩⟩
      exact k _ _ (s2.trans (Same.new hu)) ⟨u, ws, rfl, upd_same, pairedMap hw fun _ _ x => x.tups (Same.tups (Same.new hu))⟩
end
/-! ### what a patch tells -/
def cellsR : Row → List Cell
  | .copy b n => (List.range n.toNat).map fun i => Cell.old (b + (i : Nat))
  | .run b n => List.replicate n.toNat (Cell.new b)
  | .bring bs => bs.map Cell.new
def cellsOf (rows : List Row) : List Cell := rows.flatMap cellsR
def Good (rows : List Row) : Prop := (∀ r ∈ rows, r.ok 200) ∧ total rows ≤ 200
def endsOf : List Row → List Int
  | [] => []
  | .copy b n :: l => (b + n) :: endsOf l
  | _ :: l => endsOf l
def top0 : List Int → Int
  | [] => 0
  | x :: l => if top0 l < x then x else top0 l
def needsOf (rows : List Row) : Int := top0 (endsOf rows)
def valOf (es : List Int) : Cell → Int
  | .old k => es.getD k.toNat 0
  | .new b => b
def doneOf (rows : List Row) (es : List Int) : List Int := (cellsOf rows).map (valOf es)
theorem Row.ok_mono {c e : Int} (h : c ≤ e) : ∀ {r : Row}, r.ok c → r.ok e
  | .copy _ _, ⟨a, b, d⟩ => ⟨a, b, by omega⟩
  | .run _ _, x => x
  | .bring _, x => x
theorem top0_ge : ∀ {l : List Int} {y : Int}, y ∈ l → y ≤ top0 l
  | x :: l, y, h => by
    show y ≤ if top0 l < x then x else top0 l
    rcases List.mem_cons.mp h with rfl | h
    · split <;> omega
    · have := top0_ge h
      split <;> omega
theorem top0_is : ∀ (l : List Int), top0 l = 0 ∨ top0 l ∈ l
  | [] => .inl rfl
  | x :: l => by
    show (if top0 l < x then x else top0 l) = 0 ∨ (if top0 l < x then x else top0 l) ∈ x :: l
    split
    · exact .inr List.mem_cons_self
    · rcases top0_is l with h | h
      · exact .inl h
      · exact .inr (List.mem_cons_of_mem _ h)
theorem top0_nn : ∀ (l : List Int), 0 ≤ top0 l
  | [] => by show (0 : Int) ≤ 0; decide
  | x :: l => by
    have := top0_nn l
    show (0 : Int) ≤ if top0 l < x then x else top0 l
    split <;> omega
theorem ends_pos {c : Int} : ∀ {l : List Row}, (∀ r ∈ l, r.ok c) → ∀ y ∈ endsOf l, 0 < y
  | [], _, y, hy => (List.not_mem_nil hy).elim
  | .copy b n :: l, h, y, hy => by
    have h0 := h _ List.mem_cons_self
    rcases List.mem_cons.mp hy with rfl | hy
    · have := h0.1; have := h0.2.1; omega
    · exact ends_pos (fun r hr => h r (List.mem_cons_of_mem _ hr)) y hy
  | .run b n :: l, h, y, hy => ends_pos (fun r hr => h r (List.mem_cons_of_mem _ hr)) y hy
  | .bring bs :: l, h, y, hy => ends_pos (fun r hr => h r (List.mem_cons_of_mem _ hr)) y hy
theorem top0_eq {l : List Int} {m : Int} (hm : m ∈ l) (hp : 0 < m) (ht : ∀ y, y ∈ l → y ≤ m) : m = top0 l := by
  have h1 := top0_ge hm
  rcases top0_is l with h | h
  · omega
  · have := ht _ h; omega
theorem cellsR_len {c : Int} : ∀ {r : Row}, r.ok c → ((cellsR r).length : Int) = r.len
  | .copy b n, h => by
    have := h.2.1
    show ((((List.range n.toNat).map fun i => Cell.old (b + (i : Nat))).length : Nat) : Int) = n
    rw [List.length_map, List.length_range]; omega
  | .run b n, h => by
    have := h.2.2
    show (((List.replicate n.toNat (Cell.new b)).length : Nat) : Int) = n
    rw [List.length_replicate]; omega
  | .bring bs, h => by
    show (((bs.map Cell.new).length : Nat) : Int) = bs.length
    rw [List.length_map]
theorem cellsOf_len {c : Int} : ∀ {l : List Row}, (∀ r ∈ l, r.ok c) → ((cellsOf l).length : Int) = total l
  | [], _ => rfl
  | r :: l, h => by
    have a := cellsR_len (h r List.mem_cons_self)
    have b := cellsOf_len (l := l) fun x hx => h x (List.mem_cons_of_mem _ hx)
    show ((((cellsR r) ++ cellsOf l).length : Nat) : Int) = r.len + total l
    rw [List.length_append]; omega
theorem take_snoc {α : Type} {l : List α} {i : Nat} {x : α} (h : l[i]? = some x) : l.take (i + 1) = l.take i ++ [x] := by rw [List.take_add_one, h]; rfl
theorem total_take {l : List Row} {i : Nat} {r : Row} (h : l[i]? = some r) : total (l.take (i + 1)) = total (l.take i) + r.len := by
  rw [take_snoc h, total_app]
  show total (l.take i) + (r.len + 0) = _
  omega
theorem total_take_le {c : Int} {l : List Row} (h : ∀ r ∈ l, r.ok c) (i : Nat) : total (l.take i) ≤ total l := by
  have e := total_app (l.take i) (l.drop i)
  rw [List.take_append_drop] at e
  have := total_nn (l := l.drop i) fun r hr => h r (List.mem_of_mem_drop hr)
  omega
theorem len_le_of {c : Int} {l : List Row} (h : ∀ r ∈ l, r.ok c) {r : Row} (hr : r ∈ l) : r.len ≤ total l := by
  obtain ⟨i, hi, rfl⟩ := List.mem_iff_getElem.mp hr
  have a := total_take (List.getElem?_eq_getElem hi)
  have b := total_take_le h (i + 1)
  have d := total_nn (l := l.take i) fun r hr => h r (List.mem_of_mem_take hr)
  omega
theorem CellsAt.len {H : Hp} {p : Addr} {cs : List Cell} (h : CellsAt H p cs) : ∃ vs, H p = some (.lst vs) ∧ Paired (CellV H) vs cs ∧ vs.length = cs.length := let ⟨vs, e, r⟩ := h; ⟨vs, e, r, Paired.length r⟩
/-! ### the promises -/
def spCanBe : Sp := fun vs H Q _ => ∃ (p : Addr) (r : Row), vs = [.ref p] ∧ H p = some (.tup r.tup) ∧ r.ok 200 ∧ r.len ≤ 200 ∧ Q (.bl true) H
def spLengthOf : Sp := fun vs H Q _ => ∃ (p : Addr) (r : Row), vs = [.ref p] ∧ H p = some (.tup r.tup) ∧ r.ok 200 ∧ r.len ≤ 200 ∧ Q (.int r.len) H
def spCellsOf : Sp := fun vs H Q _ => ∃ (p : Addr) (r : Row), vs = [.ref p] ∧ H p = some (.tup r.tup) ∧ r.ok 200 ∧ r.len ≤ 200 ∧ ∀ H' q, Same H H' → H q = none → CellsAt H' q (cellsR r) → Q (.ref q) H'
def spCheckPatch : Sp := fun vs H Q _ => ∃ (v : V) (rows : List Row), vs = [v] ∧ PatchAt H v rows ∧ Good rows ∧ ∀ H', Same H H' → Q .non H'
def spCheckEdition : Sp := fun vs H Q _ => ∃ es : List Int, vs = [.byt (byteArr es)] ∧ es.length ≤ 200 ∧ Q .non H
def spCheckReach : Sp := fun vs H Q _ => ∃ (v : V) (rows : List Row) (es : List Int), vs = [v, .byt (byteArr es)] ∧ PatchAt H v rows ∧ (∀ r ∈ rows, r.ok es.length) ∧ es.length ≤ 200 ∧ ∀ H', Same H H' → Q .non H'
def spCells : Sp := fun vs H Q _ => ∃ (v : V) (rows : List Row), vs = [v] ∧ PatchAt H v rows ∧ Good rows ∧ ∀ H' p, Same H H' → H p = none → CellsAt H' p (cellsOf rows) → Q (.ref p) H'
def spMakes : Sp := fun vs H Q _ => ∃ (v : V) (rows : List Row), vs = [v] ∧ PatchAt H v rows ∧ Good rows ∧ ∀ H', Same H H' → Q (.int (total rows)) H'
def spNeeds : Sp := fun vs H Q _ => ∃ (v : V) (rows : List Row), vs = [v] ∧ PatchAt H v rows ∧ Good rows ∧ ∀ H', Same H H' → Q (.int (needsOf rows)) H'
def spDone : Sp := fun vs H Q _ => ∃ (v : V) (rows : List Row) (es : List Int), vs = [v, .byt (byteArr es)] ∧ PatchAt H v rows ∧ Good rows ∧ (∀ r ∈ rows, r.ok es.length) ∧ B8 es ∧ es.length ≤ 200 ∧ ∀ H', Same H H' → Q (.byt (byteArr (doneOf rows es))) H'
section
variable {P : Program} {w : World} {K : PySem.W.Frag} {mg : Str → Option Value} {base : Heap}
theorem ok_length_of (T : All K mg) : FnOk P w K mg base CX0 1 T.d_length_of.f T.d_length_of.fd ["piece"] spLengthOf := by
  refine T.d_length_of.F.ok sc_length_of (fun vs H Q E h => ?_) (fun cdv A outer s H vs Q E hr h => ?_)
  · obtain ⟨p, _, rfl, _⟩ := h
    rfl
  · obtain ⟨p, r, rfl, hp, hok, hl, k⟩ := h
    refine ⟨_, (pss_cons 
      (ps_if (pt_cmpR op_eq (pe_ix ix_tup (pv 0) pe_int (fun _ _ => rfl)) pe_str (nomark _)) (pss_one 
      (ps_ret (pe_callB call_len (by rfl) T.b_len PySem.boot_len (pa_cons (pe_ix ix_tup (pv 0) pe_int (fun _ _ => rfl)) pa_nil)))) pss_nil) (pss_one 
      (ps_ret (pe_ix ix_tup (pv 0) pe_int (fun _ _ => rfl))))), ?_⟩
    cases r with
    | copy b n =>
      refine ⟨_, rfl, p, _, _, _, rfl, rfl, SqT.of hp, rfl, rfl, _, rfl, ite2 (fun h => absurd h (by decide)) fun _ => ?_⟩
      exact ⟨_, rfl, p, _, _, _, rfl, rfl, SqT.of hp, rfl, k⟩
    | run b n =>
      refine ⟨_, rfl, p, _, _, _, rfl, rfl, SqT.of hp, rfl, rfl, _, rfl, ite2 (fun h => absurd h (by decide)) fun _ => ?_⟩
      exact ⟨_, rfl, p, _, _, _, rfl, rfl, SqT.of hp, rfl, k⟩
    | bring bs =>
      refine ⟨_, rfl, p, _, _, _, rfl, rfl, SqT.of hp, rfl, rfl, _, rfl, ite2 (fun _ => ?_) fun h => absurd (by decide) h⟩
      have hl : (bs.length : Int) ≤ 200 := hl
      refine ⟨_, rfl, p, _, _, _, rfl, rfl, SqT.of hp, rfl, _, bs.length, rfl, ⟨by rw [byteArr_size]; exact sizeS (by omega), (byteArr_size bs).symm⟩, k⟩
theorem ok_can_be (T : All K mg) : FnOk P w K mg base CX0 2 T.d_can_be.f T.d_can_be.fd ["piece"] spCanBe := by
  have G_is_number : FnOk P w K mg base CX0 1 T.d_is_number.f T.d_is_number.fd ["what", "least", "most"] spIsNum := ok_is_number T
  refine T.d_can_be.F.ok sc_can_be (fun vs H Q E h => ?_) (fun cdv A outer s H vs Q E hr h => ?_)
  · obtain ⟨p, _, rfl, _⟩ := h
    rfl
  · obtain ⟨p, r, rfl, hp, hok, hl, k⟩ := h
    refine ⟨_, (pss_cons 
      (ps_if (pt_not (pt_val (pe_callB call_isi (by rfl) T.b_isinstance (by decide +kernel) (pa_cons (pv 0) (pa_cons (pe_bltn (v := .ty "tuple") (by rfl) T.b_tuple (by decide +kernel) rfl) pa_nil))))) (pss_one 
      (ps_ret pe_bl)) pss_nil) (pss_cons 
      (ps_if (pt_cmpR op_eq (pe_callB call_len (by rfl) T.b_len PySem.boot_len (pa_cons (pv 0) pa_nil)) pe_int (nomark _)) (pss_cons 
      (ps_asg (pv 0) (pg_tup rfl (pgs_cons (pg_name (i := 1) sc_can_be.nd rfl (Or.inl rfl)) (pgs_cons (pg_name (i := 2) sc_can_be.nd rfl (Or.inl rfl)) pgs_nil)))) (pss_one 
      (ps_ret (pe_and (pe_cmpR op_eq (pv 1) pe_str (nomark _)) (pe_and (pe_callB call_isi (by rfl) T.b_isinstance (by decide +kernel) (pa_cons (pv 2) (pa_cons (pe_bltn (v := .ty "bytes") (by rfl) T.b_bytes (by decide +kernel) rfl) pa_nil))) (pe_one (pe_chain op_le op_le pe_int (pe_callB call_len (by rfl) T.b_len PySem.boot_len (pa_cons (pv 2) pa_nil)) (pe_glob (v := .int 200) rfl T.c_MOST ⟨_, rfl⟩)))))))) pss_nil) (pss_cons 
      (ps_if (pt_cmpR op_ne (pe_callB call_len (by rfl) T.b_len PySem.boot_len (pa_cons (pv 0) pa_nil)) pe_int (nomark _)) (pss_one 
      (ps_ret pe_bl)) pss_nil) (pss_cons 
      (ps_asg (pv 0) (pg_tup rfl (pgs_cons (pg_name (i := 1) sc_can_be.nd rfl (Or.inl rfl)) (pgs_cons (pg_name (i := 3) sc_can_be.nd rfl (Or.inl rfl)) (pgs_cons (pg_name (i := 4) sc_can_be.nd rfl (Or.inl rfl)) pgs_nil))))) (pss_cons 
      (ps_if (pt_not (pt_val (pe_call G_is_number (hr.mono (by decide)) rfl T.d_is_number.m T.d_is_number.F.kp T.d_is_number.b .nil pass0 (pa_cons (pv 4) (pa_cons pe_int (pa_cons (pe_glob (v := .int 200) rfl T.c_MOST ⟨_, rfl⟩) pa_nil)))))) (pss_one 
      (ps_ret pe_bl)) pss_nil) (pss_cons 
      (ps_if (pt_cmpR op_eq (pv 1) pe_str (nomark _)) (pss_one 
      (ps_ret (pe_call G_is_number (hr.mono (by decide)) rfl T.d_is_number.m T.d_is_number.F.kp T.d_is_number.b .nil pass0 (pa_cons (pv 3) (pa_cons pe_int (pa_cons (pe_op op_sub (pe_glob (v := .int 200) rfl T.c_MOST ⟨_, rfl⟩) (pv 4)) pa_nil)))))) pss_nil) (pss_one 
      (ps_ret (pe_and (pe_cmpR op_eq (pv 1) pe_str (nomark _)) (pe_one (pe_call G_is_number (hr.mono (by decide)) rfl T.d_is_number.m T.d_is_number.F.kp T.d_is_number.b .nil pass0 (pa_cons (pv 3) (pa_cons pe_int (pa_cons (pe_glob (v := .int 255) rfl T.c_LAST_BYTE ⟨_, rfl⟩) pa_nil)))))))))))))), ?_⟩
    refine ⟨_, rfl, _, _, _, _, true, rfl, .ty _, .base (.tup hp), kit_ty (by decide +kernel), true, rfl, iteF ?_⟩
    cases r with
    | copy b n =>
      have h1 := hok.1
      have h2 := hok.2.1
      have h3 := hok.2.2
      have h4 : n ≤ 200 := hl
      refine ⟨_, rfl, _, 3, rfl, .inr ⟨_, SqT.of hp, rfl⟩, rfl, _, rfl, ite2 (fun h => absurd h (by decide)) fun _ => ?_⟩
      refine ⟨_, rfl, _, 3, rfl, .inr ⟨_, SqT.of hp, rfl⟩, rfl, _, rfl, ite2 (fun h => absurd h (by decide)) fun _ => ?_⟩
      refine ⟨_, rfl, p, _, rfl, SqT.of hp, rfl, _, _, rfl, _, _, rfl, _, _, rfl, rfl, ?_⟩
      refine ⟨_, rfl, n, 1, 200, rfl, _, rfl, ?_⟩
      rw [decide_eq_true h2, decide_eq_true h4]
      refine iteF ?_
      refine ⟨_, rfl, rfl, _, rfl, ite2 (fun _ => ?_) fun h => absurd (by decide) h⟩
      refine ⟨_, rfl, _, rfl, _, _, rfl, rfl, b, 0, 200 - n, rfl, ?_⟩
      rw [decide_eq_true h1, decide_eq_true (show b ≤ 200 - n by omega)]
      exact k
    | run b n =>
      have h1 := hok.1
      have h2 := hok.2.1
      have h3 := hok.2.2
      have h4 : n ≤ 200 := hl
      refine ⟨_, rfl, _, 3, rfl, .inr ⟨_, SqT.of hp, rfl⟩, rfl, _, rfl, ite2 (fun h => absurd h (by decide)) fun _ => ?_⟩
      refine ⟨_, rfl, _, 3, rfl, .inr ⟨_, SqT.of hp, rfl⟩, rfl, _, rfl, ite2 (fun h => absurd h (by decide)) fun _ => ?_⟩
      refine ⟨_, rfl, p, _, rfl, SqT.of hp, rfl, _, _, rfl, _, _, rfl, _, _, rfl, rfl, ?_⟩
      refine ⟨_, rfl, n, 1, 200, rfl, _, rfl, ?_⟩
      rw [decide_eq_true h3, decide_eq_true h4]
      refine iteF ?_
      refine ⟨_, rfl, rfl, _, rfl, ite2 (fun h => absurd h (by decide)) fun _ => ?_⟩
      refine ⟨_, rfl, rfl, _, rfl, ite2 (fun _ => ?_) fun h => absurd (by decide) h⟩
      refine ⟨_, rfl, b, 0, 255, rfl, ?_⟩
      rw [decide_eq_true h1, decide_eq_true (show b ≤ 255 by omega)]
      exact k
    | bring bs =>
      have h1 : 1 ≤ (bs.length : Int) := hok.1
      have h4 : (bs.length : Int) ≤ 200 := hl
      refine ⟨_, rfl, _, 2, rfl, .inr ⟨_, SqT.of hp, rfl⟩, rfl, _, rfl, ite2 (fun _ => ?_) fun h => absurd (by decide) h⟩
      refine ⟨_, rfl, p, _, rfl, SqT.of hp, rfl, _, _, rfl, _, _, rfl, rfl, ?_⟩
      refine ⟨_, rfl, rfl, _, rfl, ite2 (fun _ => ?_) fun h => absurd (by decide) h⟩
      refine ⟨_, rfl, _, _, _, _, true, rfl, .ty _, .byt _, kit_ty (by decide +kernel), true, rfl, iteT ?_⟩
      refine ⟨_, rfl, _, bs.length, rfl, ⟨by rw [byteArr_size]; exact sizeS (by omega), (byteArr_size bs).symm⟩, _, _, rfl, rfl, _, rfl, ?_⟩
      rw [decide_eq_true h1]
      refine iteT ⟨_, _, rfl, rfl, ?_⟩
      show Q (.bl (decide ((bs.length : Int) ≤ 200))) H
      rw [decide_eq_true h4]
      exact k
end
theorem cell_more {H H2 : Hp} {D : Addr} {ws : List V} {cs : List Cell} {c : Cell} {t : Addr} (hD : H D = none) (s2 : Same H H2) (hw : H2 D = some (.lst ws)) (pw : Paired (CellV H2) ws cs) (ht : H2 t = none) :
    Same H (upd (upd H2 t (.tup c.tup)) D (.lst (ws ++ [.ref t]))) ∧ Paired (CellV (upd (upd H2 t (.tup c.tup)) D (.lst (ws ++ [.ref t])))) (ws ++ [.ref t]) (cs ++ [c]) := by
  have hw' : (upd H2 t (.tup c.tup)) D = some (.lst ws) := Same.new ht _ _ hw
  refine ⟨fun b o e => ?_, pairedApp (pairedMap pw fun _ _ x => (x.tups (Same.tups (Same.new ht))).tups (Tups.lst hw')) (.cons ⟨t, rfl, Tups.lst hw' _ _ upd_same⟩ .nil)⟩
  rw [upd_ne (ne_of_none e hD)]
  exact Same.new ht _ _ (s2 _ _ e)
theorem rep_flat {α : Type} (x : α) : ∀ m : Nat, (List.replicate m [x]).flatten = List.replicate m x
  | 0 => rfl
  | m + 1 => by rw [List.replicate_succ, List.replicate_succ, List.flatten_cons, rep_flat x m]; rfl
theorem paired_rep {α β : Type} {F : α → β → Prop} {x : α} {y : β} (h : F x y) : ∀ m : Nat, Paired F (List.replicate m x) (List.replicate m y)
  | 0 => .nil
  | m + 1 => .cons h (paired_rep h m)
theorem cellsOf_take {rows : List Row} {i : Nat} {r : Row} (h : rows[i]? = some r) : cellsOf (rows.take (i + 1)) = cellsOf (rows.take i) ++ cellsR r := by
  rw [take_snoc h]
  show (rows.take i ++ [r]).flatMap cellsR = _
  rw [List.flatMap_append, List.flatMap_cons, List.flatMap_nil, List.append_nil]
  rfl
/-- what a cell may be -/
theorem cells_fit {c : Int} {rows : List Row} (hre : ∀ r ∈ rows, r.ok c) : ∀ cl ∈ cellsOf rows, (∃ n, cl = .old n ∧ 0 ≤ n ∧ n < c) ∨ ∃ b, cl = .new b ∧ 0 ≤ b ∧ b < 256 := by
  intro cl hcl
  obtain ⟨r, hr1, hr2⟩ := List.mem_flatMap.mp hcl
  have ho := hre r hr1
  cases r with
  | copy b n =>
    obtain ⟨i, hi, rfl⟩ := List.mem_map.mp hr2
    have hi := List.mem_range.mp hi
    have h1 := ho.1
    have h2 := ho.2.1
    have h3 := ho.2.2
    exact .inl ⟨_, rfl, by omega, by omega⟩
  | run b n =>
    rw [List.eq_of_mem_replicate hr2]
    exact .inr ⟨_, rfl, ho.1, ho.2.1⟩
  | bring bs =>
    obtain ⟨z, hz, rfl⟩ := List.mem_map.mp hr2
    exact .inr ⟨_, rfl, (ho.2 z hz).1, (ho.2 z hz).2⟩
theorem done_B8 {rows : List Row} {es : List Int} (hre : ∀ r ∈ rows, r.ok es.length) (hb : B8 es) : B8 (doneOf rows es) := fun z hz => by
  obtain ⟨cl, hcl, rfl⟩ := List.mem_map.mp hz
  rcases cells_fit hre cl hcl with ⟨n, rfl, n0, n1⟩ | ⟨b, rfl, b0, b1⟩
  · have jl : n.toNat < es.length := by omega
    show 0 ≤ es.getD n.toNat 0 ∧ es.getD n.toNat 0 < 256
    rw [List.getD_eq_getElem?_getD, List.getElem?_eq_getElem jl]
    exact hb _ (List.getElem_mem jl)
  · exact ⟨b0, b1⟩
theorem done_len {c : Int} {rows : List Row} (es : List Int) (hre : ∀ r ∈ rows, r.ok c) : ((doneOf rows es).length : Int) = total rows := by
  show ((((cellsOf rows).map (valOf es)).length : Nat) : Int) = _
  rw [List.length_map]; exact cellsOf_len hre
theorem Good.each {rows : List Row} (h : Good rows) : ∀ r ∈ rows, r.ok 200 ∧ r.len ≤ 200 := fun r hr => ⟨h.1 r hr, Int.le_trans (len_le_of h.1 hr) h.2⟩
theorem Good.few {rows : List Row} (h : Good rows) : (rows.length : Int) ≤ 200 := Int.le_trans (len_le_total h.1) h.2
theorem Good.take {rows : List Row} (h : Good rows) (i : Nat) : Good (rows.take i) := ⟨fun r hr => h.1 r (List.mem_of_mem_take hr), Int.le_trans (total_take_le h.1 i) h.2⟩
theorem Good.nat {rows : List Row} (h : Good rows) : rows.length ≤ 200 := by have := h.few; omega
section
variable {P : Program} {w : World} {K : PySem.W.Frag} {mg : Str → Option Value} {base : Heap}
theorem ends_app (a b : List Row) : endsOf (a ++ b) = endsOf a ++ endsOf b := by
  induction a with
  | nil => rfl
  | cons r l ih => cases r <;> simp [endsOf, ih]
theorem ends_len (a : List Row) : (endsOf a).length ≤ a.length := by
  induction a with
  | nil => exact Nat.le_refl _
  | cons r l ih => cases r <;> simp [endsOf] <;> omega
theorem total_sum : ∀ rows : List Row, (rows.map Row.len).sum = total rows
  | [] => rfl
  | r :: l => by rw [List.map_cons, List.sum_cons, total_sum l]; rfl
theorem ok_check_patch (T : All K mg) : FnOk P w K mg base CX0 3 T.d_check_patch.f T.d_check_patch.fd ["patch"] spCheckPatch := by
  have G_can_be : FnOk P w K mg base CX0 2 T.d_can_be.f T.d_can_be.fd ["piece"] spCanBe := ok_can_be T
  have G_length_of : FnOk P w K mg base CX0 1 T.d_length_of.f T.d_length_of.fd ["piece"] spLengthOf := ok_length_of T
  refine T.d_check_patch.F.ok sc_check_patch (fun vs H Q E h => ?_) (fun cdv A outer s H vs Q E hr h => ?_)
  · obtain ⟨v, _, rfl, _⟩ := h
    rfl
  · obtain ⟨v, rows, rfl, ⟨p, vs, rfl, hv, hpr⟩, ⟨hok, htot⟩, k⟩ := h
    have hvl : vs.length = rows.length := Paired.length hpr
    refine ⟨_, (pss_cons 
      (ps_set (i := 1) sc_check_patch.nd rfl (Or.inl rfl) pe_int) (pss_one 
      (ps_for PassesOwn.never rfl (pi_enumT (by rfl) T.b_enumerate (pa_cons (pv 0) pa_nil)) (pg_tup rfl (pgs_cons (pg_name (i := 2) sc_check_patch.nd rfl (Or.inl rfl)) (pgs_cons (pg_name (i := 3) sc_check_patch.nd rfl (Or.inl rfl)) pgs_nil))) (pss_cons 
      (ps_if (pt_not (pt_val (pe_call G_can_be (hr.mono (by decide)) rfl T.d_can_be.m T.d_can_be.F.kp T.d_can_be.b .nil pass0 (pa_cons (pv 3) pa_nil)))) (pss_one ps_never) pss_nil) (pss_cons 
      (ps_aug (i := 1) sc_check_patch.nd rfl (Or.inl rfl) (pe_call G_length_of (hr.mono (by decide)) rfl T.d_length_of.m T.d_length_of.F.kp T.d_length_of.b .nil pass0 (pa_cons (pv 3) pa_nil)) ip_add) (pss_one 
      (ps_if (pt_cmpR op_gt (pv 1) (pe_glob (v := .int 200) rfl T.c_MOST ⟨_, rfl⟩) (nomark _)) (pss_one ps_never) pss_nil))))))), ?_⟩
    refine ⟨_, rfl, p, vs, rfl, SqT.of hv, for_it walk_enumT (fun i σ H2 => ∃ v2 v3 : Option V, σ = [some (.ref p), some (.int (total (rows.take i))), v2, v3] ∧ Same H H2)
      ⟨none, none, rfl, Same.refl _⟩ (fun i σ H2 _ ⟨_, _, _, s2⟩ => SqT.of (s2 _ _ hv)) ?_ ?_⟩
    · rintro i x σ H2 H3 hi ⟨v2, v3, rfl, s2⟩ ⟨t, x1, y1, rfl, ht, rfl, e1, e2⟩
      cases e1
      obtain ⟨r, hr1, q, rfl, hq⟩ := pairedAt hpr e2
      have hro := hok r (List.mem_of_getElem? hr1)
      have hrl : r.len ≤ total rows := len_le_of hok (List.mem_of_getElem? hr1)
      have s3 : Same H (upd H2 t (.tup [.int (i : Nat), .ref q])) := s2.trans (Same.new ht)
      have hq3 := s3 _ _ hq
      refine ⟨t, _, rfl, SqT.of upd_same, rfl, _, _, rfl, _, _, rfl, rfl, ?_⟩
      refine ⟨_, rfl, q, r, rfl, hq3, hro, by omega, _, rfl, iteF ?_⟩
      refine ⟨_, rfl, _, rfl, q, r, rfl, hq3, hro, by omega, _, _, rfl, rfl, ?_⟩
      have ht1 := total_take hr1
      have ht2 := total_take_le hok (i + 1)
      refine ⟨_, rfl, _, _, rfl, rfl, _, rfl, ite2 (fun h => absurd (show (200 : Int) < total (rows.take i) + r.len from of_decide_eq_true h) (by omega)) fun _ => ?_⟩
      exact ⟨_, _, by rw [ht1]; rfl, s3⟩
    · rintro σ H2 ⟨v2, v3, rfl, s2⟩
      exact k H2 s2
theorem ok_needs (T : All K mg) : FnOk P w K mg base CX0 4 T.d_needs.f T.d_needs.fd ["patch"] spNeeds := by
  have G_check_patch : FnOk P w K mg base CX0 3 T.d_check_patch.f T.d_check_patch.fd ["patch"] spCheckPatch := ok_check_patch T
  refine T.d_needs.F.ok sc_needs (fun vs H Q E h => ?_) (fun cdv A outer s H vs Q E hr h => ?_)
  · obtain ⟨v, _, rfl, _⟩ := h
    rfl
  · obtain ⟨v, rows, rfl, hP, hG, k⟩ := h
    refine ⟨_, (pss_cons 
      (ps_expr (pe_call G_check_patch (hr.mono (by decide)) rfl T.d_check_patch.m T.d_check_patch.F.kp T.d_check_patch.b .nil pass0 (pa_cons (pv 0) pa_nil))) (pss_one 
      (ps_ret (pe_callBK (cr_maxDf rfl) (by rfl) T.b_max (by decide +kernel) (pa_cons (pe_lc (own := [("piece", 1)]) (g := gName 1) rfl sc_needs.nd (pi_tup (pv 0)) (blkOk_by (own := [("piece", 1)]) (N := ["patch", "piece"]) (sc := defScope s_needs) (by decide +kernel)) (fun _ _ _ _ _ => (pg_name (i := 1) sc_needs.nd rfl (Or.inl rfl))) (fun _ _ _ _ _ => (pts_one (pt_cmpR op_eq (pe_ix (ixtK (K := K) rfl) (pv 1) pe_int (fun _ _ => rfl)) pe_str (nomark _)))) (fun _ _ _ _ _ => (pe_op op_add (pe_ix (ixtK (K := K) rfl) (pv 1) pe_int (fun _ _ => rfl)) (pe_ix (ixtK (K := K) rfl) (pv 1) pe_int (fun _ _ => rfl))))) pa_nil) (pk_cons pe_int pk_nil))))), ?_⟩
    refine ⟨_, rfl, v, rows, rfl, hP, hG, fun H1 s1 => ?_⟩
    obtain ⟨hok, htot⟩ := hG
    obtain ⟨p, vs, rfl, hv, hpr⟩ := hP
    have hlen := len_le_total hok
    refine ⟨_, rfl, p, rfl, ⟨vs, SqT.of (s1 _ _ hv)⟩, fun D hD => lc_tup (K := K) (a := p) (xs := vs) (fun i H2 => Same H1 H2 ∧ H2 D = some (.lst (List.map V.int (endsOf (rows.take i)))))
      ⟨Same.new hD, upd_same⟩ (fun i H2 _ ⟨s2, _⟩ => SqT.of (s2 _ _ (s1 _ _ hv))) ?_ ?_⟩
    · rintro i x H2 hi ⟨s2, hd⟩
      obtain ⟨r, hr1, q, rfl, hq⟩ := pairedAt hpr hi
      have il : i < rows.length := (List.getElem?_eq_some_iff.mp hr1).1
      have hq2 := s2 _ _ (s1 _ _ hq)
      refine ⟨rfl, ?_⟩
      have ll := ends_len (rows.take i)
      rw [List.length_take] at ll
      have e1 : endsOf (rows.take (i + 1)) = endsOf (rows.take i) ++ endsOf [r] := by rw [take_snoc hr1, ends_app]
      cases r with
      | copy b n =>
        refine ⟨_, rfl, q, _, _, _, rfl, rfl, SqT.of hq2, rfl, rfl, _, rfl, ite2 (fun _ => ?_) fun h => absurd (by decide) h⟩
        refine ⟨_, rfl, q, _, _, _, rfl, rfl, SqT.of hq2, rfl, _, rfl, q, _, _, _, rfl, rfl, SqT.of hq2, rfl, _, _, rfl, rfl, _, hd, sizeL (by rw [List.length_map]; omega), fun c o z => ?_, ?_⟩
        · rw [upd_ne (ne_of_none z hD)]; exact s2 _ _ z
        · rw [upd_same, e1, List.map_append]; rfl
      | run b n =>
        refine ⟨_, rfl, q, _, _, _, rfl, rfl, SqT.of hq2, rfl, rfl, _, rfl, ite2 (fun h => absurd h (by decide)) fun _ => ?_⟩
        exact ⟨s2, by rw [e1]; show H2 D = some (.lst (List.map V.int (endsOf (rows.take i) ++ []))); rw [List.append_nil]; exact hd⟩
      | bring bs =>
        refine ⟨_, rfl, q, _, _, _, rfl, rfl, SqT.of hq2, rfl, rfl, _, rfl, ite2 (fun h => absurd h (by decide)) fun _ => ?_⟩
        exact ⟨s2, by rw [e1]; show H2 D = some (.lst (List.map V.int (endsOf (rows.take i) ++ []))); rw [List.append_nil]; exact hd⟩
    · rintro H2 ⟨s2, hd⟩
      rw [Paired.length hpr, List.take_length] at hd
      have kk := k H2 (s1.trans s2)
      refine ⟨D, _, 0, rfl, rfl, SqL.of hd, fun e => ?_, fun m hm ht => ?_⟩
      · have : needsOf rows = 0 := by show top0 (endsOf rows) = 0; rw [e]; rfl
        rw [this] at kk; exact kk
      · have : needsOf rows = m := (top0_eq hm (ends_pos hok m hm) ht).symm
        rw [this] at kk; exact kk
end
/-! ### a statement whose ways meet again; a list against the empty one -/
def tJoin (t : TS) : TS := fun D σ H => ∃ J : L2.St → Hp → Prop, t { D with nx := J } σ H ∧ ∀ σ' H', J σ' H' → D.nx σ' H'
theorem ps_join {X : Cx} {st : Stmt} {t : TS} (h : PS X st t) : PS X st (tJoin t) := by
  refine ⟨fun pins s σ H D I hh => ?_⟩
  obtain ⟨J, h1, h2⟩ := hh
  refine thn (h.run pins s σ H { D with nx := J } I h1) fun f s' q => ?_
  cases f with
  | next =>
    obtain ⟨σ', H', I', j⟩ := q
    exact ⟨σ', H', I', h2 _ _ j⟩
  | ret u => exact q
  | brk => exact q
  | cont => exact q
def rNeEmpty : R2 := fun x y H Q => ∃ a b xs, x = .ref a ∧ y = .ref b ∧ H a = some (.lst xs) ∧ H b = some (.lst []) ∧ Q (.bl (!xs.isEmpty)) H
theorem op_neEmpty {X : Cx} (hu : X.A.units + 64 < cLine) : OpR X (compareOp .NotEq) rNeEmpty := by
  intro pins s σ H x y v u Q I rx ry h
  obtain ⟨a, b, xs, rfl, rfl, ha, hb, q⟩ := h
  cases (show v = Value.ref a from rx)
  cases (show u = Value.ref b from ry)
  obtain ⟨us, r1, p1, _⟩ := I.list (SqL.of ha)
  obtain ⟨ws, r2, p2, _⟩ := I.list (SqL.of hb)
  cases r2
  cases r1 with
  | nil =>
    have z := SeqAt.RcNeAt.lists (A := X.A) (e := fun _ => true) p1.isList p2.isList rfl (by omega) (fun j h1 => absurd h1 (Nat.not_lt_zero j))
    exact z X.prog X.w _ _ ⟨.bl false, H, I, rfl, q⟩
  | cons c t =>
    have z := SeqAt.RcNeAt.lists_lengths (A := X.A) p1.isList p2.isList (by simp) (by omega)
    exact z X.prog X.w _ _ ⟨.bl true, H, I, rfl, q⟩
theorem op_notIn_rng {X : Cx} : OpR X (compareOp .NotIn) (fun x y H Q => ∃ i a lo hi, x = V.int i ∧ y = V.ref a ∧ H a = some (.rng lo hi) ∧ Q (.bl (!decide (lo ≤ i ∧ i < hi))) H) := by
  intro pins s σ H x y v u Q I rx ry h
  obtain ⟨i, a, lo, hi, rfl, rfl, ha, q⟩ := h
  obtain ⟨k, rfl⟩ := rx
  obtain rfl : u = Value.ref a := ry
  obtain ⟨t1, t2, t3, ho⟩ := I.hok a _ ha
  refine NotIn_slot (T := "range") ⟨_, ho, rfl⟩ PySem.F.slot_range_contains (call_meets PySem.F.slot_range_contains ⟨_, ho, rfl⟩ PySem.F.entry_range_contains (PySem.F.args_range_contains_2 _ _) (q_contains a lo hi i t1 t2 t3 k) ⟨ho, wpAny_truthy_bool ⟨.bl _, H, I, rfl, ?_⟩⟩)
  show Q (.bl (!(Builtin.Range.rangePlace? lo hi 1 i).isSome)) H
  rw [place1]
  exact q
theorem atIb {bs : List Int} {z b : Int} (h0 : 0 ≤ z) (h : bs[z.toNat]? = some b) : atI (bs.map V.int) z = some (.int b) := at_of (j := z.toNat) (by omega) (by rw [List.getElem?_map, h]; rfl)
def spLCells : Sp := fun vs H Q _ => ∃ (p : Addr) (rows : List Row) (c : Int), vs = [.ref p] ∧ RowsAt H p rows ∧ (∀ r ∈ rows, r.ok c) ∧ c ≤ 10000 ∧ total rows ≤ 10000 ∧ ∀ H' q, Same H H' → H q = none → CellsAt H' q (cellsOf rows) → Q (.ref q) H'
section
variable {P : Program} {w : World} {K : PySem.W.Frag} {mg : Str → Option Value} {base : Heap}
end
/-- alike data, of nesting below n -/
def Alk (H : Hp) : Nat → V → V → Prop
  | 0, _, _ => False
  | n + 1, x, y => (x = y ∧ ((∃ i, x = .int i) ∨ ∃ s, x = .str s)) ∨ ∃ p q xs ys, x = .ref p ∧ y = .ref q ∧ ((H p = some (.tup xs) ∧ H q = some (.tup ys)) ∨ (H p = some (.lst xs) ∧ H q = some (.lst ys))) ∧ xs.length ≤ 100000 ∧ Paired (Alk H n) xs ys
theorem Alk.same {H H' : Hp} (s : Same H H') : ∀ {n : Nat} {x y : V}, Alk H n x y → Alk H' n x y
  | n + 1, x, y, .inl h => .inl h
  | n + 1, x, y, .inr ⟨p, q, xs, ys, e1, e2, h, l, r⟩ => .inr ⟨p, q, xs, ys, e1, e2, h.imp (fun z => ⟨s _ _ z.1, s _ _ z.2⟩) (fun z => ⟨s _ _ z.1, s _ _ z.2⟩), l, pairedMap r fun _ _ z => Alk.same s z⟩
def spLike (n : Nat) : Sp := fun vs H Q _ => ∃ x y : V, vs = [x, y] ∧ Alk H n x y ∧ ∀ H', Same H H' → Q (.bl true) H'
theorem eqv_nil : PyData.eqv (.list []) (.list []) = true := by simp [PyData.eqv, PyData.eqvAll]
theorem shaped_nil : SeqAt.shaped (.list []) = true := by decide
theorem Alk.cell {H : Hp} {v u : V} {c : Cell} (h : CellV H v c) (h' : CellV H u c) : Alk H 2 v u := by
  obtain ⟨p, rfl, hp⟩ := h
  obtain ⟨q, rfl, hq⟩ := h'
  refine .inr ⟨p, q, _, _, rfl, rfl, .inl ⟨hp, hq⟩, ?_, ?_⟩
  · cases c <;> (show 2 ≤ 100000; decide)
  · cases c with
    | old k => exact .cons (.inl ⟨rfl, .inr ⟨_, rfl⟩⟩) (.cons (.inl ⟨rfl, .inl ⟨_, rfl⟩⟩) .nil)
    | new b => exact .cons (.inl ⟨rfl, .inr ⟨_, rfl⟩⟩) (.cons (.inl ⟨rfl, .inl ⟨_, rfl⟩⟩) .nil)
theorem Alk.cells {H : Hp} : ∀ {vs us : List V} {cs : List Cell}, Paired (CellV H) vs cs → Paired (CellV H) us cs → Paired (Alk H 2) vs us
  | _, _, _, .nil, .nil => .nil
  | _, _, _, .cons a r, .cons b t => .cons (Alk.cell a b) (Alk.cells r t)
section
variable {P : Program} {w : World} {K : PySem.W.Frag} {mg : Str → Option Value} {base : Heap}
theorem ok_law_like (T : All K mg) : ∀ n : Nat, FnOk P w K mg base CX0 n T.d_law_like.f T.d_law_like.fd ["_law_found", "_law_due"] (spLike n)
  | 0 => ⟨fun _ _ _ _ ⟨_, _, _, h, _⟩ => h.elim, fun _ _ _ _ _ _ _ _ _ _ _ _ _ ⟨_, _, _, h, _⟩ => h.elim⟩
  | n + 1 => by
    have G_law_like : FnOk P w K mg base CX0 n T.d_law_like.f T.d_law_like.fd ["_law_found", "_law_due"] (spLike n) := ok_law_like T n
    refine T.d_law_like.F.ok sc_law_like (fun vs H Q E h => ?_) (fun cdv A outer s H vs Q E hr h => ?_)
    · obtain ⟨x, y, rfl, _⟩ := h
      rfl
    · obtain ⟨x, y, rfl, h, k⟩ := h
      refine ⟨_, (pss_cons 
      (ps_if (PW.pt (pw_or (pt_val (pe_callB call_isi (by rfl) T.b_isinstance (by decide +kernel) (pa_cons (pv 1) (pa_cons (pe_bltn (v := .ty "tuple") (by rfl) T.b_tuple (by decide +kernel) rfl) pa_nil)))) (pw_or1 (pt_val (pe_callB call_isi (by rfl) T.b_isinstance (by decide +kernel) (pa_cons (pv 1) (pa_cons (pe_bltn (v := .ty "list") (by rfl) T.b_list (by decide +kernel) rfl) pa_nil))))))) (pss_cons 
      (ps_if (pt_cmpR op_ne (pe_callB call_isi (by rfl) T.b_isinstance (by decide +kernel) (pa_cons (pv 0) (pa_cons (pe_bltn (v := .ty "tuple") (by rfl) T.b_tuple (by decide +kernel) rfl) pa_nil))) (pe_callB call_isi (by rfl) T.b_isinstance (by decide +kernel) (pa_cons (pv 1) (pa_cons (pe_bltn (v := .ty "tuple") (by rfl) T.b_tuple (by decide +kernel) rfl) pa_nil))) (nomark _)) (pss_one 
      (ps_ret pe_bl)) pss_nil) (pss_cons 
      (ps_if (PW.pt (pw_or (pt_cmpR op_ne (pe_callB call_isi (by rfl) T.b_isinstance (by decide +kernel) (pa_cons (pv 0) (pa_cons (pe_bltn (v := .ty "list") (by rfl) T.b_list (by decide +kernel) rfl) pa_nil))) (pe_callB call_isi (by rfl) T.b_isinstance (by decide +kernel) (pa_cons (pv 1) (pa_cons (pe_bltn (v := .ty "list") (by rfl) T.b_list (by decide +kernel) rfl) pa_nil))) (nomark _)) (pw_or1 (pt_cmpR op_ne (pe_callB call_len (by rfl) T.b_len PySem.boot_len (pa_cons (pv 0) pa_nil)) (pe_callB call_len (by rfl) T.b_len PySem.boot_len (pa_cons (pv 1) pa_nil)) (nomark _))))) (pss_one 
      (ps_ret pe_bl)) pss_nil) (pss_one 
      (ps_ret (pe_cmpR (op_eqD hr.units) (pe_lc (own := [("_law_k", 2)]) (g := gName 2) rfl sc_law_like.nd (pi_range1 (by rfl) T.b_range (pa_cons (pe_callB call_len (by rfl) T.b_len PySem.boot_len (pa_cons (pv 1) pa_nil)) pa_nil)) (blkOk_by (own := [("_law_k", 2)]) (N := ["_law_found", "_law_due", "_law_k"]) (sc := defScope s_law_like) (by decide +kernel)) (fun _ _ _ _ _ => (pg_name (i := 2) sc_law_like.nd rfl (Or.inl rfl))) (fun _ _ _ _ _ => (pts_one (pt_not (pt_val (pe_call G_law_like (hr.mono (Nat.le_refl _)) rfl T.d_law_like.m T.d_law_like.F.kp T.d_law_like.b .nil pass0 (pa_cons (pe_ix (ixsK (K := K) rfl) (pv 0) (pv 2) (fun _ _ => rfl)) (pa_cons (pe_ix (ixsK (K := K) rfl) (pv 1) (pv 2) (fun _ _ => rfl)) pa_nil))))))) (fun _ _ _ _ _ => (pv 2))) (pe_lst pa_nil) (nomark _)))))) pss_nil) (pss_cons 
      (ps_if (pt_cmpR op_ne (pe_callB call_isi (by rfl) T.b_isinstance (by decide +kernel) (pa_cons (pv 0) (pa_cons (pe_bltn (v := .ty "bool") (by rfl) T.b_bool (by decide +kernel) rfl) pa_nil))) (pe_callB call_isi (by rfl) T.b_isinstance (by decide +kernel) (pa_cons (pv 1) (pa_cons (pe_bltn (v := .ty "bool") (by rfl) T.b_bool (by decide +kernel) rfl) pa_nil))) (nomark _)) (pss_one 
      (ps_ret pe_bl)) pss_nil) (pss_cons 
      (ps_if (PW.pt (pw_or (pt_cmpR op_ne (pe_callB call_isi (by rfl) T.b_isinstance (by decide +kernel) (pa_cons (pv 0) (pa_cons (pe_bltn (v := .ty "int") (by rfl) T.b_int (by decide +kernel) rfl) pa_nil))) (pe_callB call_isi (by rfl) T.b_isinstance (by decide +kernel) (pa_cons (pv 1) (pa_cons (pe_bltn (v := .ty "int") (by rfl) T.b_int (by decide +kernel) rfl) pa_nil))) (nomark _)) (pw_or1 (pt_cmpR op_ne (pe_callB call_isi (by rfl) T.b_isinstance (by decide +kernel) (pa_cons (pv 0) (pa_cons (pe_bltn (v := .ty "str") (by rfl) T.b_str (by decide +kernel) rfl) pa_nil))) (pe_callB call_isi (by rfl) T.b_isinstance (by decide +kernel) (pa_cons (pv 1) (pa_cons (pe_bltn (v := .ty "str") (by rfl) T.b_str (by decide +kernel) rfl) pa_nil))) (nomark _))))) (pss_one 
      (ps_ret pe_bl)) pss_nil) (pss_one 
      (ps_ret (pe_cmpR op_eq (pv 0) (pv 1) (nomark _))))))), ?_⟩
      rcases h with ⟨rfl, ⟨i, rfl⟩ | ⟨z, rfl⟩⟩ | ⟨p, q, xs, ys, rfl, rfl, h, hl, hp⟩
      · refine ⟨_, rfl, _, _, _, _, false, rfl, .ty _, .base (.int i), kit_ty (by decide +kernel), false, rfl, iteF ?_⟩
        refine ⟨_, rfl, _, _, _, _, false, rfl, .ty _, .base (.int i), kit_ty (by decide +kernel), false, rfl, iteF ?_⟩
        refine ⟨_, rfl, _, _, _, _, false, rfl, .ty _, .base (.int i), kit_ty (by decide +kernel), _, rfl, _, _, _, _, false, rfl, .ty _, .base (.int i), kit_ty (by decide +kernel), rfl, _, rfl, iteNS rfl ?_⟩
        refine ⟨_, rfl, _, _, _, _, true, rfl, .ty _, .base (.int i), kit_ty (by decide +kernel), _, rfl, _, _, _, _, true, rfl, .ty _, .base (.int i), kit_ty (by decide +kernel), rfl, _, rfl, iteNS rfl ?_⟩
        refine ⟨_, rfl, _, _, _, _, false, rfl, .ty _, .base (.int i), kit_ty (by decide +kernel), _, rfl, _, _, _, _, false, rfl, .ty _, .base (.int i), kit_ty (by decide +kernel), rfl, _, rfl, iteNS rfl ?_⟩
        refine ⟨_, rfl, _, rfl, rfl, ?_⟩
        have kk := k H (Same.refl _)
        rw [← decide_eq_true (rfl : V.int i = V.int i)] at kk
        exact kk
      · refine ⟨_, rfl, _, _, _, _, false, rfl, .ty _, .base (.str z), kit_ty (by decide +kernel), false, rfl, iteF ?_⟩
        refine ⟨_, rfl, _, _, _, _, false, rfl, .ty _, .base (.str z), kit_ty (by decide +kernel), false, rfl, iteF ?_⟩
        refine ⟨_, rfl, _, _, _, _, false, rfl, .ty _, .base (.str z), kit_ty (by decide +kernel), _, rfl, _, _, _, _, false, rfl, .ty _, .base (.str z), kit_ty (by decide +kernel), rfl, _, rfl, iteNS rfl ?_⟩
        refine ⟨_, rfl, _, _, _, _, false, rfl, .ty _, .base (.str z), kit_ty (by decide +kernel), _, rfl, _, _, _, _, false, rfl, .ty _, .base (.str z), kit_ty (by decide +kernel), rfl, _, rfl, iteNS rfl ?_⟩
        refine ⟨_, rfl, _, _, _, _, true, rfl, .ty _, .base (.str z), kit_ty (by decide +kernel), _, rfl, _, _, _, _, true, rfl, .ty _, .base (.str z), kit_ty (by decide +kernel), rfl, _, rfl, iteNS rfl ?_⟩
        refine ⟨_, rfl, _, rfl, rfl, ?_⟩
        have kk := k H (Same.refl _)
        rw [← decide_eq_true (rfl : V.str z = V.str z)] at kk
        exact kk
      · have el : xs.length = ys.length := Paired.length hp
        rcases h with ⟨hx, hy⟩ | ⟨hx, hy⟩
        · refine ⟨_, rfl, _, _, _, _, true, rfl, .ty _, .base (.tup hy), kit_ty (by decide +kernel), true, rfl, iteT (iteT ?_)⟩
          refine ⟨_, rfl, _, _, _, _, true, rfl, .ty _, .base (.tup hx), kit_ty (by decide +kernel), _, rfl, _, _, _, _, true, rfl, .ty _, .base (.tup hy), kit_ty (by decide +kernel), rfl, _, rfl, iteNS rfl ?_⟩
          refine ⟨_, rfl, _, _, _, _, false, rfl, .ty _, .base (.tup hx), kit_ty (by decide +kernel), _, rfl, _, _, _, _, false, rfl, .ty _, .base (.tup hy), kit_ty (by decide +kernel), rfl, _, rfl, iteNS rfl ?_⟩
          refine ⟨_, rfl, _, xs.length, rfl, .inr ⟨_, SqT.of hx, rfl⟩, _, rfl, _, ys.length, rfl, .inr ⟨_, SqT.of hy, rfl⟩, rfl, _, rfl, iteNS (by rw [el]) ?_⟩
          refine ⟨_, rfl, _, ys.length, rfl, .inr ⟨_, SqT.of hy, rfl⟩, _, rfl, by omega, by omega, fun D hD => ?_⟩
          refine lc_range (lo := 0) (n := ((ys.length : Int)).toNat) (fun i H2 => Same H H2 ∧ H2 D = some (.lst [])) ⟨Same.new hD, upd_same⟩ ?_ ?_
          · rintro i H2 hi ⟨s2, hd⟩
            rw [Int.toNat_natCast] at hi
            have hi' : i < xs.length := by omega
            obtain ⟨y, hy1, hy2⟩ := pairedAt hp (List.getElem?_eq_getElem hi')
            exact ⟨rfl, _, rfl, _, rfl, .inr (.inl ⟨p, xs, _, _, rfl, rfl, SqT.of (s2 _ _ hx), at_of (by omega) (List.getElem?_eq_getElem hi'), _, rfl, _, rfl, .inr (.inl ⟨q, ys, _, _, rfl, rfl, SqT.of (s2 _ _ hy), at_of (by omega) hy1, xs[i], y, rfl, Alk.same s2 hy2, fun H3 s3 => ⟨_, rfl, iteF ⟨s2.trans s3, s3 _ _ hd⟩⟩⟩)⟩)⟩
          · rintro H2 ⟨s2, hd⟩
            refine ⟨sizeS (by show 0 ≤ 100000; decide), fun l hl => ⟨.list [], .list [], Dp.lst (SqL.of (Same.new hl _ _ hd)) .nil, Dp.lst (SqL.of upd_same) .nil, shaped_nil, shaped_nil, ?_⟩⟩
            have kk := k _ (s2.trans (Same.new (o := .lst []) hl))
            rw [← eqv_nil] at kk
            exact kk
        · refine ⟨_, rfl, _, _, _, _, false, rfl, .ty _, .base (.lst hy), kit_ty (by decide +kernel), false, rfl, iteF ?_⟩
          refine ⟨_, rfl, _, _, _, _, true, rfl, .ty _, .base (.lst hy), kit_ty (by decide +kernel), true, rfl, iteT ?_⟩
          refine ⟨_, rfl, _, _, _, _, false, rfl, .ty _, .base (.lst hx), kit_ty (by decide +kernel), _, rfl, _, _, _, _, false, rfl, .ty _, .base (.lst hy), kit_ty (by decide +kernel), rfl, _, rfl, iteNS rfl ?_⟩
          refine ⟨_, rfl, _, _, _, _, true, rfl, .ty _, .base (.lst hx), kit_ty (by decide +kernel), _, rfl, _, _, _, _, true, rfl, .ty _, .base (.lst hy), kit_ty (by decide +kernel), rfl, _, rfl, iteNS rfl ?_⟩
          refine ⟨_, rfl, _, xs.length, rfl, .inl ⟨_, SqL.of hx, rfl⟩, _, rfl, _, ys.length, rfl, .inl ⟨_, SqL.of hy, rfl⟩, rfl, _, rfl, iteNS (by rw [el]) ?_⟩
          refine ⟨_, rfl, _, ys.length, rfl, .inl ⟨_, SqL.of hy, rfl⟩, _, rfl, by omega, by omega, fun D hD => ?_⟩
          refine lc_range (lo := 0) (n := ((ys.length : Int)).toNat) (fun i H2 => Same H H2 ∧ H2 D = some (.lst [])) ⟨Same.new hD, upd_same⟩ ?_ ?_
          · rintro i H2 hi ⟨s2, hd⟩
            rw [Int.toNat_natCast] at hi
            have hi' : i < xs.length := by omega
            obtain ⟨y, hy1, hy2⟩ := pairedAt hp (List.getElem?_eq_getElem hi')
            exact ⟨rfl, _, rfl, _, rfl, .inl ⟨p, xs, _, _, rfl, rfl, SqL.of (s2 _ _ hx), at_of (by omega) (List.getElem?_eq_getElem hi'), _, rfl, _, rfl, .inl ⟨q, ys, _, _, rfl, rfl, SqL.of (s2 _ _ hy), at_of (by omega) hy1, xs[i], y, rfl, Alk.same s2 hy2, fun H3 s3 => ⟨_, rfl, iteF ⟨s2.trans s3, s3 _ _ hd⟩⟩⟩⟩⟩
          · rintro H2 ⟨s2, hd⟩
            refine ⟨sizeS (by show 0 ≤ 100000; decide), fun l hl => ⟨.list [], .list [], Dp.lst (SqL.of (Same.new hl _ _ hd)) .nil, Dp.lst (SqL.of upd_same) .nil, shaped_nil, shaped_nil, ?_⟩⟩
            have kk := k _ (s2.trans (Same.new (o := .lst []) hl))
            rw [← eqv_nil] at kk
            exact kk
end
def spIsPatch : Sp := fun vs H Q _ => ∃ (v : V) (p : Addr) (rows : List Row) (c : Int), vs = [v, .ref p] ∧ PatchAt H v rows ∧ RowsAt H p rows ∧ (∀ r ∈ rows, r.ok c) ∧ total rows ≤ 10000 ∧ ∀ H', Same H H' → Q (.bl true) H'
def spSize : Sp := fun vs H Q _ => ∃ (v : V) (r : Row), vs = [v] ∧ RowV H v r ∧ r.len ≤ 10000 ∧ Q (.int r.len) H
theorem dp_ints' {K : PySem.W.Frag} {H : Hp} {p : Addr} {ns : List Int} (h : H p = some (.lst (List.map V.int ns))) : Dp K H (.ref p) (.list (ns.map PyData.int)) := by
  refine Dp.lst (SqL.of h) ?_
  clear h
  induction ns with
  | nil => exact .nil
  | cons n r ih => exact .cons (.int n) ih
theorem eqv_ints' (ns : List Int) : PyData.eqv (.list (ns.map PyData.int)) (.list (ns.map PyData.int)) = true :=
  SeqAt.eqv_refl _ (SeqAt.canLay_of_shaped (PySem.W.ke_shaped_ints ns))
theorem alk_tups {H : Hp} {p q : Addr} {xs : List V} (hp : H p = some (.tup xs)) (hq : H q = some (.tup xs)) (hl : xs.length ≤ 100000) (hs : ∀ x ∈ xs, (∃ i, x = .int i) ∨ ∃ s, x = .str s) : Alk H 2 (.ref p) (.ref q) := by
  refine .inr ⟨p, q, xs, xs, rfl, rfl, .inl ⟨hp, hq⟩, hl, ?_⟩
  clear hp hq hl
  induction xs with
  | nil => exact .nil
  | cons x xs ih => exact .cons (.inl ⟨rfl, hs x List.mem_cons_self⟩) (ih fun y hy => hs y (List.mem_cons_of_mem _ hy))
section
variable {P : Program} {w : World} {K : PySem.W.Frag} {mg : Str → Option Value} {base : Heap}
theorem ok_law_is_patch (T : All K mg) : FnOk P w K mg base CX0 3 T.d_law_is_patch.f T.d_law_is_patch.fd ["_law_told_here", "_law_rows_here"] spIsPatch := by
  have G_numbers_of : FnOk P w K mg base CX0 1 T.d_numbers_of.f T.d_numbers_of.fd ["some"] spNumsOf := ok_numbers_of T
  have G_law_like : FnOk P w K mg base CX0 2 T.d_law_like.f T.d_law_like.fd ["_law_found", "_law_due"] (spLike 2) := ok_law_like T 2
  refine T.d_law_is_patch.F.ok sc_law_is_patch (fun vs H Q E h => ?_) (fun cdv A outer s H vs Q E hr h => ?_)
  · obtain ⟨v, p, _, _, rfl, _⟩ := h
    rfl
  · obtain ⟨v, p, rows, c, rfl, ⟨u, us, rfl, hu, pu⟩, ⟨ws, hw, pw⟩, hok, htot, k⟩ := h
    refine ⟨_, (pss_cons 
      (ps_if (PW.pt (pw_or (pt_not (pt_val (pe_callB call_isi (by rfl) T.b_isinstance (by decide +kernel) (pa_cons (pv 0) (pa_cons (pe_bltn (v := .ty "tuple") (by rfl) T.b_tuple (by decide +kernel) rfl) pa_nil))))) (pw_or1 (pt_cmpR op_ne (pe_callB call_len (by rfl) T.b_len PySem.boot_len (pa_cons (pv 0) pa_nil)) (pe_callB call_len (by rfl) T.b_len PySem.boot_len (pa_cons (pv 1) pa_nil)) (nomark _))))) (pss_one 
      (ps_ret pe_bl)) pss_nil) (pss_cons 
      (ps_for PassesOwn.never rfl (pi_zipM (by rfl) T.b_zip (pa_cons (pv 0) (pa_cons (pv 1) pa_nil))) (pg_tup rfl (pgs_cons (pg_name (i := 2) sc_law_is_patch.nd rfl (Or.inl rfl)) (pgs_cons (pg_name (i := 3) sc_law_is_patch.nd rfl (Or.inl rfl)) pgs_nil))) (pss_cons 
      (ps_if (PW.pt (pw_or (pt_not (pt_val (pe_callB call_isi (by rfl) T.b_isinstance (by decide +kernel) (pa_cons (pv 2) (pa_cons (pe_bltn (v := .ty "tuple") (by rfl) T.b_tuple (by decide +kernel) rfl) pa_nil))))) (pw_or (pt_cmpR op_ne (pe_callB call_len (by rfl) T.b_len PySem.boot_len (pa_cons (pv 2) pa_nil)) (pe_callB call_len (by rfl) T.b_len PySem.boot_len (pa_cons (pv 3) pa_nil)) (nomark _)) (pw_or1 (pt_cmpR op_ne (pe_ix ix_tup (pv 2) pe_int (fun _ _ => rfl)) (pe_ix ix_tup (pv 3) pe_int (fun _ _ => rfl)) (nomark _)))))) (pss_one 
      (ps_ret pe_bl)) pss_nil) (pss_one 
      (ps_if (PW.pt (pw_or (PW.pt (pw_and (pt_cmpR op_eq (pe_ix ix_tup (pv 3) pe_int (fun _ _ => rfl)) pe_str (nomark _)) (pw_and1 (pt_cmpR (op_neD hr.units) (pe_call G_numbers_of (hr.mono (by decide)) rfl T.d_numbers_of.m T.d_numbers_of.F.kp T.d_numbers_of.b .nil pass0 (pa_cons (pe_ix ix_tup (pv 2) pe_int (fun _ _ => rfl)) pa_nil)) (pe_ix ix_tup (pv 3) pe_int (fun _ _ => rfl)) (nomark _))))) (pw_or1 (PW.pt (pw_and (pt_cmpR op_ne (pe_ix ix_tup (pv 3) pe_int (fun _ _ => rfl)) pe_str (nomark _)) (pw_and1 (pt_not (pt_val (pe_call G_law_like (hr.mono (by decide)) rfl T.d_law_like.m T.d_law_like.F.kp T.d_law_like.b .nil pass0 (pa_cons (pv 2) (pa_cons (pe_callTy call_tuple_of (by rfl) T.b_tuple (by decide +kernel) (pa_cons (pv 3) pa_nil)) pa_nil))))))))))) (pss_one 
      (ps_ret pe_bl)) pss_nil)))) (pss_one 
      (ps_ret pe_bl)))), ?_⟩
    have el : us.length = ws.length := by rw [Paired.length pu, Paired.length pw]
    refine ⟨_, rfl, _, _, _, _, true, rfl, .ty _, .base (.tup hu), kit_ty (by decide +kernel), true, rfl, iteF ?_⟩
    refine ⟨_, rfl, _, us.length, rfl, .inr ⟨_, SqT.of hu, rfl⟩, _, rfl, _, ws.length, rfl, .inl ⟨_, SqL.of hw, rfl⟩, rfl, _, rfl, iteNS (by rw [el]) ?_⟩
    refine ⟨_, rfl, _, rfl, u, p, us, ws, rfl, SqT.of hu, SqL.of hw, for_it (walk_zipM el) (fun i σ H2 => ∃ v2 v3 : Option V, σ = [some (.ref u), some (.ref p), v2, v3] ∧ Same H H2)
      ⟨none, none, rfl, Same.refl _⟩ (fun i σ H2 _ ⟨_, _, _, s2⟩ => ⟨SqT.of (s2 _ _ hu), SqL.of (s2 _ _ hw)⟩) ?_ ?_⟩
    · rintro i x σ H2 H3 hi ⟨v2, v3, rfl, s2⟩ ⟨t, x1, y1, rfl, ht, rfl, e1, e2⟩
      obtain ⟨r, hr1, q, rfl, hq⟩ := pairedAt pu e1
      obtain ⟨r', hr1', hrow⟩ := pairedAt pw e2
      rw [hr1] at hr1'
      cases hr1'
      have hro := hok r (List.mem_of_getElem? hr1)
      have hrl : r.len ≤ total rows := len_le_of hok (List.mem_of_getElem? hr1)
      have s3 : Same H (upd H2 t (.tup [.ref q, y1])) := s2.trans (Same.new ht)
      have hq3 := s3 _ _ hq
      refine ⟨t, _, rfl, SqT.of upd_same, rfl, _, _, rfl, _, _, rfl, rfl, ?_⟩
      refine ⟨_, rfl, _, _, _, _, true, rfl, .ty _, .base (.tup hq3), kit_ty (by decide +kernel), true, rfl, iteF ?_⟩
      cases r with
      | copy b n =>
        obtain ⟨z, rfl, hz⟩ := hrow.same s3
        refine ⟨_, rfl, _, 3, rfl, .inr ⟨_, SqT.of hq3, rfl⟩, _, rfl, _, 3, rfl, .inr ⟨_, SqT.of hz, rfl⟩, rfl, _, rfl, iteNS rfl ?_⟩
        refine ⟨_, rfl, q, _, _, _, rfl, rfl, SqT.of hq3, rfl, _, rfl, z, _, _, _, rfl, rfl, SqT.of hz, rfl, rfl, _, rfl, iteNS rfl ?_⟩
        refine ⟨_, rfl, z, _, _, _, rfl, rfl, SqT.of hz, rfl, rfl, _, rfl, ite2 (fun h => absurd h (by decide)) fun _ => iteF ?_⟩
        refine ⟨_, rfl, z, _, _, _, rfl, rfl, SqT.of hz, rfl, rfl, _, rfl, ite2 (fun _ => ?_) fun h => absurd (by decide) h⟩
        refine ⟨_, rfl, _, rfl, z, _, rfl, .inr ⟨SqT.of hz, .ref q, .ref z, rfl, alk_tups hq3 hz (by show 3 ≤ 100000; decide) ?_, fun H4 s4 => ⟨_, rfl, iteF ⟨_, _, rfl, s3.trans s4⟩⟩⟩⟩
        intro x hx
        simp [Row.tup] at hx
        rcases hx with rfl | rfl | rfl
        · exact .inr ⟨_, rfl⟩
        · exact .inl ⟨_, rfl⟩
        · exact .inl ⟨_, rfl⟩
      | run b n =>
        obtain ⟨z, rfl, hz⟩ := hrow.same s3
        refine ⟨_, rfl, _, 3, rfl, .inr ⟨_, SqT.of hq3, rfl⟩, _, rfl, _, 3, rfl, .inr ⟨_, SqT.of hz, rfl⟩, rfl, _, rfl, iteNS rfl ?_⟩
        refine ⟨_, rfl, q, _, _, _, rfl, rfl, SqT.of hq3, rfl, _, rfl, z, _, _, _, rfl, rfl, SqT.of hz, rfl, rfl, _, rfl, iteNS rfl ?_⟩
        refine ⟨_, rfl, z, _, _, _, rfl, rfl, SqT.of hz, rfl, rfl, _, rfl, ite2 (fun h => absurd h (by decide)) fun _ => iteF ?_⟩
        refine ⟨_, rfl, z, _, _, _, rfl, rfl, SqT.of hz, rfl, rfl, _, rfl, ite2 (fun _ => ?_) fun h => absurd (by decide) h⟩
        refine ⟨_, rfl, _, rfl, z, _, rfl, .inr ⟨SqT.of hz, .ref q, .ref z, rfl, alk_tups hq3 hz (by show 3 ≤ 100000; decide) ?_, fun H4 s4 => ⟨_, rfl, iteF ⟨_, _, rfl, s3.trans s4⟩⟩⟩⟩
        intro x hx
        simp [Row.tup] at hx
        rcases hx with rfl | rfl | rfl
        · exact .inr ⟨_, rfl⟩
        · exact .inl ⟨_, rfl⟩
        · exact .inl ⟨_, rfl⟩
      | bring bs =>
        obtain ⟨z, l, rfl, hz, hl⟩ := hrow.same s3
        have hbl : (bs.length : Int) ≤ total rows := hrl
        refine ⟨_, rfl, _, 2, rfl, .inr ⟨_, SqT.of hq3, rfl⟩, _, rfl, _, 2, rfl, .inr ⟨_, SqT.of hz, rfl⟩, rfl, _, rfl, iteNS rfl ?_⟩
        refine ⟨_, rfl, q, _, _, _, rfl, rfl, SqT.of hq3, rfl, _, rfl, z, _, _, _, rfl, rfl, SqT.of hz, rfl, rfl, _, rfl, iteNS rfl ?_⟩
        refine ⟨_, rfl, z, _, _, _, rfl, rfl, SqT.of hz, rfl, rfl, _, rfl, ite2 (fun _ => ?_) fun h => absurd (by decide) h⟩
        refine ⟨_, rfl, q, _, _, _, rfl, rfl, SqT.of hq3, rfl, bs, rfl, hro.2, by omega, fun m hm => ?_⟩
        have s4 := s3.trans (Same.new (o := .lst (List.map V.int bs)) hm)
        refine ⟨_, rfl, z, _, _, _, rfl, rfl, SqT.of (Same.new hm _ _ hz), rfl, _, _, dp_ints' upd_same, dp_ints' (Same.new hm _ _ hl), PySem.W.ke_shaped_ints _, PySem.W.ke_shaped_ints _, ?_⟩
        rw [eqv_ints']
        refine ⟨_, rfl, iteF ?_⟩
        refine ⟨_, rfl, z, _, _, _, rfl, rfl, SqT.of (Same.new hm _ _ hz), rfl, rfl, _, rfl, iteNS rfl (iteF ?_)⟩
        exact ⟨_, _, rfl, s4⟩
    · rintro σ H2 ⟨v2, v3, rfl, s2⟩
      exact k H2 s2
theorem ok_law_size (T : All K mg) : FnOk P w K mg base CX0 1 T.d_law_size.f T.d_law_size.fd ["_law_row"] spSize := by
  refine T.d_law_size.F.ok sc_law_size (fun vs H Q E h => ?_) (fun cdv A outer s H vs Q E hr h => ?_)
  · obtain ⟨v, _, rfl, _⟩ := h
    rfl
  · obtain ⟨v, r, rfl, hr, hl, k⟩ := h
    refine ⟨_, (pss_one 
      (ps_ret (pe_ifExp (pt_cmpR op_eq (pe_ix ix_tup (pv 0) pe_int (fun _ _ => rfl)) pe_str (nomark _)) (pe_callB call_len (by rfl) T.b_len PySem.boot_len (pa_cons (pe_ix ix_tup (pv 0) pe_int (fun _ _ => rfl)) pa_nil)) (pe_ix ix_tup (pv 0) pe_int (fun _ _ => rfl))))), ?_⟩
    cases r with
    | copy b n =>
      obtain ⟨p, rfl, hp⟩ := hr
      refine ⟨_, rfl, p, _, _, _, rfl, rfl, SqT.of hp, rfl, rfl, _, rfl, ite2 (fun h => absurd h (by decide)) fun _ => ?_⟩
      exact ⟨_, rfl, p, _, _, _, rfl, rfl, SqT.of hp, rfl, k⟩
    | run b n =>
      obtain ⟨p, rfl, hp⟩ := hr
      refine ⟨_, rfl, p, _, _, _, rfl, rfl, SqT.of hp, rfl, rfl, _, rfl, ite2 (fun h => absurd h (by decide)) fun _ => ?_⟩
      exact ⟨_, rfl, p, _, _, _, rfl, rfl, SqT.of hp, rfl, k⟩
    | bring bs =>
      obtain ⟨p, q, rfl, hp, hq⟩ := hr
      refine ⟨_, rfl, p, _, _, _, rfl, rfl, SqT.of hp, rfl, rfl, _, rfl, ite2 (fun _ => ?_) fun h => absurd (by decide) h⟩
      exact ⟨_, rfl, p, _, _, _, rfl, rfl, SqT.of hp, rfl, _, bs.length, rfl, .inl ⟨_, SqL.of hq, by rw [List.length_map]⟩, k⟩
end
/-! ### the code of a patch -/
def numCode (n : Int) : List Int := if n < 128 then [n] else [128 + n % 2 ^ 7, n / 128]
def numSize (n : Int) : Int := if n < 128 then 1 else 2
def Row.word : Row → Int
  | .copy _ _ => 0
  | .bring _ => 1
  | .run _ _ => 2
def Row.tail : Row → List Int
  | .copy b _ => numCode b
  | .bring bs => bs
  | .run b _ => [b]
def firstNum (r : Row) : Int := r.len * 4 + r.word
def rowCode (r : Row) : List Int := numCode (firstNum r) ++ r.tail
def rowSize (r : Row) : Int := (rowCode r).length
def bodyCode (rows : List Row) : List Int := numCode rows.length ++ rows.flatMap rowCode
def codeOf (rows : List Row) : List Int := bodyCode rows ++ [(bodyCode rows).sum % 251]
theorem p7 : (2 : Int) ^ 7 = 128 := by decide
theorem p2 : (2 : Int) ^ 2 = 4 := by decide
theorem numCode_len (n : Int) : ((numCode n).length : Int) = numSize n := by
  unfold numCode numSize
  split <;> rfl
theorem numSize_le (n : Int) : 1 ≤ numSize n ∧ numSize n ≤ 2 := by
  unfold numSize
  split <;> constructor <;> decide
theorem numCode_b8 {n : Int} (h0 : 0 ≤ n) (h1 : n < 32768) : B8 (numCode n) := by
  unfold numCode
  split
  · intro x hx
    rw [List.mem_singleton.mp hx]
    omega
  · intro x hx
    rcases List.mem_cons.mp hx with rfl | hx
    · have : (2 : Int) ^ 7 = 128 := by decide
      omega
    · rw [List.mem_singleton.mp hx]
      omega
theorem Row.word_le : ∀ (r : Row), 0 ≤ r.word ∧ r.word ≤ 2
  | .copy _ _ => ⟨(by decide : (0 : Int) ≤ 0), (by decide : (0 : Int) ≤ 2)⟩
  | .bring _ => ⟨(by decide : (0 : Int) ≤ 1), (by decide : (1 : Int) ≤ 2)⟩
  | .run _ _ => ⟨(by decide : (0 : Int) ≤ 2), (by decide : (2 : Int) ≤ 2)⟩
theorem firstNum_le {r : Row} {c : Int} (h : r.ok c) (hl : r.len ≤ 200) : 4 ≤ firstNum r ∧ firstNum r ≤ 802 := by
  have a := Row.len_pos h
  have b := r.word_le
  unfold firstNum
  omega
theorem tail_b8 {r : Row} (h : r.ok 200) : B8 r.tail := by
  cases r with
  | copy b n =>
    have h1 := h.1
    have h2 := h.2.1
    have h3 := h.2.2
    exact numCode_b8 h1 (by omega)
  | run b n =>
    have h1 := h.1
    have h2 := h.2.1
    intro x hx
    rw [List.mem_singleton.mp hx]
    exact ⟨h1, h2⟩
  | bring bs => exact h.2
theorem tail_len {r : Row} (h : r.ok 200) : (r.tail.length : Int) ≤ r.len + 1 := by
  have a := Row.len_pos h
  cases r with
  | copy b n =>
    have h2 := numSize_le b
    rw [← numCode_len] at h2
    show ((numCode b).length : Int) ≤ n + 1
    have a : 1 ≤ n := a
    omega
  | run b n =>
    have a : 1 ≤ n := a
    show (([b] : List Int).length : Int) ≤ n + 1
    show (1 : Int) ≤ n + 1
    omega
  | bring bs =>
    show (bs.length : Int) ≤ bs.length + 1
    omega
theorem rowCode_b8 {r : Row} (h : r.ok 200) (hl : r.len ≤ 200) : B8 (rowCode r) := by
  have := firstNum_le h hl
  exact (numCode_b8 (by omega) (by omega)).app (tail_b8 h)
theorem rowCode_len {r : Row} (h : r.ok 200) : ((rowCode r).length : Int) ≤ 4 * r.len := by
  have a := Row.len_pos h
  have b := tail_len h
  have c := numSize_le (firstNum r)
  rw [← numCode_len] at c
  unfold rowCode
  rw [List.length_append]
  omega
theorem rows_b8 : ∀ {rows : List Row}, (∀ r ∈ rows, r.ok 200 ∧ r.len ≤ 200) → B8 (rows.flatMap rowCode)
  | [], _ => fun n hn => (List.not_mem_nil hn).elim
  | r :: l, h => by
    have a := h r List.mem_cons_self
    rw [List.flatMap_cons]
    exact (rowCode_b8 a.1 a.2).app (rows_b8 fun x hx => h x (List.mem_cons_of_mem _ hx))
theorem rows_len : ∀ {rows : List Row}, (∀ r ∈ rows, r.ok 200) → ((rows.flatMap rowCode).length : Int) ≤ 4 * total rows
  | [], _ => by show (0 : Int) ≤ 4 * 0; decide
  | r :: l, h => by
    have a := rowCode_len (h r List.mem_cons_self)
    have b := rows_len (rows := l) fun x hx => h x (List.mem_cons_of_mem _ hx)
    rw [List.flatMap_cons, List.length_append]
    show (((rowCode r).length + (l.flatMap rowCode).length : Nat) : Int) ≤ 4 * (r.len + total l)
    omega
/-- a body of some of the pieces -/
def partCode (n : Nat) (rows : List Row) : List Int := numCode n ++ rows.flatMap rowCode
theorem part_b8 {n : Nat} {rows : List Row} (hn : n ≤ 200) (h : Good rows) : B8 (partCode n rows) := (numCode_b8 (by omega) (by omega)).app (rows_b8 h.each)
theorem part_len {n : Nat} {rows : List Row} (h : Good rows) : (partCode n rows).length ≤ 810 := by
  have a := rows_len h.1
  have b := numSize_le n
  have d := h.2
  rw [← numCode_len] at b
  unfold partCode
  rw [List.length_append]
  omega
theorem body_part (rows : List Row) : bodyCode rows = partCode rows.length rows := rfl
theorem part_snoc {n : Nat} {rows : List Row} {i : Nat} {r : Row} (h : rows[i]? = some r) : partCode n (rows.take (i + 1)) = partCode n (rows.take i) ++ rowCode r := by
  unfold partCode
  rw [take_snoc h, List.flatMap_append, List.append_assoc, List.flatMap_cons, List.flatMap_nil, List.append_nil]
theorem code_b8 {rows : List Row} (h : Good rows) : B8 (codeOf rows) := by
  refine (part_b8 h.nat h).app fun x hx => ?_
  rw [List.mem_singleton.mp hx]
  have := Int.emod_nonneg (bodyCode rows).sum (show (251 : Int) ≠ 0 by decide)
  have := Int.emod_lt_of_pos (bodyCode rows).sum (show (0 : Int) < 251 by decide)
  omega
theorem code_len {rows : List Row} (h : Good rows) : (codeOf rows).length ≤ 811 := by
  have := part_len (n := rows.length) h
  unfold codeOf
  rw [List.length_append, body_part]
  show (partCode rows.length rows).length + 1 ≤ 811
  omega
theorem sizes_sum : ∀ (rows : List Row), (rows.map rowSize).sum = ((rows.flatMap rowCode).length : Int)
  | [] => rfl
  | r :: l => by
    rw [List.map_cons, List.sum_cons, sizes_sum l, List.flatMap_cons, List.length_append]
    show ((rowCode r).length : Int) + _ = _
    omega
theorem code_size (rows : List Row) : numSize rows.length + (rows.map rowSize).sum + 1 = ((codeOf rows).length : Int) := by
  rw [sizes_sum, ← numCode_len]
  unfold codeOf bodyCode
  rw [List.length_append, List.length_append]
  show _ = ((_ + 1 : Nat) : Int)
  omega
/-! ### sum(bytes), bytes += bytes -/
theorem noI_bytes_add : typeLookup (.type "bytes") (dunderI "add") = pure none := by rw [typeLookup_type, builtinLookup_eq_fast]; kernel_rfl
open PySem.W PySem.W.KBy Builtin in
theorem iadd_bytes {prog : Program} {w : World} {A : Around} {E : Value → Shared → Prop} {s : Shared} {b c : Array UInt8} {t u : Tok} {Q : Value → Shared → Prop} (hsz : b.size + c.size ≤ 16777216) (h : ∀ t' k, Q (.bytes (b ++ c) t') { s with toks := k }) :
    wpAny (model prog w) A (inplaceOp .Add (.bytes b t) (.bytes c u)) Q E s := by
  refine iconcat_gives (typeIs_bytes s b t) (typeIs_bytes s c u) noI_bytes_add noFill_bytes_add seq_bytes_add FB.slot_bytes_add FB.entry_bytes_add (FB.args_bytes_add_2 _ _) (gives_bytes_add (tooLong_not hsz)) ?_
  by_cases hb : b.isEmpty = true
  · rw [if_pos hb]
    have e : b = #[] := Array.isEmpty_iff.1 hb
    have h' := h u s.toks
    rw [e, Array.empty_append] at h'
    exact h'
  · rw [if_neg hb]
    by_cases hc : c.isEmpty = true
    · rw [if_pos hc]
      have e : c = #[] := Array.isEmpty_iff.1 hc
      have h' := h t s.toks
      rw [e, Array.append_empty] at h'
      exact h'
    · rw [if_neg hc]
      exact ⟨by rw [Array.size_append, sizeLine_eq]; exact hsz, h s.toks (s.toks + 1)⟩
theorem ip_add_byt {X : Cx} : PIp X .Add (fun x y H Q => ∃ i j, x = .byt i ∧ y = .byt j ∧ i.size + j.size ≤ 16777216 ∧ Q (.byt (i ++ j)) H) := by
  intro pins s σ H x y v u Q I rx ry h
  obtain ⟨i, j, rfl, rfl, hz, q⟩ := h
  obtain ⟨t, rfl⟩ := rx
  obtain ⟨t', rfl⟩ := ry
  exact iadd_bytes hz (fun t' tk => ⟨.byt (i ++ j), H, I.tok _, ⟨_, rfl⟩, q⟩)
theorem preSum_bi (b : Array UInt8) : ∀ (n : Nat), preSum (fun i => (PySem.W.KBw.bInts b).getD i 0) n = ((PySem.W.KBw.bInts b).take n).sum
  | 0 => rfl
  | n + 1 => by
    show preSum _ n + _ = _
    show _ + (PySem.W.KBw.bInts b).getD n 0 = _
    rw [preSum_bi b n, List.take_add_one, List.sum_append, List.getD_eq_getElem?_getD]
    cases (PySem.W.KBw.bInts b)[n]? with
    | none => rfl
    | some x => show _ = _ + (x + 0); simp
theorem cr_sumB {X : Cx} (hc : X.calm = true) : CallR X (.builtin "sum") (fun vs H Q => ∃ bs : List Int, vs = [.byt (byteArr bs)] ∧ B8 bs ∧ Q (.int bs.sum) H) := by
  intro pins s σ H vs us Q I r h
  obtain ⟨bs, rfl, hb, q⟩ := h
  cases r with
  | cons r rr =>
    cases rr
    obtain ⟨t, rfl⟩ := r
    refine call_sum_walkG (PySem.W.KBw.pyIter_bytes ?_)
    have W := PySem.W.KBw.walks (prog := X.prog) (w := X.w) (A := X.A.in1) (I.ok.hd hc) s.heap.objs.size (byteArr bs) t
    refine ⟨_, _, _, _, _, _, fun i => (PySem.W.KBw.bInts (byteArr bs)).getD i 0, rfl, W, ⟨_, Heap.get?_push_size _ rfl, rfl, rfl⟩, fun b hb => ?_, ?_, fun h' tk t' hk => ?_⟩
    · rw [List.mem_singleton.mp hb]
      show s.heap.objs.size < (s.heap.push _).objs.size
      rw [Heap.size_push]
      exact Nat.lt_succ_self _
    · rintro i v ⟨c, u, hc, rfl⟩
      refine ⟨u, ?_⟩
      show _ = Value.int ((PySem.W.KBw.bInts (byteArr bs)).getD i 0) u
      rw [List.getD_eq_getElem?_getD, PySem.W.KBw.ints_get hc]
      rfl
    · rw [preSum_bi, List.take_of_length_le (by rw [PySem.W.KBw.ints_length]; exact Nat.le_refl _), bInts_of hb]
      refine ⟨.int bs.sum, H, I.kept (t' := tk) fun b o e => ?_, ⟨_, rfl⟩, q⟩
      exact hk b o (fun hm => by rw [List.mem_singleton.mp hm] at e; exact absurd (Heap.lt_size e) (Nat.lt_irrefl _)) (Heap.get?_push_of_some _ e)
/-! ### the promises -/
def spNumCode : Sp := fun vs H Q _ => ∃ n : Int, vs = [.int n] ∧ 0 ≤ n ∧ n < 16384 ∧ ∀ H', Same H H' → Q (.byt (byteArr (numCode n))) H'
def spNumSize : Sp := fun vs H Q _ => ∃ n : Int, vs = [.int n] ∧ Q (.int (numSize n)) H
def spFirstNum : Sp := fun vs H Q _ => ∃ (p : Addr) (r : Row), vs = [.ref p] ∧ H p = some (.tup r.tup) ∧ r.ok 200 ∧ r.len ≤ 200 ∧ Q (.int (firstNum r)) H
def spPieceCode : Sp := fun vs H Q _ => ∃ (p : Addr) (r : Row), vs = [.ref p] ∧ H p = some (.tup r.tup) ∧ r.ok 200 ∧ r.len ≤ 200 ∧ ∀ H', Same H H' → Q (.byt (byteArr (rowCode r))) H'
def spPieceSize : Sp := fun vs H Q _ => ∃ (p : Addr) (r : Row), vs = [.ref p] ∧ H p = some (.tup r.tup) ∧ r.ok 200 ∧ r.len ≤ 200 ∧ Q (.int (rowSize r)) H
def spCheckOf : Sp := fun vs H Q _ => ∃ bs : List Int, vs = [.byt (byteArr bs)] ∧ B8 bs ∧ Q (.int (bs.sum % 251)) H
def spWithCheck : Sp := fun vs H Q _ => ∃ bs : List Int, vs = [.byt (byteArr bs)] ∧ B8 bs ∧ bs.length ≤ 10000 ∧ ∀ H', Same H H' → Q (.byt (byteArr (bs ++ [bs.sum % 251]))) H'
def spCoded : Sp := fun vs H Q _ => ∃ (v : V) (rows : List Row), vs = [v] ∧ PatchAt H v rows ∧ Good rows ∧ ∀ H', Same H H' → Q (.byt (byteArr (codeOf rows))) H'
def spSizeOf : Sp := fun vs H Q _ => ∃ (v : V) (rows : List Row), vs = [v] ∧ PatchAt H v rows ∧ Good rows ∧ ∀ H', Same H H' → Q (.int ((codeOf rows).length : Nat)) H'
section
variable {P : Program} {w : World} {K : PySem.W.Frag} {mg : Str → Option Value} {base : Heap}
theorem ok_check_of (T : All K mg) : FnOk P w K mg base CX0 1 T.d_check_of.f T.d_check_of.fd ["some"] spCheckOf := by
  refine T.d_check_of.F.ok sc_check_of (fun vs H Q E h => ?_) (fun cdv A outer s H vs Q E hr h => ?_)
  · obtain ⟨bs, rfl, _⟩ := h
    rfl
  · obtain ⟨bs, rfl, hb, k⟩ := h
    refine ⟨_, (pss_one 
      (ps_ret (pe_op op_mod (pe_callB (cr_sumB rfl) (by rfl) T.b_sum (by decide +kernel) (pa_cons (pv 0) pa_nil)) (pe_glob (v := .int 251) rfl T.c_CHECK ⟨_, rfl⟩)))), ?_⟩
    exact ⟨_, rfl, bs, rfl, hb, _, _, rfl, rfl, (by show (0 : Int) < 251; decide), k⟩
end
namespace N_BadCode
/-! ### an own error whose __init__ says super().__init__(f"..{x}..") and keeps x -/
def clsBody : Stmt → List Stmt
  | .ClassDef _ _ _ b .. => b
  | _ => []
abbrev iniSt : Stmt := (clsBody (top 7)).getD 0 (.Pass ⟨0, 0, 0, 0⟩)
open PySem.W PySem.HandSPX in
structure OwnErr (P : Program) (K : Frag) (mg : Str → Option Value) (C fI : Addr) : Prop where
  gC : mg "BadCode" = some (.ref C)
  cls : ∃ nm q N bs bm sn sub ab col dd k0 k1 k2 k3 k5, K.lookup C = some (excClassObj nm q C N bs bm true sn sub ab col dd k0 k1 k2 k3 k5 "ValueError.__new__") ∧ refsVE bm = true
  sa : findIn K (.ref C) "__setattr__" = some (some (.builtin "object.__setattr__"))
  noN : findIn K (.ref C) "place" = some none
  iC : findIn K (.ref C) "__init__" = some (some (.ref fI))
  tC : typeIn K (.ref fI) = some (.type "function")
  kC : keepIn K (.ref C) = true
  exC : subIn K (.ref C) (.type "BaseException") = some true
  tyC : typeIn K (.ref C) = some (.type "type")
  sup : ks_superIn K C C "__init__" = some (some (.builtin "ValueError.__init__"))
  subV : subIn K (.ref C) (.type "ValueError") = some true
  mroC : mroIn K C (.ref C) = some true
  noAny : nsIn K cStatics "thirdparty.any" = some none
  mS : mg "super" = none
  top : (P.main.scope.names.lookup ("super" : Str)).isSome = false
  fn : ∃ (oc : Value) (od : Option Addr) (doc pm : Value) (an : Option Addr) (cda cc : Addr) (ct : Value) (osl : Array (Option Value)),
    K.lookup fI = some ⟨oc, od, .func (ksFn "__init__" "BadCode.__init__" (defArgs iniSt) (defBody iniSt) (defScope iniSt) .none .none doc pm an (.ref cda) ct cc), osl⟩ ∧ codeIn K (.ref cda) "BadCode.__init__" = true ∧
    (∃ (ccl : Value) (cdd : Option Addr) (vs : Array Value) (ccs : Array (Option Value)) (file : Str) (tf : Tok), K.lookup cda = some ⟨ccl, cdd, .fields vs, ccs⟩ ∧ vs[2]? = some (.str file tf) ∧ ((P.main.file : Str) == file) = true) ∧
    ∃ (cl : Value) (cld : Option Addr) (csl : Array (Option Value)), K.lookup cc = some ⟨cl, cld, .cell (some (.ref C)), csl⟩
theorem sz1 {a b : Str} (ha : a.length ≤ 500) (hb : b.length ≤ 1000) : (a ++ b).length ≤ sizeLine := by rw [Str.length_append, sizeLine_eq]; omega
theorem sz2 {a b c : Str} (ha : a.length ≤ 500) (hb : b.length ≤ 1000) (hc : c.length ≤ 500) : (a ++ b ++ c).length ≤ sizeLine := by rw [Str.length_append, Str.length_append, sizeLine_eq]; omega
namespace OE
open PySem.W PySem.Calls PySem.HandSPX
/-- what __init__ leaves of a fresh exception at x -/
structure InitEnd (h h' : Heap) (x C dx t1 : Addr) (v : Value) : Prop where
  keep : ∀ b o, b ≠ x → h.get? b = some o → h'.get? b = some o
  obj : h'.get? x = some { cls := .ref C, dict := some dx, data := .fields #[.ref t1, .none, .none, .none, .bool false, .none] }
  dbig : h.objs.size ≤ dx
  dne : dx ≠ x
  ns : h'.Ns1 dx (fun y => if y = "place" then some v else none)
/-- a made one -/
structure Made (h h' : Heap) (e C d : Addr) (v : Value) : Prop where
  keep : ∀ b o, h.get? b = some o → h'.get? b = some o
  new : h.objs.size ≤ e
  obj : ∃ oe vs, h'.get? e = some oe ∧ oe.cls = .ref C ∧ oe.dict = some d ∧ oe.data = .fields vs ∧ vs[1]? = some .none
  dbig : h.objs.size ≤ d
  dne : d ≠ e
  ns : h'.Ns1 d (fun y => if y = "place" then some v else none)
section
variable {P : Program} {w : World} {A : Around} {E : Value → Shared → Prop} {R : Result → Shared → Prop} {s : Shared} {K : Frag} {mg : Str → Option Value} {C fI : Addr}
theorem call_wrapped {h : Heap} {g : Array GenState} {d : Drawn} {t : Nat} {os : OsState} {u e t0 : Addr} {rest : List Value} {Q : Value → Shared → Prop} {nm q : Str} {N : Addr} {bs bm : List Value} {sn : List Str} {sub : List Value} {ab : Bool} {col : Option Bool} {dd : Option Addr} {k0 k1 k2 k3 k5 : Option Value}
    (hC : h.get? C = some (excClassObj nm q C N bs bm true sn sub ab col dd k0 k1 k2 k3 k5 "ValueError.__new__")) (he : h.get? e = some (excO C t0)) (hu : h.get? u = some (kxs_mw "ValueError.__init__" e)) (hrest : rest.length ≤ sizeLine)
    (hq : ∀ h' t1, (∀ b o, b ≠ e → h.get? b = some o → h'.get? b = some o) → h'.get? e = some (excO C t1) → Q .none ⟨h', g, d, t, os⟩) :
    wpAny (model P w) A (call (.ref u) rest) Q E ⟨h, g, d, t, os⟩ := by
  refine wpAny_call (codeAny_of_tree ?_)
  show wpAny _ A.in1 (callAny (.ref u) ⟨rest, []⟩) _ _ _
  simp only [callAny]
  refine wpAny_bind (wpAny_load hu ?_)
  simp only [kxs_mw, show (Value.type "method-wrapper" == Value.type "method" || Value.type "method-wrapper" == Value.type "builtin_function_or_method" || Value.type "method-wrapper" == Value.type "method-wrapper") = true by decide, if_true]
  refine KFB.if_so (by decide) ?_
  refine wpAny_bind (check_bound_init F.excBase_ValueError.toExcCallFacts hC he rfl ?_)
  refine wpAny_bind (wpAny_pure (wpAny_pure ?_))
  refine ⟨plainId_quiet F.excBase_ValueError.init.plain _, codeAny_builtin F.excBase_ValueError.initEntry ?_⟩
  exact exc_init_tree (cls := .ref C) (t0 := t0) (dv := none) (c2 := .none) (c3 := .none) (b4 := .bool false) he hrest fun h' k1 k2 _ => hq h' _ k1 k2
theorem ini {x t0 : Addr} {i : Int} {tk0 : Tok} (T : OwnErr P K mg C fI) (hi : i.natAbs.log2 < 1920) (hil : (toString i : Str).length ≤ 1000) (X : K.In s.heap) (hg : s.heap.Ns mainGlobals mg) (hb : ∃ mb, s.heap.Ns builtinsNs mb ∧ ∀ x : Str, x ≠ "__name__" → mb x = bootBuiltins x)
    (hlim : s.heap.NoLimit) (hx : s.heap.get? x = some (excO C t0)) (hnx : K.lookup x = none) (hroom : A.depth < recursionLimit)
    (hq : ∀ h' tk dx t1, InitEnd s.heap h' x C dx t1 (.int i tk0) → R (.ok (.ret .none)) { s with heap := h', toks := tk }) :
    codeAny (model P w) A (.call (.ref fI) ⟨[.ref x, .int i tk0], []⟩) R s := by
  obtain ⟨oc, od, doc, pm, an, cda, cc, ct, osl, ho, hcd, ⟨ccl, cdd, vs, ccs, file, tf, hcode, hvs, hfile⟩, cl, cld, csl, hcell⟩ := T.fn
  obtain ⟨nm, q, N, bs, bm, sn, sub, ab, col, dd, k0, k1, k2, k3, k5, hC, hbm⟩ := T.cls
  obtain ⟨mb, hb, hbb⟩ := hb
  have hcl : clsIn K C = some { name := nm, bases := bs, mro := .ref C :: bm, ns := N, qualname := q, hasDict := true, slotNames := sn, subclasses := sub, abstract := ab, collection := col, hasDel := false } := by unfold clsIn; rw [hC] <;> rfl
  have sl1 : (defScope iniSt).names.lookup ("self" : Str) = some .local := by decide +kernel
  have sl2 : (defScope iniSt).names.lookup ("place" : Str) = some .local := by decide +kernel
  have hbd : BindsTo s (ksFn "__init__" "BadCode.__init__" (defArgs iniSt) (defBody iniSt) (defScope iniSt) .none .none doc pm an (.ref cda) ct cc) ⟨[.ref x, .int i tk0], []⟩ [("self", .ref x), ("place", .int i tk0)] := BindsTo.of_eq (by first | rfl | with_unfolding_all rfl)
  refine ks_codeAny_call_defAt (binds := [("self", .ref x), ("place", .int i tk0)]) hroom (X _ _ ho) rfl hlim (codeRec_of X hcd) rfl hbd (show ∀ x ∈ (defScope iniSt).names, x.2 ≠ .cell by decide +kernel)
    (fun y hy => ?_) (fun h₁ hns k => ?_) rfl rfl rfl
  · rcases List.mem_cons.mp hy with rfl | hy
    · exact sl1
    · rcases List.mem_cons.mp hy with rfl | hy
      · exact sl2
      · cases hy
  have X₁ : K.In h₁ := X.keeps k
  have hx₁ := k _ _ hx
  have hC₁ := X₁ _ _ hC
  obtain ⟨hp, g, dr, tk, os⟩ := s
  have I₁ : InstAt h₁ x (excO C t0) C none := ⟨hx₁, rfl, rfl, trivial⟩
  have hv1 : (fun y => List.lookup y (List.reverse [(("self" : Str), Value.ref x), ("place", .int i tk0)])) "self" = some (.ref x) := by first | rfl | with_unfolding_all rfl
  have hv2 : (fun y => List.lookup y (List.reverse [(("self" : Str), Value.ref x), ("place", .int i tk0)])) "place" = some (.int i tk0) := by first | rfl | with_unfolding_all rfl
  have hxC : x ≠ C := fun z => by rw [z, hC] at hnx; cases hnx
  have sl3 : (defScope iniSt).names.lookup ("super" : Str) = some .globalImplicit := by decide +kernel
  have sl4 : (defScope iniSt).names.lookup ("__class__" : Str) = some .free := by decide +kernel
  refine ks_wpAt_execs_cons (ks_wpAt_Expr_any (ks_wpAt_MethodCall ?_))
  refine ks_wpAt_super_base sl3 sl4 (by decide +kernel) rfl (X₁ _ _ ho) rfl rfl rfl (X₁ _ _ hcode) rfl hvs hfile T.top ?_
  refine ks_loadName_global rfl sl3 (loadGlobal_builtin (hg.keeps k) T.mS (hb.keeps k) ((hbb _ (by decide +kernel)).trans (show bootBuiltins "super" = some (.type "super") by first | boot_by_name | rfl | kernel_rfl)) ⟨rfl, ?_⟩)
  refine wpAny_loadName_free rfl sl4 rfl ⟨_, X₁ _ _ hcell, rfl⟩ ?_
  refine wpAny_loadName_local rfl sl1 hns hv1 ?_
  refine ks_wpAny_isType_cls hC₁ rfl ⟨rfl, ?_⟩
  refine ks_wpAny_call_super hC₁ rfl hx₁ rfl (fun c e => by cases e) (looks_mroIn X₁ T.mroC) (fun h₂ e₂ k₂ => ?_)
  have X₂ : K.In h₂ := X₁.keeps k₂
  have hx₂ := k₂ _ _ hx₁
  have I₂ : InstAt h₂ x (excO C t0) C none := ⟨hx₂, rfl, rfl, trivial⟩
  have hsup := T.sup
  unfold ks_superIn at hsup
  rw [hcl] at hsup
  refine kxs_getMethod kxs_ValueError e₂ (looks_opaque X₂ T.noAny) (l₀ := .ref C :: bm) (fun A Q E s k q => wpAny_bind ((looks_clsIn X₂ hcl) A _ E s k (wpAny_pure q))) rfl X₂ hsup (I₂.type.andThen (looks_subIn X₂ T.subV)) hxC (by decide) ?_
  refine kxs_callWith (i := "ValueError.__init__") (x := x) rfl ?_
  have k₃ : ∀ b o, h₂.get? b = some o → (h₂.push (kxs_mw "ValueError.__init__" x)).get? b = some o := fun b o e => Heap.get?_push_of_some _ e
  have hns₃ := (hns.keeps k₂).keeps k₃
  have hu : (h₂.push (kxs_mw "ValueError.__init__" x)).get? h₂.objs.size = some (kxs_mw "ValueError.__init__" x) := Heap.get?_push_at rfl rfl
  refine evalArgs_plain (spliced_cons (wpAny_JoinedStr (pos := ⟨0, 0, 0, 0⟩) ?_))
  refine wpAny_Constant_str ⟨_, _, rfl, (by decide +kernel), ?_⟩
  refine wpAny_FormattedValue_plain (wpAny_Name (wpAny_loadName_local rfl sl2 hns₃ hv2 ?_) (by decide))
  refine wpAny_formatField_int hi ⟨_, _, rfl, sz1 (by decide +kernel) hil, ?_⟩
  refine wpAny_Constant_str ⟨_, _, rfl, sz2 (by decide +kernel) hil (by decide +kernel), ?_⟩
  refine ⟨sz2 (by decide +kernel) hil (by decide +kernel), spliced_nil ⟨hu, ?_⟩⟩
  refine call_wrapped (k₃ _ _ (k₂ _ _ hC₁)) (k₃ _ _ hx₂) hu (by show 1 ≤ sizeLine; rw [sizeLine_eq]; omega) (fun h₄ t1 k₄ hx₄ => ?_)
  have X₄ : K.In h₄ := fun a o e => k₄ a o (fun z => by rw [z, hnx] at e; cases e) ((X₂.keeps k₃) a o e)
  obtain ⟨oL, esL, epL, hoL, hdL, rL⟩ := hns₃
  have xL : hp.objs.size ≠ x := Nat.ne_of_gt (Heap.lt_size hx)
  have hns₄ : h₄.Ns hp.objs.size _ := ⟨oL, esL, epL, k₄ _ _ xL hoL, hdL, rL⟩
  refine wpAt_of_wpAny (wpAny_execs_cons (plainObj_wpAny_Assign_Attribute ?_))
  refine wpAny_Name (wpAny_loadName_local rfl sl2 hns₄ hv2 ?_) (by decide)
  refine wpAny_Name (wpAny_loadName_local rfl sl1 hns₄ hv1 ?_) (by decide)
  refine set_plain X₄ (ox := excO C t1) (od := none) ⟨hx₄, rfl, rfl, trivial⟩ T.sa ?_
  refine exc_osa X₄ hx₄ hcl (show refsVE (.ref C :: bm) = true from hbm) rfl T.noN (fun h₅ tk₅ dx k₅ dn dne hx₅ hn₅ => ?_)
  refine wpAny_execs_nil (hq h₅ tk₅ dx t1 ⟨fun b o hb e => k₅ b o hb (k₄ b o hb (k₃ _ _ (k₂ _ _ (k b o e)))), hx₅, ?_, dne, hn₅⟩)
  refine Nat.le_trans (Nat.le_of_lt (Heap.lt_size (k₄ _ _ xL hoL))) dn
theorem make {i : Int} {tk0 : Tok} (T : OwnErr P K mg C fI) (hi : i.natAbs.log2 < 1920) (hil : (toString i : Str).length ≤ 1000) (X : K.In s.heap) (hg : s.heap.Ns mainGlobals mg) (hb : ∃ mb, s.heap.Ns builtinsNs mb ∧ ∀ x : Str, x ≠ "__name__" → mb x = bootBuiltins x)
    (hlim : s.heap.NoLimit) (hroom : A.depth + 1 < recursionLimit)
    (hq : ∀ h' tk e d, Made s.heap h' e C d (.int i tk0) → R (.ok (.ret (.ref e))) { s with heap := h', toks := tk }) :
    codeAny (model P w) A (.call (.ref C) ⟨[.int i tk0], []⟩) R s := by
  obtain ⟨nm, q, N, bs, bm, sn, sub, ab, col, dd, k0, k1, k2, k3, k5, hC, hbm⟩ := T.cls
  obtain ⟨mb, hb, hbb⟩ := hb
  obtain ⟨hp, g, dr, tk, os⟩ := s
  have k : ∀ b o, hp.get? b = some o → ((hp.push (kdv_tup [.int i tk0])).push (excO C hp.objs.size)).get? b = some o := fun b o e => Heap.get?_push_of_some _ (Heap.get?_push_of_some _ e)
  have hget : ((hp.push (kdv_tup [.int i tk0])).push (excO C hp.objs.size)).get? (hp.objs.size + 1) = some (excO C hp.objs.size) := by heap_get
  have hnx : K.lookup (hp.objs.size + 1) = none := by
    cases e : K.lookup (hp.objs.size + 1) with
    | none => rfl
    | some o =>
      have z : hp.get? (hp.objs.size + 1) = some o := X _ _ e
      exact absurd (Nat.lt_of_succ_lt (Heap.lt_size z)) (Nat.lt_irrefl _)
  refine call_own F.excBase_ValueError (fun X => refsVE_contains X bm hbm) (X _ _ hC) (looks_findIn X T.iC) (fun self => bind_fn X self T.tC) (by show 1 ≤ sizeLine; rw [sizeLine_eq]; omega) ?_
  refine ini (s := ⟨(hp.push (kdv_tup [.int i tk0])).push (excO C hp.objs.size), g, dr, tk, os⟩) T hi hil (X.keeps k) (hg.keeps k) ⟨mb, hb.keeps k, hbb⟩ (hlim.keeps k) hget hnx ?_ fun h' tk' dx t1 ⟨k', hx, dn, dne, hns⟩ => ?_
  · exact hroom
  · have old : ∀ b o, hp.get? b = some o → h'.get? b = some o := fun b o e => k' b o (Nat.ne_of_lt (Nat.lt_succ_of_lt (Heap.lt_size e))) (k b o e)
    have z : hp.objs.size + 1 + 1 ≤ dx := by
      have q := dn
      rw [Heap.size_push, Heap.size_push] at q
      exact q
    exact ⟨rfl, hq h' tk' (hp.objs.size + 1) dx ⟨old, Nat.le_succ _, ⟨_, _, hx, rfl, rfl, rfl, rfl⟩, (show hp.objs.size ≤ dx by omega), dne, hns⟩⟩
end
end OE
section
variable {X : Cx} {C fI : Addr}
theorem relO_own {v : V} {v' : Value} (r : RelV v v') (f : Str) : RelO (List.lookup f [(("place" : Str), v)]) (if f = "place" then some v' else none) := by
  by_cases hw : f = "place"
  · subst hw
    rw [if_pos rfl]
    have q : List.lookup ("place" : Str) [(("place" : Str), v)] = some v := by simp [List.lookup]
    rw [q]
    exact r
  · rw [if_neg hw]
    have qw : (f == ("place" : Str)) = false := by simpa using hw
    have q2 : List.lookup f [(("place" : Str), v)] = none := by simp [List.lookup, qw]
    rw [q2]
    trivial
/-- BadCode(e), e a small number -/
def tMkOwn (C : Addr) (ta : TA) : L2.St → Hp → XK → Prop := fun σ H Q => ta σ H fun vs H1 => ∃ i : Int, vs = [.int i] ∧ 0 ≤ i ∧ i ≤ 20000 ∧ ∀ d, H1 d = none → Q (.ref C) (some d) (upd H1 d (.xd [(("place" : Str), .int i)]))
theorem small_text {i : Int} (h0 : 0 ≤ i) (h1 : i ≤ 20000) : (toString i : Str).length ≤ 1000 := by
  have h2 : i.natAbs ≤ 20000 := by omega
  have e := int_text_length_le10 (k := 10) (by decide) (Nat.lt_of_le_of_lt h2 (by decide))
  rw [PySem.ofString_length]
  omega
theorem small_log {i : Int} (h0 : 0 ≤ i) (h1 : i ≤ 20000) : i.natAbs.log2 < 1920 := by
  have h : i.natAbs ≤ 20000 := by omega
  by_cases z : i.natAbs = 0
  · rw [z]; decide
  · have h3 : i.natAbs.log2 < 16 := (Nat.log2_lt z).mpr (show i.natAbs < 2 ^ 16 by omega)
    omega
theorem pmk_own2 {a : Expr} {ta : TA} {p pos : Pos} {k : Nat} (T : OwnErr X.prog X.K X.mg C fI) (hr : Room k X.A) (ha : PA X [a] ta) (hg : Gl X "BadCode" := by rfl)
    (he : starEach (a :: []) X.env = (false, eval a X.env) :: starEach [] X.env := by rfl) (hpl : (backTo pos (starEach [] X.env)).any (·.1) = false := by rfl) :
    PMk X (.Call (.Name "BadCode" p) [a] [] pos) (tMkOwn C ta) := by
  intro pins s σ H Q I h
  refine wpAny_Call_Name_kw (ld_glob I hg T.gC ?_)
  refine PySem.W.callWith_K (h₀ := X.base) I.ok.mod.kin T.kC (thn (ha.run pos pins s σ H _ I h) fun us s1 hh => ?_) he hpl
  obtain ⟨vs, H1, I1, r1, i, ev, i0, i1, q1⟩ := hh
  subst ev
  refine ⟨I1.kIn, ?_⟩
  cases r1 with
  | cons rv rn =>
    rename_i v' us'
    cases rn
    obtain ⟨tk0, rfl⟩ := rv
    show wpAny _ _ (call (.ref C) [.int i tk0]) _ _ _
    have hlim := I1.nolimit
    have hmod := I1.mod
    obtain ⟨mb, hmb, hbb⟩ := hmod.blt
    have bk := I1.bk
    obtain ⟨hp, g, dr, tk, os⟩ := s1
    refine wpAny_call (OE.make T (small_log i0 i1) (small_text i0 i1) I1.kIn (hmod.glob.keeps bk) ⟨mb, hmb.keeps bk, hbb⟩ hlim (by have := hr.dp; omega) fun h' tk' e d M => ?_)
    show MkP X pins σ Q (.ref e) ⟨h', g, dr, tk', os⟩
    obtain ⟨oe, fv, hoe, hc, hd, hdat, h1⟩ := M.obj
    have hns := M.ns
    obtain ⟨G', g1, g2⟩ := restrict h' fun b => decide (b ≠ e)
    have gk : ∀ b, b ≠ e → G'.get? b = h'.get? b := fun b hb => g1 b (decide_eq_true hb)
    have ge : G'.get? e = none := g2 e (by simp)
    have old : ∀ b o, hp.get? b = some o → G'.get? b = some o := fun b o q => (gk b (Nat.ne_of_lt (Nat.lt_of_lt_of_le (Heap.lt_size q) M.new))).trans (M.keep b o q)
    have ob : ObjOk X.prog X.w (upd H1 d (.xd [(("place" : Str), .int i)])) G' d (.xd [(("place" : Str), .int i)]) :=
      ⟨_, hns.at (fun o q => (gk d M.dne).trans q), fun f => relO_own (v := .int i) ⟨tk0, rfl⟩ f⟩
    have J : Inv X pins σ (upd H1 d (.xd [(("place" : Str), .int i)])) ⟨G', g, dr, tk', os⟩ := I1.laid (t' := tk') old M.dbig ob
    refine ⟨e, oe, fv, ⟨G', g, dr, tk', os⟩, _, .ref C, some d, rfl, J, fun b o q => ?_, ge, hoe, ⟨hc, hd⟩, hdat, h1, ?_, rfl, I1.bare, raises_own T.exC T.tyC, q1 d (I1.hok.fresh M.dbig)⟩
    · by_cases hb : b = e
      · have q' : G'.get? b = some o := q
        rw [hb, ge] at q'; cases q'
      · exact (gk b hb).symm.trans q
    · rw [upd_ne (Ne.symm M.dne)]
      exact I1.hok.fresh M.new
/-- raise BadCode(e) -/
def tRaiseOwn (C : Addr) (W : WX) (ta : TA) : TS := fun _ σ H => tMkOwn C ta σ H fun cls d H' => W cls d σ H'
theorem ps_raiseOwn {a : Expr} {ta : TA} {W : WX} {p pos pos2 : Pos} {k : Nat} (hc : X.calm = true) (T : OwnErr X.prog X.K X.mg C fI) (hr : Room k X.A) (tk : Takes X W) (ha : PA X [a] ta) (hg : Gl X "BadCode" := by rfl)
    (he : starEach (a :: []) X.env = (false, eval a X.env) :: starEach [] X.env := by rfl) (hpl : (backTo pos (starEach [] X.env)).any (·.1) = false := by rfl) :
    PS X (.Raise (some (.Call (.Name "BadCode" p) [a] [] pos)) none pos2) (tRaiseOwn C W ta) := ps_raise hc tk (pmk_own2 T hr ha hg he hpl)
end
end N_BadCode
namespace N_BadPatch
/-! ### an own error whose __init__ says super().__init__(f"..{x}..") and keeps x -/
def clsBody : Stmt → List Stmt
  | .ClassDef _ _ _ b .. => b
  | _ => []
abbrev iniSt : Stmt := (clsBody (top 3)).getD 0 (.Pass ⟨0, 0, 0, 0⟩)
open PySem.W PySem.HandSPX in
structure OwnErr (P : Program) (K : Frag) (mg : Str → Option Value) (C fI : Addr) : Prop where
  gC : mg "BadPatch" = some (.ref C)
  cls : ∃ nm q N bs bm sn sub ab col dd k0 k1 k2 k3 k5, K.lookup C = some (excClassObj nm q C N bs bm true sn sub ab col dd k0 k1 k2 k3 k5 "ValueError.__new__") ∧ refsVE bm = true
  sa : findIn K (.ref C) "__setattr__" = some (some (.builtin "object.__setattr__"))
  noN : findIn K (.ref C) "piece" = some none
  iC : findIn K (.ref C) "__init__" = some (some (.ref fI))
  tC : typeIn K (.ref fI) = some (.type "function")
  kC : keepIn K (.ref C) = true
  exC : subIn K (.ref C) (.type "BaseException") = some true
  tyC : typeIn K (.ref C) = some (.type "type")
  sup : ks_superIn K C C "__init__" = some (some (.builtin "ValueError.__init__"))
  subV : subIn K (.ref C) (.type "ValueError") = some true
  mroC : mroIn K C (.ref C) = some true
  noAny : nsIn K cStatics "thirdparty.any" = some none
  mS : mg "super" = none
  top : (P.main.scope.names.lookup ("super" : Str)).isSome = false
  fn : ∃ (oc : Value) (od : Option Addr) (doc pm : Value) (an : Option Addr) (cda cc : Addr) (ct : Value) (osl : Array (Option Value)),
    K.lookup fI = some ⟨oc, od, .func (ksFn "__init__" "BadPatch.__init__" (defArgs iniSt) (defBody iniSt) (defScope iniSt) .none .none doc pm an (.ref cda) ct cc), osl⟩ ∧ codeIn K (.ref cda) "BadPatch.__init__" = true ∧
    (∃ (ccl : Value) (cdd : Option Addr) (vs : Array Value) (ccs : Array (Option Value)) (file : Str) (tf : Tok), K.lookup cda = some ⟨ccl, cdd, .fields vs, ccs⟩ ∧ vs[2]? = some (.str file tf) ∧ ((P.main.file : Str) == file) = true) ∧
    ∃ (cl : Value) (cld : Option Addr) (csl : Array (Option Value)), K.lookup cc = some ⟨cl, cld, .cell (some (.ref C)), csl⟩
theorem sz1 {a b : Str} (ha : a.length ≤ 500) (hb : b.length ≤ 1000) : (a ++ b).length ≤ sizeLine := by rw [Str.length_append, sizeLine_eq]; omega
theorem sz2 {a b c : Str} (ha : a.length ≤ 500) (hb : b.length ≤ 1000) (hc : c.length ≤ 500) : (a ++ b ++ c).length ≤ sizeLine := by rw [Str.length_append, Str.length_append, sizeLine_eq]; omega
namespace OE
open PySem.W PySem.Calls PySem.HandSPX
/-- what __init__ leaves of a fresh exception at x -/
structure InitEnd (h h' : Heap) (x C dx t1 : Addr) (v : Value) : Prop where
  keep : ∀ b o, b ≠ x → h.get? b = some o → h'.get? b = some o
  obj : h'.get? x = some { cls := .ref C, dict := some dx, data := .fields #[.ref t1, .none, .none, .none, .bool false, .none] }
  dbig : h.objs.size ≤ dx
  dne : dx ≠ x
  ns : h'.Ns1 dx (fun y => if y = "piece" then some v else none)
/-- a made one -/
structure Made (h h' : Heap) (e C d : Addr) (v : Value) : Prop where
  keep : ∀ b o, h.get? b = some o → h'.get? b = some o
  new : h.objs.size ≤ e
  obj : ∃ oe vs, h'.get? e = some oe ∧ oe.cls = .ref C ∧ oe.dict = some d ∧ oe.data = .fields vs ∧ vs[1]? = some .none
  dbig : h.objs.size ≤ d
  dne : d ≠ e
  ns : h'.Ns1 d (fun y => if y = "piece" then some v else none)
section
variable {P : Program} {w : World} {A : Around} {E : Value → Shared → Prop} {R : Result → Shared → Prop} {s : Shared} {K : Frag} {mg : Str → Option Value} {C fI : Addr}
theorem call_wrapped {h : Heap} {g : Array GenState} {d : Drawn} {t : Nat} {os : OsState} {u e t0 : Addr} {rest : List Value} {Q : Value → Shared → Prop} {nm q : Str} {N : Addr} {bs bm : List Value} {sn : List Str} {sub : List Value} {ab : Bool} {col : Option Bool} {dd : Option Addr} {k0 k1 k2 k3 k5 : Option Value}
    (hC : h.get? C = some (excClassObj nm q C N bs bm true sn sub ab col dd k0 k1 k2 k3 k5 "ValueError.__new__")) (he : h.get? e = some (excO C t0)) (hu : h.get? u = some (kxs_mw "ValueError.__init__" e)) (hrest : rest.length ≤ sizeLine)
    (hq : ∀ h' t1, (∀ b o, b ≠ e → h.get? b = some o → h'.get? b = some o) → h'.get? e = some (excO C t1) → Q .none ⟨h', g, d, t, os⟩) :
    wpAny (model P w) A (call (.ref u) rest) Q E ⟨h, g, d, t, os⟩ := by
  refine wpAny_call (codeAny_of_tree ?_)
  show wpAny _ A.in1 (callAny (.ref u) ⟨rest, []⟩) _ _ _
  simp only [callAny]
  refine wpAny_bind (wpAny_load hu ?_)
  simp only [kxs_mw, show (Value.type "method-wrapper" == Value.type "method" || Value.type "method-wrapper" == Value.type "builtin_function_or_method" || Value.type "method-wrapper" == Value.type "method-wrapper") = true by decide, if_true]
  refine KFB.if_so (by decide) ?_
  refine wpAny_bind (check_bound_init F.excBase_ValueError.toExcCallFacts hC he rfl ?_)
  refine wpAny_bind (wpAny_pure (wpAny_pure ?_))
  refine ⟨plainId_quiet F.excBase_ValueError.init.plain _, codeAny_builtin F.excBase_ValueError.initEntry ?_⟩
  exact exc_init_tree (cls := .ref C) (t0 := t0) (dv := none) (c2 := .none) (c3 := .none) (b4 := .bool false) he hrest fun h' k1 k2 _ => hq h' _ k1 k2
theorem ini {x t0 : Addr} {i : Int} {tk0 : Tok} (T : OwnErr P K mg C fI) (hi : i.natAbs.log2 < 1920) (hil : (toString i : Str).length ≤ 1000) (X : K.In s.heap) (hg : s.heap.Ns mainGlobals mg) (hb : ∃ mb, s.heap.Ns builtinsNs mb ∧ ∀ x : Str, x ≠ "__name__" → mb x = bootBuiltins x)
    (hlim : s.heap.NoLimit) (hx : s.heap.get? x = some (excO C t0)) (hnx : K.lookup x = none) (hroom : A.depth < recursionLimit)
    (hq : ∀ h' tk dx t1, InitEnd s.heap h' x C dx t1 (.int i tk0) → R (.ok (.ret .none)) { s with heap := h', toks := tk }) :
    codeAny (model P w) A (.call (.ref fI) ⟨[.ref x, .int i tk0], []⟩) R s := by
  obtain ⟨oc, od, doc, pm, an, cda, cc, ct, osl, ho, hcd, ⟨ccl, cdd, vs, ccs, file, tf, hcode, hvs, hfile⟩, cl, cld, csl, hcell⟩ := T.fn
  obtain ⟨nm, q, N, bs, bm, sn, sub, ab, col, dd, k0, k1, k2, k3, k5, hC, hbm⟩ := T.cls
  obtain ⟨mb, hb, hbb⟩ := hb
  have hcl : clsIn K C = some { name := nm, bases := bs, mro := .ref C :: bm, ns := N, qualname := q, hasDict := true, slotNames := sn, subclasses := sub, abstract := ab, collection := col, hasDel := false } := by unfold clsIn; rw [hC] <;> rfl
  have sl1 : (defScope iniSt).names.lookup ("self" : Str) = some .local := by decide +kernel
  have sl2 : (defScope iniSt).names.lookup ("piece" : Str) = some .local := by decide +kernel
  have hbd : BindsTo s (ksFn "__init__" "BadPatch.__init__" (defArgs iniSt) (defBody iniSt) (defScope iniSt) .none .none doc pm an (.ref cda) ct cc) ⟨[.ref x, .int i tk0], []⟩ [("self", .ref x), ("piece", .int i tk0)] := BindsTo.of_eq (by first | rfl | with_unfolding_all rfl)
  refine ks_codeAny_call_defAt (binds := [("self", .ref x), ("piece", .int i tk0)]) hroom (X _ _ ho) rfl hlim (codeRec_of X hcd) rfl hbd (show ∀ x ∈ (defScope iniSt).names, x.2 ≠ .cell by decide +kernel)
    (fun y hy => ?_) (fun h₁ hns k => ?_) rfl rfl rfl
  · rcases List.mem_cons.mp hy with rfl | hy
    · exact sl1
    · rcases List.mem_cons.mp hy with rfl | hy
      · exact sl2
      · cases hy
  have X₁ : K.In h₁ := X.keeps k
  have hx₁ := k _ _ hx
  have hC₁ := X₁ _ _ hC
  obtain ⟨hp, g, dr, tk, os⟩ := s
  have I₁ : InstAt h₁ x (excO C t0) C none := ⟨hx₁, rfl, rfl, trivial⟩
  have hv1 : (fun y => List.lookup y (List.reverse [(("self" : Str), Value.ref x), ("piece", .int i tk0)])) "self" = some (.ref x) := by first | rfl | with_unfolding_all rfl
  have hv2 : (fun y => List.lookup y (List.reverse [(("self" : Str), Value.ref x), ("piece", .int i tk0)])) "piece" = some (.int i tk0) := by first | rfl | with_unfolding_all rfl
  have hxC : x ≠ C := fun z => by rw [z, hC] at hnx; cases hnx
  have sl3 : (defScope iniSt).names.lookup ("super" : Str) = some .globalImplicit := by decide +kernel
  have sl4 : (defScope iniSt).names.lookup ("__class__" : Str) = some .free := by decide +kernel
  refine ks_wpAt_execs_cons (ks_wpAt_Expr_any (ks_wpAt_MethodCall ?_))
  refine ks_wpAt_super_base sl3 sl4 (by decide +kernel) rfl (X₁ _ _ ho) rfl rfl rfl (X₁ _ _ hcode) rfl hvs hfile T.top ?_
  refine ks_loadName_global rfl sl3 (loadGlobal_builtin (hg.keeps k) T.mS (hb.keeps k) ((hbb _ (by decide +kernel)).trans (show bootBuiltins "super" = some (.type "super") by first | boot_by_name | rfl | kernel_rfl)) ⟨rfl, ?_⟩)
  refine wpAny_loadName_free rfl sl4 rfl ⟨_, X₁ _ _ hcell, rfl⟩ ?_
  refine wpAny_loadName_local rfl sl1 hns hv1 ?_
  refine ks_wpAny_isType_cls hC₁ rfl ⟨rfl, ?_⟩
  refine ks_wpAny_call_super hC₁ rfl hx₁ rfl (fun c e => by cases e) (looks_mroIn X₁ T.mroC) (fun h₂ e₂ k₂ => ?_)
  have X₂ : K.In h₂ := X₁.keeps k₂
  have hx₂ := k₂ _ _ hx₁
  have I₂ : InstAt h₂ x (excO C t0) C none := ⟨hx₂, rfl, rfl, trivial⟩
  have hsup := T.sup
  unfold ks_superIn at hsup
  rw [hcl] at hsup
  refine kxs_getMethod kxs_ValueError e₂ (looks_opaque X₂ T.noAny) (l₀ := .ref C :: bm) (fun A Q E s k q => wpAny_bind ((looks_clsIn X₂ hcl) A _ E s k (wpAny_pure q))) rfl X₂ hsup (I₂.type.andThen (looks_subIn X₂ T.subV)) hxC (by decide) ?_
  refine kxs_callWith (i := "ValueError.__init__") (x := x) rfl ?_
  have k₃ : ∀ b o, h₂.get? b = some o → (h₂.push (kxs_mw "ValueError.__init__" x)).get? b = some o := fun b o e => Heap.get?_push_of_some _ e
  have hns₃ := (hns.keeps k₂).keeps k₃
  have hu : (h₂.push (kxs_mw "ValueError.__init__" x)).get? h₂.objs.size = some (kxs_mw "ValueError.__init__" x) := Heap.get?_push_at rfl rfl
  refine evalArgs_plain (spliced_cons (wpAny_JoinedStr (pos := ⟨0, 0, 0, 0⟩) ?_))
  refine wpAny_Constant_str ⟨_, _, rfl, (by decide +kernel), ?_⟩
  refine wpAny_FormattedValue_plain (wpAny_Name (wpAny_loadName_local rfl sl2 hns₃ hv2 ?_) (by decide))
  refine wpAny_formatField_int hi ⟨_, _, rfl, sz1 (by decide +kernel) hil, ?_⟩
  refine wpAny_Constant_str ⟨_, _, rfl, sz2 (by decide +kernel) hil (by decide +kernel), ?_⟩
  refine ⟨sz2 (by decide +kernel) hil (by decide +kernel), spliced_nil ⟨hu, ?_⟩⟩
  refine call_wrapped (k₃ _ _ (k₂ _ _ hC₁)) (k₃ _ _ hx₂) hu (by show 1 ≤ sizeLine; rw [sizeLine_eq]; omega) (fun h₄ t1 k₄ hx₄ => ?_)
  have X₄ : K.In h₄ := fun a o e => k₄ a o (fun z => by rw [z, hnx] at e; cases e) ((X₂.keeps k₃) a o e)
  obtain ⟨oL, esL, epL, hoL, hdL, rL⟩ := hns₃
  have xL : hp.objs.size ≠ x := Nat.ne_of_gt (Heap.lt_size hx)
  have hns₄ : h₄.Ns hp.objs.size _ := ⟨oL, esL, epL, k₄ _ _ xL hoL, hdL, rL⟩
  refine wpAt_of_wpAny (wpAny_execs_cons (plainObj_wpAny_Assign_Attribute ?_))
  refine wpAny_Name (wpAny_loadName_local rfl sl2 hns₄ hv2 ?_) (by decide)
  refine wpAny_Name (wpAny_loadName_local rfl sl1 hns₄ hv1 ?_) (by decide)
  refine set_plain X₄ (ox := excO C t1) (od := none) ⟨hx₄, rfl, rfl, trivial⟩ T.sa ?_
  refine exc_osa X₄ hx₄ hcl (show refsVE (.ref C :: bm) = true from hbm) rfl T.noN (fun h₅ tk₅ dx k₅ dn dne hx₅ hn₅ => ?_)
  refine wpAny_execs_nil (hq h₅ tk₅ dx t1 ⟨fun b o hb e => k₅ b o hb (k₄ b o hb (k₃ _ _ (k₂ _ _ (k b o e)))), hx₅, ?_, dne, hn₅⟩)
  refine Nat.le_trans (Nat.le_of_lt (Heap.lt_size (k₄ _ _ xL hoL))) dn
theorem make {i : Int} {tk0 : Tok} (T : OwnErr P K mg C fI) (hi : i.natAbs.log2 < 1920) (hil : (toString i : Str).length ≤ 1000) (X : K.In s.heap) (hg : s.heap.Ns mainGlobals mg) (hb : ∃ mb, s.heap.Ns builtinsNs mb ∧ ∀ x : Str, x ≠ "__name__" → mb x = bootBuiltins x)
    (hlim : s.heap.NoLimit) (hroom : A.depth + 1 < recursionLimit)
    (hq : ∀ h' tk e d, Made s.heap h' e C d (.int i tk0) → R (.ok (.ret (.ref e))) { s with heap := h', toks := tk }) :
    codeAny (model P w) A (.call (.ref C) ⟨[.int i tk0], []⟩) R s := by
  obtain ⟨nm, q, N, bs, bm, sn, sub, ab, col, dd, k0, k1, k2, k3, k5, hC, hbm⟩ := T.cls
  obtain ⟨mb, hb, hbb⟩ := hb
  obtain ⟨hp, g, dr, tk, os⟩ := s
  have k : ∀ b o, hp.get? b = some o → ((hp.push (kdv_tup [.int i tk0])).push (excO C hp.objs.size)).get? b = some o := fun b o e => Heap.get?_push_of_some _ (Heap.get?_push_of_some _ e)
  have hget : ((hp.push (kdv_tup [.int i tk0])).push (excO C hp.objs.size)).get? (hp.objs.size + 1) = some (excO C hp.objs.size) := by heap_get
  have hnx : K.lookup (hp.objs.size + 1) = none := by
    cases e : K.lookup (hp.objs.size + 1) with
    | none => rfl
    | some o =>
      have z : hp.get? (hp.objs.size + 1) = some o := X _ _ e
      exact absurd (Nat.lt_of_succ_lt (Heap.lt_size z)) (Nat.lt_irrefl _)
  refine call_own F.excBase_ValueError (fun X => refsVE_contains X bm hbm) (X _ _ hC) (looks_findIn X T.iC) (fun self => bind_fn X self T.tC) (by show 1 ≤ sizeLine; rw [sizeLine_eq]; omega) ?_
  refine ini (s := ⟨(hp.push (kdv_tup [.int i tk0])).push (excO C hp.objs.size), g, dr, tk, os⟩) T hi hil (X.keeps k) (hg.keeps k) ⟨mb, hb.keeps k, hbb⟩ (hlim.keeps k) hget hnx ?_ fun h' tk' dx t1 ⟨k', hx, dn, dne, hns⟩ => ?_
  · exact hroom
  · have old : ∀ b o, hp.get? b = some o → h'.get? b = some o := fun b o e => k' b o (Nat.ne_of_lt (Nat.lt_succ_of_lt (Heap.lt_size e))) (k b o e)
    have z : hp.objs.size + 1 + 1 ≤ dx := by
      have q := dn
      rw [Heap.size_push, Heap.size_push] at q
      exact q
    exact ⟨rfl, hq h' tk' (hp.objs.size + 1) dx ⟨old, Nat.le_succ _, ⟨_, _, hx, rfl, rfl, rfl, rfl⟩, (show hp.objs.size ≤ dx by omega), dne, hns⟩⟩
end
end OE
section
variable {X : Cx} {C fI : Addr}
theorem relO_own {v : V} {v' : Value} (r : RelV v v') (f : Str) : RelO (List.lookup f [(("piece" : Str), v)]) (if f = "piece" then some v' else none) := by
  by_cases hw : f = "piece"
  · subst hw
    rw [if_pos rfl]
    have q : List.lookup ("piece" : Str) [(("piece" : Str), v)] = some v := by simp [List.lookup]
    rw [q]
    exact r
  · rw [if_neg hw]
    have qw : (f == ("piece" : Str)) = false := by simpa using hw
    have q2 : List.lookup f [(("piece" : Str), v)] = none := by simp [List.lookup, qw]
    rw [q2]
    trivial
/-- BadPatch(e), e a small number -/
def tMkOwn (C : Addr) (ta : TA) : L2.St → Hp → XK → Prop := fun σ H Q => ta σ H fun vs H1 => ∃ i : Int, vs = [.int i] ∧ 0 ≤ i ∧ i ≤ 20000 ∧ ∀ d, H1 d = none → Q (.ref C) (some d) (upd H1 d (.xd [(("piece" : Str), .int i)]))
theorem small_text {i : Int} (h0 : 0 ≤ i) (h1 : i ≤ 20000) : (toString i : Str).length ≤ 1000 := by
  have h2 : i.natAbs ≤ 20000 := by omega
  have e := int_text_length_le10 (k := 10) (by decide) (Nat.lt_of_le_of_lt h2 (by decide))
  rw [PySem.ofString_length]
  omega
theorem small_log {i : Int} (h0 : 0 ≤ i) (h1 : i ≤ 20000) : i.natAbs.log2 < 1920 := by
  have h : i.natAbs ≤ 20000 := by omega
  by_cases z : i.natAbs = 0
  · rw [z]; decide
  · have h3 : i.natAbs.log2 < 16 := (Nat.log2_lt z).mpr (show i.natAbs < 2 ^ 16 by omega)
    omega
theorem pmk_own2 {a : Expr} {ta : TA} {p pos : Pos} {k : Nat} (T : OwnErr X.prog X.K X.mg C fI) (hr : Room k X.A) (ha : PA X [a] ta) (hg : Gl X "BadPatch" := by rfl)
    (he : starEach (a :: []) X.env = (false, eval a X.env) :: starEach [] X.env := by rfl) (hpl : (backTo pos (starEach [] X.env)).any (·.1) = false := by rfl) :
    PMk X (.Call (.Name "BadPatch" p) [a] [] pos) (tMkOwn C ta) := by
  intro pins s σ H Q I h
  refine wpAny_Call_Name_kw (ld_glob I hg T.gC ?_)
  refine PySem.W.callWith_K (h₀ := X.base) I.ok.mod.kin T.kC (thn (ha.run pos pins s σ H _ I h) fun us s1 hh => ?_) he hpl
  obtain ⟨vs, H1, I1, r1, i, ev, i0, i1, q1⟩ := hh
  subst ev
  refine ⟨I1.kIn, ?_⟩
  cases r1 with
  | cons rv rn =>
    rename_i v' us'
    cases rn
    obtain ⟨tk0, rfl⟩ := rv
    show wpAny _ _ (call (.ref C) [.int i tk0]) _ _ _
    have hlim := I1.nolimit
    have hmod := I1.mod
    obtain ⟨mb, hmb, hbb⟩ := hmod.blt
    have bk := I1.bk
    obtain ⟨hp, g, dr, tk, os⟩ := s1
    refine wpAny_call (OE.make T (small_log i0 i1) (small_text i0 i1) I1.kIn (hmod.glob.keeps bk) ⟨mb, hmb.keeps bk, hbb⟩ hlim (by have := hr.dp; omega) fun h' tk' e d M => ?_)
    show MkP X pins σ Q (.ref e) ⟨h', g, dr, tk', os⟩
    obtain ⟨oe, fv, hoe, hc, hd, hdat, h1⟩ := M.obj
    have hns := M.ns
    obtain ⟨G', g1, g2⟩ := restrict h' fun b => decide (b ≠ e)
    have gk : ∀ b, b ≠ e → G'.get? b = h'.get? b := fun b hb => g1 b (decide_eq_true hb)
    have ge : G'.get? e = none := g2 e (by simp)
    have old : ∀ b o, hp.get? b = some o → G'.get? b = some o := fun b o q => (gk b (Nat.ne_of_lt (Nat.lt_of_lt_of_le (Heap.lt_size q) M.new))).trans (M.keep b o q)
    have ob : ObjOk X.prog X.w (upd H1 d (.xd [(("piece" : Str), .int i)])) G' d (.xd [(("piece" : Str), .int i)]) :=
      ⟨_, hns.at (fun o q => (gk d M.dne).trans q), fun f => relO_own (v := .int i) ⟨tk0, rfl⟩ f⟩
    have J : Inv X pins σ (upd H1 d (.xd [(("piece" : Str), .int i)])) ⟨G', g, dr, tk', os⟩ := I1.laid (t' := tk') old M.dbig ob
    refine ⟨e, oe, fv, ⟨G', g, dr, tk', os⟩, _, .ref C, some d, rfl, J, fun b o q => ?_, ge, hoe, ⟨hc, hd⟩, hdat, h1, ?_, rfl, I1.bare, raises_own T.exC T.tyC, q1 d (I1.hok.fresh M.dbig)⟩
    · by_cases hb : b = e
      · have q' : G'.get? b = some o := q
        rw [hb, ge] at q'; cases q'
      · exact (gk b hb).symm.trans q
    · rw [upd_ne (Ne.symm M.dne)]
      exact I1.hok.fresh M.new
/-- raise BadPatch(e) -/
def tRaiseOwn (C : Addr) (W : WX) (ta : TA) : TS := fun _ σ H => tMkOwn C ta σ H fun cls d H' => W cls d σ H'
theorem ps_raiseOwn {a : Expr} {ta : TA} {W : WX} {p pos pos2 : Pos} {k : Nat} (hc : X.calm = true) (T : OwnErr X.prog X.K X.mg C fI) (hr : Room k X.A) (tk : Takes X W) (ha : PA X [a] ta) (hg : Gl X "BadPatch" := by rfl)
    (he : starEach (a :: []) X.env = (false, eval a X.env) :: starEach [] X.env := by rfl) (hpl : (backTo pos (starEach [] X.env)).any (·.1) = false := by rfl) :
    PS X (.Raise (some (.Call (.Name "BadPatch" p) [a] [] pos)) none pos2) (tRaiseOwn C W ta) := ps_raise hc tk (pmk_own2 T hr ha hg he hpl)
end
end N_BadPatch
/-! ### reading a code -/
/-- a promise that never raises, for a caller without errors -/
theorem FnOk.x0 {P : Program} {w : World} {K : PySem.W.Frag} {mg : Str → Option Value} {base : Heap} {k : Nat} {f : Addr} {fd : FuncData} {ps : List Str} {sp sp' : Sp} (F : FnOk P w K mg base (L2.CX P w) k f fd ps sp)
    (h : ∀ vs H Q E, sp' vs H Q E → sp vs H Q (fun _ _ _ => False)) : FnOk P w K mg base CX0 k f fd ps sp' := by
  refine ⟨fun vs H Q E q => F.len vs H Q _ (h _ _ _ _ q), fun A outer s H args us vs Q E hr he hb hv hs => ?_⟩
  refine codeAny_mono (F.run A outer s H args us vs Q _ hr he hb hv (h _ _ _ _ hs)) fun r s' q => ?_
  cases r with
  | ok v => cases v <;> exact q
  | error e =>
    obtain ⟨_, _, _, _, _, _, _, _, _, _, _, _, z⟩ := q
    exact z.elim
def Rz (E : XK) (C : Addr) (fld : Str) (e : Int) (H : Hp) : Prop := ∀ H' d, Same H H' → H' d = none → E (.ref C) (some d) (upd H' d (.xd [(fld, .int e)]))
theorem Rz.same {E : XK} {C : Addr} {fld : Str} {e : Int} {H H' : Hp} (s : Same H H') (r : Rz E C fld e H) : Rz E C fld e H' := fun H2 d s2 hd => r H2 d (s.trans s2) hd
theorem Rz.now {E : XK} {C : Addr} {fld : Str} {e : Int} {H : Hp} (r : Rz E C fld e H) : ∀ d, H d = none → E (.ref C) (some d) (upd H d (.xd [(fld, .int e)])) := fun d hd => r H d (Same.refl _) hd
def numAt (bs : List Int) (z : Int) : Except Int (Int × Int) :=
  match bs[z.toNat]? with
  | none => .error bs.length
  | some f => if f < 128 then .ok (f, z + 1) else
    match bs[(z + 1).toNat]? with
    | none => .error bs.length
    | some t => if t = 0 then .error (z + 1) else if 128 ≤ t then .error (z + 1) else .ok (f - 128 + t * 128, z + 2)
def pieceAt (bs : List Int) (z : Int) : Except Int (Row × Int) :=
  match bs[z.toNat]? with
  | none => .error bs.length
  | some f => if f % 2 ^ 2 = 3 then .error z else
    match numAt bs z with
    | .error e => .error e
    | .ok (n, j) => if n / 4 = 0 then .error z else
      if n % 2 ^ 2 = 0 then
        match numAt bs j with
        | .error e => .error e
        | .ok (b, k) => .ok (.copy b (n / 4), k)
      else if n % 2 ^ 2 = 2 then
        match bs[j.toNat]? with
        | none => .error bs.length
        | some x => .ok (.run x (n / 4), j + 1)
      else if (bs.length : Int) < j + n / 4 then .error bs.length else .ok (.bring ((bs.drop j.toNat).take (n / 4).toNat), j + n / 4)
def piecesAt (bs : List Int) : Nat → Int → Except Int (List Row × Int)
  | 0, z => .ok ([], z)
  | k + 1, z =>
    match piecesAt bs k z with
    | .error e => .error e
    | .ok (rs, q) =>
      match pieceAt bs q with
      | .error e => .error e
      | .ok (r, y) => .ok (rs ++ [r], y)
def codeAt (bs : List Int) (b : Int) : Except Int (List Row × Int) :=
  match numAt bs b with
  | .error e => .error e
  | .ok (n, p) =>
    match piecesAt bs n.toNat p with
    | .error e => .error e
    | .ok (rs, q) =>
      match bs[q.toNat]? with
      | none => .error bs.length
      | some c => if c = ((bs.drop b.toNat).take (q.toNat - b.toNat)).sum % 251 then .ok (rs, q + 1) else .error q
def ipM : TIp := fun x y H Q => ∃ i j, x = .int i ∧ y = .int j ∧ CMul i j ∧ Q (.int (i * j)) H
theorem ip_mul {X : Cx} : PIp X .Mult ipM := by
  intro pins s σ H x y v u Q I r1 r2 h
  obtain ⟨i, j, e1, e2, hc, q⟩ := h
  subst e1; subst e2
  obtain ⟨t, rfl⟩ := r1
  obtain ⟨t', rfl⟩ := r2
  exact imul_int ⟨.int _, H, I.tok _, ⟨_, rfl⟩, q⟩ hc.ok
theorem get_lt {bs : List Int} {z : Int} {b : Int} (h0 : 0 ≤ z) (h : bs[z.toNat]? = some b) : z < bs.length := by
  have := (List.getElem?_eq_some_iff.mp h).1
  omega
theorem numAt_ok {bs : List Int} {z n q : Int} (hb : B8 bs) (h0 : 0 ≤ z) (h : numAt bs z = .ok (n, q)) : 0 ≤ n ∧ n ≤ 16383 ∧ z < q ∧ q ≤ bs.length ∧ q ≤ z + 2 := by
  unfold numAt at h
  cases e : bs[z.toNat]? with
  | none => rw [e] at h; cases h
  | some f =>
    rw [e] at h
    have l1 := get_lt h0 e
    have b1 := hb f (List.mem_of_getElem? e)
    dsimp only at h
    by_cases c : f < 128
    · rw [if_pos c] at h
      cases h
      omega
    · rw [if_neg c] at h
      cases e2 : bs[(z + 1).toNat]? with
      | none => rw [e2] at h; cases h
      | some t =>
        rw [e2] at h
        have l2 := get_lt (z := z + 1) (by omega) e2
        have b2 := hb t (List.mem_of_getElem? e2)
        dsimp only at h
        by_cases c2 : t = 0
        · rw [if_pos c2] at h; cases h
        · rw [if_neg c2] at h
          by_cases c3 : 128 ≤ t
          · rw [if_pos c3] at h; cases h
          · rw [if_neg c3] at h
            cases h
            omega
theorem pieceAt_ok {bs : List Int} {z q : Int} {r : Row} (hb : B8 bs) (h0 : 0 ≤ z) (h : pieceAt bs z = .ok (r, q)) : z < q ∧ q ≤ bs.length := by
  unfold pieceAt at h
  cases e : bs[z.toNat]? with
  | none => rw [e] at h; cases h
  | some f =>
    rw [e] at h
    dsimp only at h
    by_cases c : f % 2 ^ 2 = 3
    · rw [if_pos c] at h; cases h
    · rw [if_neg c] at h
      cases e2 : numAt bs z with
      | error x => rw [e2] at h; cases h
      | ok nj =>
        obtain ⟨n, j⟩ := nj
        rw [e2] at h
        have k := numAt_ok hb h0 e2
        dsimp only at h
        by_cases c2 : n / 4 = 0
        · rw [if_pos c2] at h; cases h
        · rw [if_neg c2] at h
          by_cases c3 : n % 2 ^ 2 = 0
          · rw [if_pos c3] at h
            cases e3 : numAt bs j with
            | error x => rw [e3] at h; cases h
            | ok bk =>
              obtain ⟨b, kk⟩ := bk
              rw [e3] at h
              cases h
              have k2 := numAt_ok hb (by omega) e3
              omega
          · rw [if_neg c3] at h
            by_cases c4 : n % 2 ^ 2 = 2
            · rw [if_pos c4] at h
              cases e3 : bs[j.toNat]? with
              | none => rw [e3] at h; cases h
              | some x =>
                rw [e3] at h
                have l := get_lt (by omega) e3
                cases h
                omega
            · rw [if_neg c4] at h
              by_cases c5 : (bs.length : Int) < j + n / 4
              · rw [if_pos c5] at h; cases h
              · rw [if_neg c5] at h
                cases h
                omega
theorem piecesAt_ok {bs : List Int} (hb : B8 bs) : ∀ {k : Nat} {z q : Int} {rs : List Row}, 0 ≤ z → z ≤ bs.length → piecesAt bs k z = .ok (rs, q) → z ≤ q ∧ q ≤ bs.length ∧ z + k ≤ q ∧ rs.length = k
  | 0, z, q, rs, h0, h1, h => by
    cases h
    exact ⟨Int.le_refl _, h1, by simp, rfl⟩
  | k + 1, z, q, rs, h0, h1, h => by
    unfold piecesAt at h
    cases e : piecesAt bs k z with
    | error x => rw [e] at h; cases h
    | ok a =>
      obtain ⟨rs', q'⟩ := a
      rw [e] at h
      have i1 := piecesAt_ok hb h0 h1 e
      dsimp only at h
      cases e2 : pieceAt bs q' with
      | error x => rw [e2] at h; cases h
      | ok a =>
        obtain ⟨r, y⟩ := a
        rw [e2] at h
        cases h
        have i2 := pieceAt_ok hb (by omega) e2
        refine ⟨by omega, by omega, by omega, ?_⟩
        rw [List.length_append, i1.2.2.2]
        rfl
theorem piecesAt_err {bs : List Int} {z e : Int} {i : Nat} : ∀ {n : Nat}, i ≤ n → piecesAt bs i z = .error e → piecesAt bs n z = .error e
  | 0, hi, h => by
    have : i = 0 := by omega
    subst this
    exact h
  | n + 1, hi, h => by
    by_cases c : i = n + 1
    · subst c; exact h
    · unfold piecesAt
      rw [piecesAt_err (n := n) (by omega) h]
theorem codeAt_ok {bs : List Int} {b q : Int} {rs : List Row} (hb : B8 bs) (h0 : 0 ≤ b) (h : codeAt bs b = .ok (rs, q)) : b < q ∧ q ≤ bs.length := by
  unfold codeAt at h
  cases e : numAt bs b with
  | error x => rw [e] at h; cases h
  | ok a =>
    obtain ⟨n, p⟩ := a
    rw [e] at h
    have k := numAt_ok hb h0 e
    dsimp only at h
    cases e2 : piecesAt bs n.toNat p with
    | error x => rw [e2] at h; cases h
    | ok a =>
      obtain ⟨rs', q'⟩ := a
      rw [e2] at h
      have k2 := piecesAt_ok hb (by omega) (by omega) e2
      dsimp only at h
      cases e3 : bs[q'.toNat]? with
      | none => rw [e3] at h; cases h
      | some c =>
        rw [e3] at h
        have l := get_lt (by omega) e3
        dsimp only at h
        split at h
        · cases h
          omega
        · cases h
theorem byteArr_mid {ns : List Int} {i j : Nat} (hi : i ≤ ns.length) (hj : j ≤ ns.length) : PySem.W.KBy.picked (byteArr ns) (some (i : Int)) (some (j : Int)) = byteArr ((ns.drop i).take (j - i)) := by
  rw [PySem.W.KBc.picked_eq]
  show (((byteArr ns).toList.drop (clipAt (byteArr ns).size (i : Int))).take (clipAt (byteArr ns).size (j : Int) - clipAt (byteArr ns).size (i : Int))).toArray = _
  rw [clipAt_nat, clipAt_nat, byteArr_size, Nat.min_eq_left hi, Nat.min_eq_left hj]
  unfold byteArr
  show (((ns.map _).drop i).take (j - i)).toArray = (((ns.drop i).take (j - i)).map _).toArray
  rw [List.map_take, List.map_drop]
theorem picked_mid {ns : List Int} {i j : Int} (h0 : 0 ≤ i) (h1 : i ≤ j) (hj : j ≤ ns.length) : PySem.W.KBy.picked (byteArr ns) (some i) (some j) = byteArr ((ns.drop i.toNat).take (j.toNat - i.toNat)) := by
  have a := byteArr_mid (ns := ns) (i := i.toNat) (j := j.toNat) (by omega) (by omega)
  rw [Int.toNat_of_nonneg h0, Int.toNat_of_nonneg (by omega)] at a
  exact a
theorem mid_b8 {bs : List Int} (hb : B8 bs) (i j : Nat) : B8 ((bs.drop i).take j) := fun n hn => hb n (List.mem_of_mem_drop (List.mem_of_mem_take hn))
def spByteAtX (C : Addr) : Sp := fun vs H Q E => ∃ (bs : List Int) (z : Int), vs = [.byt (byteArr bs), .int z] ∧ B8 bs ∧ bs.length ≤ 10000 ∧ 0 ≤ z ∧ (∀ b, bs[z.toNat]? = some b → Q (.int b) H) ∧ (bs[z.toNat]? = none → Rz E C "place" bs.length H)
def spNumAtX (C : Addr) : Sp := fun vs H Q E => ∃ (bs : List Int) (z : Int), vs = [.byt (byteArr bs), .int z, .int 2] ∧ B8 bs ∧ bs.length ≤ 10000 ∧ 0 ≤ z ∧ z ≤ 15000 ∧
  (∀ n q, numAt bs z = .ok (n, q) → ∀ p, H p = none → Q (.ref p) (upd H p (.tup [.int n, .int q]))) ∧ (∀ e, numAt bs z = .error e → Rz E C "place" e H)
def spPieceAtX (C : Addr) : Sp := fun vs H Q E => ∃ (bs : List Int) (z : Int), vs = [.byt (byteArr bs), .int z] ∧ B8 bs ∧ bs.length ≤ 10000 ∧ 0 ≤ z ∧ z ≤ 15000 ∧
  (∀ r q, pieceAt bs z = .ok (r, q) → ∀ H' t p, Same H H' → H' t = some (.tup r.tup) → H p = none → H' p = some (.tup [.ref t, .int q]) → Q (.ref p) H') ∧ (∀ e, pieceAt bs z = .error e → Rz E C "place" e H)
def spBytesAtX (C : Addr) : Sp := fun vs H Q E => ∃ (bs : List Int) (z m : Int), vs = [.byt (byteArr bs), .int z, .int m] ∧ B8 bs ∧ bs.length ≤ 10000 ∧ 0 ≤ z ∧ 0 ≤ m ∧
  (z + m ≤ bs.length → ∀ p, H p = none → Q (.ref p) (upd H p (.tup [.byt (byteArr ((bs.drop z.toNat).take m.toNat)), .int (z + m)]))) ∧ ((bs.length : Int) < z + m → Rz E C "place" bs.length H)
def spSeveralX (C f : Addr) : Sp := fun vs H Q E => ∃ (bs : List Int) (z n : Int), vs = [.ref f, .byt (byteArr bs), .int z, .int n] ∧ B8 bs ∧ bs.length ≤ 10000 ∧ 0 ≤ z ∧ z ≤ bs.length ∧ 0 ≤ n ∧ n ≤ 16383 ∧
  (∀ rs q, piecesAt bs n.toNat z = .ok (rs, q) → ∀ H' D ws p, Same H H' → H' D = some (.lst ws) → Paired (PieceV H') ws rs → H' p = some (.tup [.ref D, .int q]) → Q (.ref p) H') ∧ (∀ e, piecesAt bs n.toNat z = .error e → Rz E C "place" e H)
def spCheckAtX (C : Addr) : Sp := fun vs H Q E => ∃ (bs : List Int) (b q : Int), vs = [.byt (byteArr bs), .int b, .int q] ∧ B8 bs ∧ bs.length ≤ 10000 ∧ 0 ≤ b ∧ b ≤ q ∧ q ≤ bs.length ∧
  (∀ c, bs[q.toNat]? = some c → c = ((bs.drop b.toNat).take (q.toNat - b.toNat)).sum % 251 → Q (.int (q + 1)) H) ∧ (∀ c, bs[q.toNat]? = some c → ¬ c = ((bs.drop b.toNat).take (q.toNat - b.toNat)).sum % 251 → Rz E C "place" q H) ∧
  (bs[q.toNat]? = none → Rz E C "place" bs.length H)
def spCodeAtX (C : Addr) : Sp := fun vs H Q E => ∃ (bs : List Int) (z : Int), vs = [.byt (byteArr bs), .int z] ∧ B8 bs ∧ bs.length ≤ 10000 ∧ 0 ≤ z ∧ z ≤ 15000 ∧
  (∀ rs q, codeAt bs z = .ok (rs, q) → ∀ H' v p, Same H H' → PatchAt H' v rs → H' p = some (.tup [v, .int q]) → Q (.ref p) H') ∧ (∀ e, codeAt bs z = .error e → Rz E C "place" e H)
section
variable {P : Program} {w : World} {K : PySem.W.Frag} {mg : Str → Option Value} {base : Heap} {C fI : Addr}
theorem lenB {bs : List Int} {K : PySem.W.Frag} {H : Hp} (h : bs.length ≤ 100000) : LenV K (.byt (byteArr bs)) H bs.length := ⟨by rw [byteArr_size]; exact sizeS h, (byteArr_size bs).symm⟩
theorem byt_item {bs : List Int} {z b : Int} (hb : B8 bs) (h : bs[z.toNat]? = some b) : ((((bs.map fun n : Int => n.toNat.toUInt8).getD z.toNat 0).toNat : Nat) : Int) = b := byte_at hb h
theorem okx_byte_at (T : All K mg) (O_BadCode : N_BadCode.OwnErr P K mg C fI) : FnOk P w K mg base (L2.CX P w) 2 T.d_byte_at.f T.d_byte_at.fd ["some", "place"] (spByteAtX C) := by
  refine T.d_byte_at.F.okX sc_byte_at (fun vs H Q E h => ?_) (fun cdv A outer s H vs Q E hr h => ?_)
  · obtain ⟨bs, z, rfl, _⟩ := h
    rfl
  · obtain ⟨bs, z, rfl, hb, hl, h0, kS, kL⟩ := h
    refine ⟨_, (pss_cons 
      (ps_if (pt_cmpR op_ge (pv 1) (pe_callB call_len (by rfl) T.b_len PySem.boot_len (pa_cons (pv 0) pa_nil)) (nomark _)) (pss_one (N_BadCode.ps_raiseOwn rfl O_BadCode hr (takes_of rfl rfl rfl rfl) (pa_cons (pe_callB call_len (by rfl) T.b_len PySem.boot_len (pa_cons (pv 0) pa_nil)) pa_nil))) pss_nil) (pss_one 
      (ps_ret (pe_item_byt (pv 0) (pv 1) (fun _ _ => rfl))))), ?_⟩
    refine ⟨_, rfl, _, rfl, _, bs.length, rfl, lenB (by omega), _, _, rfl, rfl, _, rfl, ite2 (fun h => ?_) fun h => ?_⟩
    · have h := of_decide_eq_true h
      have kk := kL (List.getElem?_eq_none (by omega))
      exact ⟨_, rfl, _, bs.length, rfl, lenB (by omega), _, rfl, by omega, by omega, fun d hd => kk.now d hd⟩
    · have h : ¬ (z ≥ (bs.length : Int)) := of_decide_eq_false (Bool.not_eq_true _ ▸ h)
      have hz : z.toNat < bs.length := by omega
      refine ⟨_, rfl, _, rfl, bs.map fun n : Int => n.toNat.toUInt8, _, rfl, rfl, sizeS (by rw [List.length_map]; omega), h0, by rw [List.length_map]; omega, ?_⟩
      have kk := kS _ (List.getElem?_eq_getElem hz)
      rw [← byt_item hb (List.getElem?_eq_getElem hz)] at kk
      exact kk
theorem okx_bytes_at (T : All K mg) (O_BadCode : N_BadCode.OwnErr P K mg C fI) : FnOk P w K mg base (L2.CX P w) 2 T.d_bytes_at.f T.d_bytes_at.fd ["some", "place", "many"] (spBytesAtX C) := by
  refine T.d_bytes_at.F.okX sc_bytes_at (fun vs H Q E h => ?_) (fun cdv A outer s H vs Q E hr h => ?_)
  · obtain ⟨bs, z, m, rfl, _⟩ := h
    rfl
  · obtain ⟨bs, z, m, rfl, hb, hl, h0, m0, kS, kL⟩ := h
    refine ⟨_, (pss_cons 
      (ps_if (pt_cmpR op_gt (pe_op op_add (pv 1) (pv 2)) (pe_callB call_len (by rfl) T.b_len PySem.boot_len (pa_cons (pv 0) pa_nil)) (nomark _)) (pss_one (N_BadCode.ps_raiseOwn rfl O_BadCode hr (takes_of rfl rfl rfl rfl) (pa_cons (pe_callB call_len (by rfl) T.b_len PySem.boot_len (pa_cons (pv 0) pa_nil)) pa_nil))) pss_nil) (pss_one 
      (ps_ret (pe_tup (pa_cons (pe_slice sl_byt (pv 0) (po_some (pv 1)) (po_some (pe_op op_add (pv 1) (pv 2)))) (pa_cons (pe_op op_add (pv 1) (pv 2)) pa_nil)))))), ?_⟩
    refine ⟨_, rfl, _, rfl, _, _, rfl, rfl, _, rfl, _, bs.length, rfl, lenB (by omega), _, _, rfl, rfl, _, rfl, ite2 (fun h => ?_) fun h => ?_⟩
    · have h : z + m > (bs.length : Int) := of_decide_eq_true h
      exact ⟨_, rfl, _, bs.length, rfl, lenB (by omega), _, rfl, by omega, by omega, fun d hd => (kL h).now d hd⟩
    · have h : ¬ (bs.length : Int) < z + m := fun z => h (decide_eq_true z)
      refine ⟨_, rfl, _, rfl, _, rfl, _, rfl, _, rfl, _, _, rfl, rfl, _, rfl, _, rfl, by rw [byteArr_size]; omega, ?_⟩
      rw [picked_mid (by omega) (by omega) (by omega)]
      have hj : (z + m).toNat - z.toNat = m.toNat := by omega
      rw [hj]
      exact ⟨_, rfl, _, rfl, _, _, rfl, rfl, sizeS (by show 2 ≤ 100000; decide), fun p hp => kS (by omega) p hp⟩
theorem okx_number_at (T : All K mg) (O_BadCode : N_BadCode.OwnErr P K mg C fI) : FnOk P w K mg base (L2.CX P w) 3 T.d_number_at.f T.d_number_at.fd ["some", "begin", "most"] (spNumAtX C) := by
  have G_byte_at : FnOk P w K mg base (L2.CX P w) 2 T.d_byte_at.f T.d_byte_at.fd ["some", "place"] (spByteAtX C) := okx_byte_at T O_BadCode
  refine T.d_number_at.F.ok sc_number_at (fun vs H Q E h => ?_) (fun cdv A outer s H vs Q E hr h => ?_)
  · obtain ⟨bs, z, rfl, _⟩ := h
    rfl
  · obtain ⟨bs, z, rfl, hb, hl, h0, h2k, kS, kL⟩ := h
    refine ⟨_, (pss_cons 
      (ps_set (i := 3) sc_number_at.nd rfl (Or.inl rfl) pe_int) (pss_cons 
      (ps_set (i := 4) sc_number_at.nd rfl (Or.inl rfl) pe_int) (pss_cons 
      (ps_for (passes_of rfl) rfl (pi_range2 (by rfl) T.b_range (pa_cons (pv 1) (pa_cons (pe_op op_add (pv 1) (pv 2)) pa_nil))) (pg_name (i := 5) sc_number_at.nd rfl (Or.inl rfl)) (pss_cons 
      (ps_set (i := 6) sc_number_at.nd rfl (Or.inl rfl) (pe_call G_byte_at (hr.mono (by decide)) rfl T.d_byte_at.m T.d_byte_at.F.kp T.d_byte_at.b .nil (passes_call (takes_of rfl rfl rfl rfl) fun _ _ _ _ h => h) (pa_cons (pv 0) (pa_cons (pv 5) pa_nil)))) (pss_cons 
      (ps_aug (i := 3) sc_number_at.nd rfl (Or.inl rfl) (pe_op op_mul (pe_op op_andM (pv 6) (pe_op op_sub (pe_glob (v := .int 128) rfl T.c_SEVENS ⟨_, rfl⟩) pe_int)) (pv 4)) ip_add) (pss_cons 
      (ps_aug (i := 4) sc_number_at.nd rfl (Or.inl rfl) (pe_glob (v := .int 128) rfl T.c_SEVENS ⟨_, rfl⟩) ip_mul) (pss_cons 
      (ps_if (PW.pt (pw_and (pt_cmpR op_eq (pv 6) pe_int (nomark _)) (pw_and1 (pt_cmpR op_gt (pv 5) (pv 1) (nomark _))))) (pss_one (N_BadCode.ps_raiseOwn rfl O_BadCode hr (takes_of rfl rfl rfl rfl) (pa_cons (pv 5) pa_nil))) pss_nil) (pss_one 
      (ps_if (pt_cmpR op_lt (pv 6) (pe_glob (v := .int 128) rfl T.c_SEVENS ⟨_, rfl⟩) (nomark _)) (pss_one 
      (ps_ret (pe_tup (pa_cons (pv 3) (pa_cons (pe_op op_add (pv 5) pe_int) pa_nil))))) pss_nil))))))) (pss_one (N_BadCode.ps_raiseOwn rfl O_BadCode hr (takes_of rfl rfl rfl rfl) (pa_cons (pe_op op_sub (pe_op op_add (pv 1) (pv 2)) pe_int) pa_nil)))))), ?_⟩
    unfold numAt at kS kL
    have n2 : (z + 2 - z).toNat = 2 := by omega
    have q7 := p7
    have q62 : (2 : Int) ^ 62 = 4611686018427387904 := by decide
    refine ⟨_, rfl, _, rfl, _, rfl, _, _, rfl, rfl, z, z + 2, rfl, by omega, ?_⟩
    rw [n2]
    refine for_range (lo := z) (n := 2) (fun i σ H1 => H1 = H ∧ ∃ v5 v6 : Option V, (i = 0 ∧ σ = [some (.byt (byteArr bs)), some (.int z), some (.int 2), some (.int 0), some (.int 1), v5, v6]) ∨
        (i = 1 ∧ ∃ f, bs[z.toNat]? = some f ∧ 128 ≤ f ∧ σ = [some (.byt (byteArr bs)), some (.int z), some (.int 2), some (.int (f - 128)), some (.int 128), v5, v6]) ∨
        (i = 2 ∧ ∃ f t, bs[z.toNat]? = some f ∧ 128 ≤ f ∧ bs[(z + 1).toNat]? = some t ∧ 128 ≤ t ∧ ∃ n m, σ = [some (.byt (byteArr bs)), some (.int z), some (.int 2), some (.int n), some (.int m), v5, v6]))
        ⟨rfl, none, none, .inl ⟨rfl, rfl⟩⟩ ?_ ?_
    · rintro i σ H1 hi ⟨rfl, v5, v6, ⟨rfl, rfl⟩ | ⟨rfl, f, e1, hf, rfl⟩ | ⟨rfl, _⟩⟩
      · have ez : z + ((0 : Nat) : Int) = z := by omega
        rw [ez]
        refine ⟨_, rfl, _, rfl, bs, z, rfl, hb, hl, by omega, fun f e1 => ?_, fun e1 => ?_⟩
        · have l1 := get_lt h0 e1
          have b1 := hb f (List.mem_of_getElem? e1)
          rw [e1] at kS kL
          dsimp only at kS kL
          refine ⟨_, rfl, _, rfl, _, _, rfl, rfl, f, 7, rfl, rfl, _, rfl, _, _, rfl, rfl, .inl ⟨by omega, by omega⟩, _, _, rfl, rfl, ?_⟩
          refine ⟨_, rfl, _, _, rfl, rfl, .inl ⟨by decide, by decide⟩, ?_⟩
          refine ⟨_, rfl, rfl, _, rfl, ite2 (fun h2 => ?_) fun h2 => ?_⟩
          · refine ⟨_, rfl, _, rfl, _, _, rfl, rfl, _, rfl, ite2 (fun h3 => absurd (of_decide_eq_true h3) (Int.lt_irrefl _)) fun h3 => ?_⟩
            have h2 : f = 0 := V.int.inj (of_decide_eq_true h2)
            subst h2
            refine ⟨_, rfl, _, _, rfl, rfl, _, rfl, iteT ?_⟩
            exact ⟨_, rfl, _, rfl, _, _, rfl, rfl, sizeS (by show 2 ≤ 100000; decide), fun p hp => kS _ _ rfl p hp⟩
          · refine ⟨_, rfl, _, _, rfl, rfl, _, rfl, ite2 (fun h3 => ?_) fun h3 => ?_⟩
            · have h3 : f < 128 := of_decide_eq_true h3
              rw [if_pos h3] at kS
              have ev : 0 + f % 2 ^ 7 * 1 = f := by omega
              refine ⟨_, rfl, _, rfl, _, _, rfl, rfl, sizeS (by show 2 ≤ 100000; decide), fun p hp => ?_⟩
              show Q (.ref p) (upd H1 p (.tup [.int (0 + f % 2 ^ 7 * 1), .int (z + 1)]))
              rw [ev]
              exact kS _ _ rfl p hp
            · have h3 : ¬ f < 128 := of_decide_eq_false (Bool.not_eq_true _ ▸ h3)
              have ev : 0 + f % 2 ^ 7 * 1 = f - 128 := by omega
              refine ⟨rfl, some (.int z), some (.int f), .inr (.inl ⟨rfl, f, e1, by omega, ?_⟩)⟩
              show [some (V.byt (byteArr bs)), some (V.int z), some (V.int 2), some (V.int (0 + f % 2 ^ 7 * 1)), some (V.int (1 * 128)), some (V.int z), some (V.int f)] = _
              rw [ev]
              rfl
        · rw [e1] at kL
          exact kL _ rfl
      · have ez : z + ((1 : Nat) : Int) = z + 1 := by omega
        rw [ez]
        rw [e1] at kS kL
        dsimp only at kS kL
        rw [if_neg (show ¬ f < 128 by omega)] at kS kL
        refine ⟨_, rfl, _, rfl, bs, z + 1, rfl, hb, hl, by omega, fun t e2 => ?_, fun e2 => ?_⟩
        · have l2 := get_lt (by omega) e2
          have b2 := hb t (List.mem_of_getElem? e2)
          rw [e2] at kS kL
          dsimp only at kS kL
          refine ⟨_, rfl, _, rfl, _, _, rfl, rfl, t, 7, rfl, rfl, _, rfl, _, _, rfl, rfl, .inl ⟨by omega, by omega⟩, _, _, rfl, rfl, ?_⟩
          refine ⟨_, rfl, _, _, rfl, rfl, .inl ⟨by decide, by decide⟩, ?_⟩
          refine ⟨_, rfl, rfl, _, rfl, ite2 (fun h2 => ?_) fun h2 => ?_⟩
          · have h2 : t = 0 := V.int.inj (of_decide_eq_true h2)
            rw [if_pos h2] at kL
            refine ⟨_, rfl, _, rfl, _, _, rfl, rfl, _, rfl, ite2 (fun h3 => ?_) fun h3 => absurd (show z + 1 > z by omega) (of_decide_eq_false (Bool.not_eq_true _ ▸ h3))⟩
            exact ⟨_, rfl, _, rfl, by omega, by omega, fun d hd => (kL _ rfl).now d hd⟩
          · have h2 : ¬ t = 0 := fun z => h2 (decide_eq_true (congrArg V.int z))
            rw [if_neg h2] at kS kL
            refine ⟨_, rfl, _, _, rfl, rfl, _, rfl, ite2 (fun h3 => ?_) fun h3 => ?_⟩
            · have h3 : t < 128 := of_decide_eq_true h3
              rw [if_neg (by omega)] at kS
              have ev : f - 128 + t % 2 ^ 7 * 128 = f - 128 + t * 128 := by omega
              have ew : z + 1 + 1 = z + 2 := by omega
              refine ⟨_, rfl, _, rfl, _, _, rfl, rfl, sizeS (by show 2 ≤ 100000; decide), fun p hp => ?_⟩
              show Q (.ref p) (upd H1 p (.tup [.int (f - 128 + t % 2 ^ 7 * 128), .int (z + 1 + 1)]))
              rw [ev, ew]
              exact kS _ _ rfl p hp
            · have h3 : ¬ t < 128 := of_decide_eq_false (Bool.not_eq_true _ ▸ h3)
              exact ⟨rfl, _, _, .inr (.inr ⟨rfl, f, t, e1, hf, e2, by omega, _, _, rfl⟩)⟩
        · rw [e2] at kL
          exact kL _ rfl
      · omega
    · rintro σ H1 ⟨rfl, v5, v6, ⟨h, _⟩ | ⟨h, _⟩ | ⟨_, f, t, e1, hf, e2, ht, n, m, rfl⟩⟩
      · cases h
      · cases h
      · have b2 := hb t (List.mem_of_getElem? e2)
        rw [e1] at kL
        dsimp only at kL
        rw [if_neg (show ¬ f < 128 by omega), e2] at kL
        dsimp only at kL
        rw [if_neg (show ¬ t = 0 by omega), if_pos ht] at kL
        have ew : z + 2 - 1 = z + 1 := by omega
        refine ⟨_, rfl, _, rfl, _, _, rfl, rfl, _, _, rfl, rfl, z + 2 - 1, rfl, (by show 0 ≤ z + 2 - 1; omega), (by show z + 2 - 1 ≤ 20000; omega), fun d hd => ?_⟩
        rw [ew]
        exact (kL _ rfl).now d hd
theorem okx_piece_at (T : All K mg) (O_BadCode : N_BadCode.OwnErr P K mg C fI) : FnOk P w K mg base (L2.CX P w) 4 T.d_piece_at.f T.d_piece_at.fd ["some", "place"] (spPieceAtX C) := by
  have G_byte_at : FnOk P w K mg base (L2.CX P w) 2 T.d_byte_at.f T.d_byte_at.fd ["some", "place"] (spByteAtX C) := okx_byte_at T O_BadCode
  have G_number_at : FnOk P w K mg base (L2.CX P w) 3 T.d_number_at.f T.d_number_at.fd ["some", "begin", "most"] (spNumAtX C) := okx_number_at T O_BadCode
  have G_bytes_at : FnOk P w K mg base (L2.CX P w) 2 T.d_bytes_at.f T.d_bytes_at.fd ["some", "place", "many"] (spBytesAtX C) := okx_bytes_at T O_BadCode
  refine T.d_piece_at.F.okX sc_piece_at (fun vs H Q E h => ?_) (fun cdv A outer s H vs Q E hr h => ?_)
  · obtain ⟨bs, z, rfl, _⟩ := h
    rfl
  · obtain ⟨bs, z, rfl, hb, hl, h0, h2k, kS, kL⟩ := h
    refine ⟨_, (pss_cons 
      (ps_if (pt_cmpR op_eq (pe_op op_andM (pe_call G_byte_at (hr.mono (by decide)) rfl T.d_byte_at.m T.d_byte_at.F.kp T.d_byte_at.b .nil (passes_call (takes_of rfl rfl rfl rfl) fun _ _ _ _ h => h) (pa_cons (pv 0) (pa_cons (pv 1) pa_nil))) pe_int) (pe_glob (v := .int 3) rfl T.c_NO_WORD ⟨_, rfl⟩) (nomark _)) (pss_one (N_BadCode.ps_raiseOwn rfl O_BadCode hr (takes_of rfl rfl rfl rfl) (pa_cons (pv 1) pa_nil))) pss_nil) (pss_cons 
      (ps_asg (pe_call G_number_at (hr.mono (by decide)) rfl T.d_number_at.m T.d_number_at.F.kp T.d_number_at.b.choose_spec.2 T.d_number_at.b.choose_spec.1 (passes_call (takes_of rfl rfl rfl rfl) fun _ _ _ _ h => h) (pa_cons (pv 0) (pa_cons (pv 1) pa_nil))) (pg_tup rfl (pgs_cons (pg_name (i := 2) sc_piece_at.nd rfl (Or.inl rfl)) (pgs_cons (pg_name (i := 3) sc_piece_at.nd rfl (Or.inl rfl)) pgs_nil)))) (pss_cons 
      (ps_set (i := 4) sc_piece_at.nd rfl (Or.inl rfl) (pe_op op_fdiv (pv 2) pe_int)) (pss_cons 
      (ps_if (pt_cmpR op_eq (pv 4) pe_int (nomark _)) (pss_one (N_BadCode.ps_raiseOwn rfl O_BadCode hr (takes_of rfl rfl rfl rfl) (pa_cons (pv 1) pa_nil))) pss_nil) (pss_cons 
      (ps_set (i := 5) sc_piece_at.nd rfl (Or.inl rfl) (pe_ix ix_tup (pe_glob (v := .ref T.a_WORDS) rfl T.c_WORDS rfl) (pe_op op_andM (pv 2) pe_int) (fun _ _ => rfl))) (pss_cons 
      (ps_if (pt_cmpR op_eq (pv 5) pe_str (nomark _)) (pss_cons 
      (ps_asg (pe_call G_number_at (hr.mono (by decide)) rfl T.d_number_at.m T.d_number_at.F.kp T.d_number_at.b.choose_spec.2 T.d_number_at.b.choose_spec.1 (passes_call (takes_of rfl rfl rfl rfl) fun _ _ _ _ h => h) (pa_cons (pv 0) (pa_cons (pv 3) pa_nil))) (pg_tup rfl (pgs_cons (pg_name (i := 6) sc_piece_at.nd rfl (Or.inl rfl)) (pgs_cons (pg_name (i := 3) sc_piece_at.nd rfl (Or.inl rfl)) pgs_nil)))) (pss_one 
      (ps_ret (pe_tup (pa_cons (pe_tup (pa_cons pe_str (pa_cons (pv 6) (pa_cons (pv 4) pa_nil)))) (pa_cons (pv 3) pa_nil)))))) pss_nil) (pss_cons 
      (ps_if (pt_cmpR op_eq (pv 5) pe_str (nomark _)) (pss_one 
      (ps_ret (pe_tup (pa_cons (pe_tup (pa_cons pe_str (pa_cons (pe_call G_byte_at (hr.mono (by decide)) rfl T.d_byte_at.m T.d_byte_at.F.kp T.d_byte_at.b .nil (passes_call (takes_of rfl rfl rfl rfl) fun _ _ _ _ h => h) (pa_cons (pv 0) (pa_cons (pv 3) pa_nil))) (pa_cons (pv 4) pa_nil)))) (pa_cons (pe_op op_add (pv 3) pe_int) pa_nil))))) pss_nil) (pss_cons 
      (ps_asg (pe_call G_bytes_at (hr.mono (by decide)) rfl T.d_bytes_at.m T.d_bytes_at.F.kp T.d_bytes_at.b .nil (passes_call (takes_of rfl rfl rfl rfl) fun _ _ _ _ h => h) (pa_cons (pv 0) (pa_cons (pv 3) (pa_cons (pv 4) pa_nil)))) (pg_tup rfl (pgs_cons (pg_name (i := 7) sc_piece_at.nd rfl (Or.inl rfl)) (pgs_cons (pg_name (i := 3) sc_piece_at.nd rfl (Or.inl rfl)) pgs_nil)))) (pss_one 
      (ps_ret (pe_tup (pa_cons (pe_tup (pa_cons pe_str (pa_cons (pv 7) pa_nil))) (pa_cons (pv 3) pa_nil))))))))))))), ?_⟩
    unfold pieceAt at kS kL
    refine ⟨_, rfl, _, rfl, bs, z, rfl, hb, hl, h0, fun f e1 => ?_, fun e1 => ?_⟩
    · have l1 := get_lt h0 e1
      rw [e1] at kS kL
      dsimp only at kS kL
      refine ⟨f, 2, rfl, rfl, rfl, _, rfl, ite2 (fun h => ?_) fun h => ?_⟩
      · have h : f % 2 ^ 2 = 3 := V.int.inj (of_decide_eq_true h)
        rw [if_pos h] at kL
        exact ⟨_, rfl, _, rfl, by omega, by omega, fun d hd => (kL _ rfl).now d hd⟩
      · have h : ¬ f % 2 ^ 2 = 3 := fun z => h (decide_eq_true (congrArg V.int z))
        rw [if_neg h] at kS kL
        refine ⟨_, rfl, _, rfl, bs, z, rfl, hb, hl, h0, h2k, fun n j e2 p hp => ?_, fun e e2 => ?_⟩
        · rw [e2] at kS kL
          dsimp only at kS kL
          have k1 := numAt_ok hb h0 e2
          have s1 := Same.new (o := .tup [.int n, .int j]) hp
          refine ⟨p, _, rfl, SqT.of upd_same, rfl, _, _, rfl, _, _, rfl, rfl, ?_⟩
          refine ⟨_, rfl, _, _, rfl, rfl, ⟨by decide, by decide⟩, ?_⟩
          refine ⟨_, rfl, rfl, _, rfl, ite2 (fun h2 => ?_) fun h2 => ?_⟩
          · have h2 : n / 4 = 0 := V.int.inj (of_decide_eq_true h2)
            rw [if_pos h2] at kL
            exact ⟨_, rfl, _, rfl, by omega, by omega, fun d hd => ((kL _ rfl).same s1).now d hd⟩
          · have h2 : ¬ n / 4 = 0 := fun z => h2 (decide_eq_true (congrArg V.int z))
            rw [if_neg h2] at kS kL
            have hm : n % 2 ^ 2 = 0 ∨ n % 2 ^ 2 = 1 ∨ n % 2 ^ 2 = 2 ∨ n % 2 ^ 2 = 3 := by
              have : (2 : Int) ^ 2 = 4 := by decide
              omega
            have i0 : ∀ i : Int, ∀ x : V, [V.str "copy", V.str "bring", V.str "run"][i.toNat]? = some x → 0 ≤ i → i < 3 → atI [V.str "copy", V.str "bring", V.str "run"] i = some x := fun i x hx a b => by
              have : i = 0 ∨ i = 1 ∨ i = 2 := by omega
              rcases this with rfl | rfl | rfl <;> exact hx
            rcases hm with hm | hm | hm | hm
            · -- copy
              rw [if_pos hm] at kS kL
              refine ⟨_, rfl, n, 2, rfl, rfl, _, _, _, _, rfl, rfl, T.v_WORDS _, (by rw [hm]; rfl), ?_⟩
              refine ⟨_, rfl, rfl, _, rfl, ite2 (fun _ => ?_) fun h => absurd (by decide) h⟩
              refine ⟨_, rfl, _, rfl, bs, j, rfl, hb, hl, by omega, by omega, fun b k e3 p2 hp2 => ?_, fun e e3 => ?_⟩
              · rw [e3] at kS
                refine ⟨p2, _, rfl, SqT.of upd_same, rfl, _, _, rfl, _, _, rfl, rfl, ?_⟩
                refine ⟨_, rfl, _, rfl, sizeS (by show 3 ≤ 100000; decide), fun t ht => ⟨_, rfl, sizeS (by show 2 ≤ 100000; decide), fun y hy => ?_⟩⟩
                have s3 := (s1.trans (Same.new (o := .tup [.int b, .int k]) hp2)).trans (Same.new (o := .tup [.str "copy", .int b, .int (n / 4)]) ht)
                exact kS _ _ rfl _ t y (s3.trans (Same.new hy)) (Same.new hy _ _ upd_same) (s3.free hy) upd_same
              · rw [e3] at kL
                exact (kL _ rfl).same s1
            · -- bring
              have n0 : ¬ n % 2 ^ 2 = 0 := by omega
              have n2 : ¬ n % 2 ^ 2 = 2 := by omega
              rw [if_neg n0, if_neg n2] at kS kL
              refine ⟨_, rfl, n, 2, rfl, rfl, _, _, _, _, rfl, rfl, T.v_WORDS _, (by rw [hm]; rfl), ?_⟩
              refine ⟨_, rfl, rfl, _, rfl, ite2 (fun h => absurd h (by decide)) fun _ => ?_⟩
              refine ⟨_, rfl, rfl, _, rfl, ite2 (fun h => absurd h (by decide)) fun _ => ?_⟩
              refine ⟨_, rfl, _, rfl, _, rfl, bs, j, n / 4, rfl, hb, hl, by omega, by omega, fun h3 p2 hp2 => ?_, fun h3 => ?_⟩
              · rw [if_neg (by omega)] at kS
                refine ⟨p2, _, rfl, SqT.of upd_same, rfl, _, _, rfl, _, _, rfl, rfl, ?_⟩
                refine ⟨_, rfl, sizeS (by show 2 ≤ 100000; decide), fun t ht => ⟨_, rfl, sizeS (by show 2 ≤ 100000; decide), fun y hy => ?_⟩⟩
                have s3 := (s1.trans (Same.new (o := .tup [.byt (byteArr ((bs.drop j.toNat).take (n / 4).toNat)), .int (j + n / 4)]) hp2)).trans (Same.new (o := .tup [.str "bring", .byt (byteArr ((bs.drop j.toNat).take (n / 4).toNat))]) ht)
                exact kS _ _ rfl _ t y (s3.trans (Same.new hy)) (Same.new hy _ _ upd_same) (s3.free hy) upd_same
              · rw [if_pos h3] at kL
                exact (kL _ rfl).same s1
            · -- run
              have n0 : ¬ n % 2 ^ 2 = 0 := by omega
              rw [if_neg n0, if_pos hm] at kS kL
              refine ⟨_, rfl, n, 2, rfl, rfl, _, _, _, _, rfl, rfl, T.v_WORDS _, (by rw [hm]; rfl), ?_⟩
              refine ⟨_, rfl, rfl, _, rfl, ite2 (fun h => absurd h (by decide)) fun _ => ?_⟩
              refine ⟨_, rfl, rfl, _, rfl, ite2 (fun _ => ?_) fun h => absurd (by decide) h⟩
              refine ⟨_, rfl, _, rfl, bs, j, rfl, hb, hl, by omega, fun b e3 => ?_, fun e3 => ?_⟩
              · rw [e3] at kS
                refine ⟨_, rfl, sizeS (by show 3 ≤ 100000; decide), fun t ht => ⟨_, rfl, _, _, rfl, rfl, sizeS (by show 2 ≤ 100000; decide), fun y hy => ?_⟩⟩
                have s3 := s1.trans (Same.new (o := .tup [.str "run", .int b, .int (n / 4)]) ht)
                exact kS _ _ rfl _ t y (s3.trans (Same.new hy)) (Same.new hy _ _ upd_same) (s3.free hy) upd_same
              · rw [e3] at kL
                exact (kL _ rfl).same s1
            · -- never: the first byte would have told it
              exfalso
              unfold numAt at e2
              rw [e1] at e2
              dsimp only at e2
              have : (2 : Int) ^ 2 = 4 := by decide
              by_cases c : f < 128
              · rw [if_pos c] at e2
                cases e2
                exact h hm
              · rw [if_neg c] at e2
                cases e3 : bs[(z + 1).toNat]? with
                | none => rw [e3] at e2; cases e2
                | some t =>
                  rw [e3] at e2
                  dsimp only at e2
                  by_cases c2 : t = 0
                  · rw [if_pos c2] at e2; cases e2
                  · rw [if_neg c2] at e2
                    by_cases c3 : 128 ≤ t
                    · rw [if_pos c3] at e2; cases e2
                    · rw [if_neg c3] at e2
                      cases e2
                      omega
        · rw [e2] at kL
          exact kL _ rfl
    · rw [e1] at kL
      exact kL _ rfl
theorem okx_several_at (T : All K mg) (O_BadCode : N_BadCode.OwnErr P K mg C fI) : FnOk P w K mg base (L2.CX P w) 5 T.d_several_at.f T.d_several_at.fd ["one_at", "some", "place", "many"] (spSeveralX C T.d_piece_at.f) := by
  have G_piece_at : FnOk P w K mg base (L2.CX P w) 4 T.d_piece_at.f T.d_piece_at.fd ["some", "place"] (spPieceAtX C) := okx_piece_at T O_BadCode
  refine T.d_several_at.F.okX sc_several_at (fun vs H Q E h => ?_) (fun cdv A outer s H vs Q E hr h => ?_)
  · obtain ⟨bs, z, n, rfl, _⟩ := h
    rfl
  · obtain ⟨bs, p0, n, rfl, hb, hl, h0, h1, n0, n1, kS, kL⟩ := h
    refine ⟨_, (pss_cons 
      (ps_set (i := 4) sc_several_at.nd rfl (Or.inl rfl) (pe_lst pa_nil)) (pss_cons 
      (ps_for (passes_of rfl) rfl (pi_range1 (by rfl) T.b_range (pa_cons (pv 3) pa_nil)) (pg_name (i := 5) sc_several_at.nd rfl (Or.inl rfl)) (pss_cons 
      (ps_asg (pe_callL (i := 0) G_piece_at (hr.mono (by decide)) rfl (Or.inl rfl) T.d_piece_at.F.kp T.d_piece_at.b .nil (passes_call (takes_of rfl rfl rfl rfl) fun _ _ _ _ h => h) (pa_cons (pv 1) (pa_cons (pv 2) pa_nil))) (pg_tup rfl (pgs_cons (pg_name (i := 6) sc_several_at.nd rfl (Or.inl rfl)) (pgs_cons (pg_name (i := 2) sc_several_at.nd rfl (Or.inl rfl)) pgs_nil)))) (pss_one 
      (ps_expr (pe_bm PySem.F.plainAttrs_list PySem.F.slot_list_append PySem.F.type_list_append mt_append (pv 4) (pa_cons (pv 6) pa_nil)))))) (pss_one 
      (ps_ret (pe_tup (pa_cons (pv 4) (pa_cons (pv 2) pa_nil))))))), ?_⟩
    refine ⟨sizeS (by show 0 ≤ 100000; decide), fun D hD => ?_⟩
    refine ⟨_, rfl, n, rfl, by omega, by omega, for_range (lo := 0) (n := n.toNat) (fun i σ H2 => ∃ (rs : List Row) (ws : List V) (z : Int) (v6 v7 : Option V), σ = [some (.ref T.d_piece_at.f), some (.byt (byteArr bs)), some (.int z), some (.int n), some (.ref D), v6, v7] ∧ Same H H2 ∧ H2 D = some (.lst ws) ∧ Paired (PieceV H2) ws rs ∧ piecesAt bs i p0 = .ok (rs, z))
      ⟨[], [], p0, none, none, rfl, Same.new hD, upd_same, .nil, rfl⟩ ?_ ?_⟩
    · rintro i σ H2 hi ⟨rs, ws, z, v6, v7, rfl, s3, hw, pw, ez⟩
      have kz := piecesAt_ok hb (by omega) (by omega) ez
      have wl : ws.length = i := by rw [Paired.length pw, kz.2.2.2]
      refine ⟨rfl, _, rfl, _, rfl, bs, z, rfl, hb, hl, by omega, by omega, fun r q e2 H3 t y s4 ht hy hy3 => ?_, fun e e2 => ?_⟩
      · refine ⟨y, _, rfl, SqT.of hy3, rfl, _, _, rfl, _, _, rfl, rfl, ?_⟩
        have hw3 := s4 _ _ hw
        refine ⟨_, rfl, .inl ⟨rfl, _, SqL.of hw3⟩, _, rfl, D, ws, _, rfl, rfl, hw3, sizeL (by omega), ?_⟩
        refine ⟨rs ++ [r], _, q, _, _, rfl, fun c o hc => ?_, upd_same, pairedApp (pairedMap pw fun _ _ x => (x.tups (Same.tups s4)).tups (Tups.lst hw3)) (.cons ⟨t, rfl, Tups.lst hw3 _ _ ht⟩ .nil), ?_⟩
        · rw [upd_ne (ne_of_none hc hD)]
          exact s4 _ _ (s3 _ _ hc)
        · show piecesAt bs (i + 1) p0 = _
          unfold piecesAt
          rw [ez]
          dsimp only
          rw [e2]
      · have e3 : piecesAt bs (i + 1) p0 = .error e := by
          unfold piecesAt
          rw [ez]
          dsimp only
          rw [e2]
        exact (kL _ (piecesAt_err (show i + 1 ≤ n.toNat by omega) e3)).same s3
    · rintro σ H2 ⟨rs, ws, z, v6, v7, rfl, s3, hw, pw, ez⟩
      exact ⟨_, rfl, _, rfl, sizeS (by show 2 ≤ 100000; decide), fun y hy => kS rs z ez _ D ws y (s3.trans (Same.new hy)) (Same.new hy _ _ hw) (pairedMap pw fun _ _ x => x.tups (Same.tups (Same.new hy))) upd_same⟩
theorem okx_check_at (T : All K mg) (O_BadCode : N_BadCode.OwnErr P K mg C fI) : FnOk P w K mg base (L2.CX P w) 3 T.d_check_at.f T.d_check_at.fd ["some", "begin", "place"] (spCheckAtX C) := by
  have G_byte_at : FnOk P w K mg base (L2.CX P w) 2 T.d_byte_at.f T.d_byte_at.fd ["some", "place"] (spByteAtX C) := okx_byte_at T O_BadCode
  have G_check_of : FnOk P w K mg base CX0 1 T.d_check_of.f T.d_check_of.fd ["some"] spCheckOf := ok_check_of T
  refine T.d_check_at.F.okX sc_check_at (fun vs H Q E h => ?_) (fun cdv A outer s H vs Q E hr h => ?_)
  · obtain ⟨bs, b, q, rfl, _⟩ := h
    rfl
  · obtain ⟨bs, b, z, rfl, hb, hl, h0, hbz, hz, kS, kB, kL⟩ := h
    refine ⟨_, (pss_cons 
      (ps_if (pt_cmpR op_ne (pe_call G_byte_at (hr.mono (by decide)) rfl T.d_byte_at.m T.d_byte_at.F.kp T.d_byte_at.b .nil (passes_call (takes_of rfl rfl rfl rfl) fun _ _ _ _ h => h) (pa_cons (pv 0) (pa_cons (pv 2) pa_nil))) (pe_call G_check_of (hr.mono (by decide)) rfl T.d_check_of.m T.d_check_of.F.kp T.d_check_of.b .nil pass0 (pa_cons (pe_slice sl_byt (pv 0) (po_some (pv 1)) (po_some (pv 2))) pa_nil)) (nomark _)) (pss_one (N_BadCode.ps_raiseOwn rfl O_BadCode hr (takes_of rfl rfl rfl rfl) (pa_cons (pv 2) pa_nil))) pss_nil) (pss_one 
      (ps_ret (pe_op op_add (pv 2) pe_int)))), ?_⟩
    refine ⟨_, rfl, _, rfl, bs, z, rfl, hb, hl, by omega, fun c e2 => ?_, fun e2 => ?_⟩
    · have lz := get_lt (by omega) e2
      refine ⟨_, rfl, _, rfl, _, rfl, _, rfl, _, rfl, _, rfl, by rw [byteArr_size]; omega, ?_⟩
      rw [picked_mid h0 (by omega) (by omega)]
      refine ⟨_, rfl, mid_b8 hb _ _, rfl, _, rfl, ite2 (fun h => ?_) fun h => ?_⟩
      · have h : ¬ c = ((bs.drop b.toNat).take (z.toNat - b.toNat)).sum % 251 := fun y => by
          rw [← y] at h
          exact absurd h (by simp)
        exact ⟨_, rfl, _, rfl, by omega, by omega, fun d hd => (kB c e2 h).now d hd⟩
      · have h : c = ((bs.drop b.toNat).take (z.toNat - b.toNat)).sum % 251 := by
          by_cases y : c = ((bs.drop b.toNat).take (z.toNat - b.toNat)).sum % 251
          · exact y
          · refine absurd ?_ h
            have : V.int c ≠ V.int (((bs.drop b.toNat).take (z.toNat - b.toNat)).sum % 251) := fun q => y (V.int.inj q)
            simp [this]
        exact ⟨_, rfl, _, _, rfl, rfl, kS c e2 h⟩
    · exact kL e2
theorem okx_code_at (T : All K mg) (O_BadCode : N_BadCode.OwnErr P K mg C fI) : FnOk P w K mg base (L2.CX P w) 6 T.d_code_at.f T.d_code_at.fd ["some", "begin"] (spCodeAtX C) := by
  have G_number_at : FnOk P w K mg base (L2.CX P w) 3 T.d_number_at.f T.d_number_at.fd ["some", "begin", "most"] (spNumAtX C) := okx_number_at T O_BadCode
  have G_several_at : FnOk P w K mg base (L2.CX P w) 5 T.d_several_at.f T.d_several_at.fd ["one_at", "some", "place", "many"] (spSeveralX C T.d_piece_at.f) := okx_several_at T O_BadCode
  have G_check_at : FnOk P w K mg base (L2.CX P w) 3 T.d_check_at.f T.d_check_at.fd ["some", "begin", "place"] (spCheckAtX C) := okx_check_at T O_BadCode
  refine T.d_code_at.F.okX sc_code_at (fun vs H Q E h => ?_) (fun cdv A outer s H vs Q E hr h => ?_)
  · obtain ⟨bs, z, rfl, _⟩ := h
    rfl
  · obtain ⟨bs, b, rfl, hb, hl, h0, h2k, kS, kL⟩ := h
    refine ⟨_, (pss_cons 
      (ps_asg (pe_call G_number_at (hr.mono (by decide)) rfl T.d_number_at.m T.d_number_at.F.kp T.d_number_at.b.choose_spec.2 T.d_number_at.b.choose_spec.1 (passes_call (takes_of rfl rfl rfl rfl) fun _ _ _ _ h => h) (pa_cons (pv 0) (pa_cons (pv 1) pa_nil))) (pg_tup rfl (pgs_cons (pg_name (i := 2) sc_code_at.nd rfl (Or.inl rfl)) (pgs_cons (pg_name (i := 3) sc_code_at.nd rfl (Or.inl rfl)) pgs_nil)))) (pss_cons 
      (ps_asg (pe_call G_several_at (hr.mono (by decide)) rfl T.d_several_at.m T.d_several_at.F.kp T.d_several_at.b .nil (passes_call (takes_of rfl rfl rfl rfl) fun _ _ _ _ h => h) (pa_cons (pe_glob (v := .ref T.d_piece_at.f) rfl T.d_piece_at.m rfl) (pa_cons (pv 0) (pa_cons (pv 3) (pa_cons (pv 2) pa_nil))))) (pg_tup rfl (pgs_cons (pg_name (i := 4) sc_code_at.nd rfl (Or.inl rfl)) (pgs_cons (pg_name (i := 3) sc_code_at.nd rfl (Or.inl rfl)) pgs_nil)))) (pss_one 
      (ps_ret (pe_tup (pa_cons (pe_callTy call_tuple_of (by rfl) T.b_tuple (by decide +kernel) (pa_cons (pv 4) pa_nil)) (pa_cons (pe_call G_check_at (hr.mono (by decide)) rfl T.d_check_at.m T.d_check_at.F.kp T.d_check_at.b .nil (passes_call (takes_of rfl rfl rfl rfl) fun _ _ _ _ h => h) (pa_cons (pv 0) (pa_cons (pv 1) (pa_cons (pv 3) pa_nil)))) pa_nil))))))), ?_⟩
    unfold codeAt at kS kL
    refine ⟨_, rfl, _, rfl, bs, b, rfl, hb, hl, h0, h2k, fun n p0 e1 p hp => ?_, fun e e1 => ?_⟩
    · rw [e1] at kS kL
      dsimp only at kS kL
      have k1 := numAt_ok hb h0 e1
      have s1 := Same.new (o := .tup [.int n, .int p0]) hp
      refine ⟨p, _, rfl, SqT.of upd_same, rfl, _, _, rfl, _, _, rfl, rfl, ?_⟩
      refine ⟨_, rfl, _, rfl, _, rfl, bs, p0, n, rfl, hb, hl, by omega, by omega, by omega, by omega, fun rs q e2 H2 D ws y s2 hD pw hy => ?_, fun e e2 => ?_⟩
      · refine ⟨y, _, rfl, SqT.of hy, rfl, _, _, rfl, _, _, rfl, rfl, ?_⟩
        have k2 := piecesAt_ok hb (by omega) (by omega) e2
        rw [e2] at kS kL
        dsimp only at kS kL
        refine ⟨_, rfl, D, ws, rfl, .inl ⟨SqL.of hD, fun u hu => ?_⟩⟩
        have s3 := (s1.trans s2).trans (Same.new (o := .tup ws) hu)
        refine ⟨_, rfl, _, rfl, _, rfl, bs, b, q, rfl, hb, hl, h0, by omega, by omega, fun c e3 h => ?_, fun c e3 h => ?_, fun e3 => ?_⟩
        · rw [e3] at kS
          dsimp only at kS
          rw [if_pos h] at kS
          refine ⟨sizeS (by show 2 ≤ 100000; decide), fun y hy => ?_⟩
          have s4 := (Same.new (o := .tup ws) hu).trans (Same.new (o := .tup [.ref u, .int (q + 1)]) hy)
          exact kS _ _ rfl _ (.ref u) y (s3.trans (Same.new hy)) ⟨u, ws, rfl, Same.new hy _ _ upd_same, pairedMap pw fun _ _ x => x.tups (Same.tups s4)⟩ upd_same
        · rw [e3] at kL
          dsimp only at kL
          rw [if_neg h] at kL
          exact (kL _ rfl).same s3
        · rw [e3] at kL
          exact (kL _ rfl).same s3
      · rw [e2] at kL
        exact (kL _ rfl).same s1
    · rw [e1] at kL
      exact kL _ rfl
end
/-! ### patches that may be bad: check_patch, needs, decoded -/
def Row.fine (r : Row) : Prop := r.ok 40000 ∧ r.len ≤ 20000
def Row.can (r : Row) : Prop := r.ok 200 ∧ r.len ≤ 200
def badAt (rows : List Row) (i : Nat) : Prop := i < rows.length ∧ Good (rows.take i) ∧ ¬ Good (rows.take (i + 1))
theorem Good.nil : Good [] := ⟨fun r hr => (List.not_mem_nil hr).elim, by show (0 : Int) ≤ 200; decide⟩
theorem good_snoc {rows : List Row} {i : Nat} {r : Row} (hr : rows[i]? = some r) (h : Good (rows.take i)) : Good (rows.take (i + 1)) ↔ r.can ∧ total (rows.take i) + r.len ≤ 200 := by
  have e := total_take hr
  have nn := total_nn h.1
  constructor
  · intro g
    have g1 : r.ok 200 := g.1 r (by rw [take_snoc hr]; exact List.mem_append_right _ (List.mem_singleton.mpr rfl))
    have g2 := g.2
    rw [e] at g2
    exact ⟨⟨g1, by omega⟩, g2⟩
  · rintro ⟨⟨g1, _⟩, g2⟩
    refine ⟨fun x hx => ?_, by rw [e]; exact g2⟩
    rw [take_snoc hr] at hx
    rcases List.mem_append.mp hx with hx | hx
    · exact h.1 x hx
    · rw [List.mem_singleton.mp hx]; exact g1
theorem good_or_bad (rows : List Row) : Good rows ∨ ∃ i, badAt rows i := by
  have key : ∀ n, n ≤ rows.length → Good (rows.take n) ∨ ∃ i, badAt rows i := by
    intro n
    induction n with
    | zero => intro _; exact .inl (by rw [List.take_zero]; exact Good.nil)
    | succ n ih =>
      intro h
      rcases ih (by omega) with g | b
      · by_cases c : Good (rows.take (n + 1))
        · exact .inl c
        · exact .inr ⟨n, by omega, g, c⟩
      · exact .inr b
  rcases key rows.length (Nat.le_refl _) with g | b
  · rw [List.take_length] at g; exact .inl g
  · exact .inr b
theorem badAt.not {rows : List Row} {i : Nat} (h : badAt rows i) : ¬ Good rows := fun g => h.2.2 (g.take _)
theorem badAt.one {rows : List Row} {i j : Nat} (h : badAt rows i) (g : badAt rows j) : i = j := by
  have key : ∀ {i j : Nat}, badAt rows i → badAt rows j → ¬ i < j := fun {i j} h g c => h.2.2 (by
    have := g.2.1.take (i + 1)
    rw [List.take_take, Nat.min_eq_left (by omega)] at this
    exact this)
  have := key h g
  have := key g h
  omega
theorem pieceAt_fine {bs : List Int} {z q : Int} {r : Row} (hb : B8 bs) (h0 : 0 ≤ z) (h : pieceAt bs z = .ok (r, q)) : r.fine := by
  unfold pieceAt at h
  cases e : bs[z.toNat]? with
  | none => rw [e] at h; cases h
  | some f =>
    rw [e] at h
    dsimp only at h
    by_cases c : f % 2 ^ 2 = 3
    · rw [if_pos c] at h; cases h
    · rw [if_neg c] at h
      cases e2 : numAt bs z with
      | error x => rw [e2] at h; cases h
      | ok nj =>
        obtain ⟨n, j⟩ := nj
        rw [e2] at h
        have k := numAt_ok hb h0 e2
        dsimp only at h
        by_cases c2 : n / 4 = 0
        · rw [if_pos c2] at h; cases h
        · rw [if_neg c2] at h
          by_cases c3 : n % 2 ^ 2 = 0
          · rw [if_pos c3] at h
            cases e3 : numAt bs j with
            | error x => rw [e3] at h; cases h
            | ok bk =>
              obtain ⟨b, kk⟩ := bk
              rw [e3] at h
              cases h
              have k2 := numAt_ok hb (by omega) e3
              exact ⟨⟨by omega, by omega, by omega⟩, by show n / 4 ≤ 20000; omega⟩
          · rw [if_neg c3] at h
            by_cases c4 : n % 2 ^ 2 = 2
            · rw [if_pos c4] at h
              cases e3 : bs[j.toNat]? with
              | none => rw [e3] at h; cases h
              | some x =>
                rw [e3] at h
                have bx := hb x (List.mem_of_getElem? e3)
                cases h
                exact ⟨⟨bx.1, bx.2, by omega⟩, by show n / 4 ≤ 20000; omega⟩
            · rw [if_neg c4] at h
              by_cases c5 : (bs.length : Int) < j + n / 4
              · rw [if_pos c5] at h; cases h
              · rw [if_neg c5] at h
                cases h
                have hl : ((bs.drop j.toNat).take (n / 4).toNat).length = (n / 4).toNat := by rw [List.length_take, List.length_drop]; omega
                exact ⟨⟨by omega, mid_b8 hb _ _⟩, by show (((bs.drop j.toNat).take (n / 4).toNat).length : Int) ≤ 20000; omega⟩
theorem piecesAt_fine {bs : List Int} (hb : B8 bs) : ∀ {k : Nat} {z q : Int} {rs : List Row}, 0 ≤ z → z ≤ bs.length → piecesAt bs k z = .ok (rs, q) → ∀ r ∈ rs, r.fine
  | 0, z, q, rs, h0, h1, h => by
    cases h
    intro r hr
    exact (List.not_mem_nil hr).elim
  | k + 1, z, q, rs, h0, h1, h => by
    unfold piecesAt at h
    cases e : piecesAt bs k z with
    | error x => rw [e] at h; cases h
    | ok a =>
      obtain ⟨rs', q'⟩ := a
      rw [e] at h
      have i1 := piecesAt_ok hb h0 h1 e
      dsimp only at h
      cases e2 : pieceAt bs q' with
      | error x => rw [e2] at h; cases h
      | ok a =>
        obtain ⟨r, y⟩ := a
        rw [e2] at h
        cases h
        intro x hx
        rcases List.mem_append.mp hx with hx | hx
        · exact piecesAt_fine hb h0 h1 e x hx
        · rw [List.mem_singleton.mp hx]; exact pieceAt_fine hb (by omega) e2
theorem codeAt_fine {bs : List Int} {b q : Int} {rs : List Row} (hb : B8 bs) (h0 : 0 ≤ b) (h : codeAt bs b = .ok (rs, q)) : (∀ r ∈ rs, r.fine) ∧ (rs.length : Int) ≤ bs.length := by
  unfold codeAt at h
  cases e : numAt bs b with
  | error x => rw [e] at h; cases h
  | ok a =>
    obtain ⟨n, p⟩ := a
    rw [e] at h
    have k := numAt_ok hb h0 e
    dsimp only at h
    cases e2 : piecesAt bs n.toNat p with
    | error x => rw [e2] at h; cases h
    | ok a =>
      obtain ⟨rs', q'⟩ := a
      rw [e2] at h
      have k2 := piecesAt_ok hb (by omega) (by omega) e2
      have k3 := piecesAt_fine hb (by omega) (by omega) e2
      dsimp only at h
      cases e3 : bs[q'.toNat]? with
      | none => rw [e3] at h; cases h
      | some c =>
        rw [e3] at h
        dsimp only at h
        split at h
        · cases h
          exact ⟨k3, by omega⟩
        · cases h
def spCanBeF : Sp := fun vs H Q _ => ∃ (p : Addr) (r : Row), vs = [.ref p] ∧ H p = some (.tup r.tup) ∧ r.fine ∧ (r.can → Q (.bl true) H) ∧ (¬ r.can → Q (.bl false) H)
def spCheckX (CP : Addr) : Sp := fun vs H Q E => ∃ (v : V) (rows : List Row), vs = [v] ∧ PatchAt H v rows ∧ (∀ r ∈ rows, r.fine) ∧ rows.length ≤ 10000 ∧ (Good rows → ∀ H', Same H H' → Q .non H') ∧ (∀ i : Nat, badAt rows i → Rz E CP "piece" i H)
def spNeedsX (CP : Addr) : Sp := fun vs H Q E => ∃ (v : V) (rows : List Row), vs = [v] ∧ PatchAt H v rows ∧ (∀ r ∈ rows, r.fine) ∧ rows.length ≤ 10000 ∧ (Good rows → ∀ H', Same H H' → Q (.int (needsOf rows)) H') ∧ (∀ i : Nat, badAt rows i → Rz E CP "piece" i H)
def spDecodedY (C CP : Addr) : Sp := fun vs H Q E => ∃ bs : List Int, vs = [.byt (byteArr bs)] ∧ B8 bs ∧ bs.length ≤ 10000 ∧
  (∀ rs q, codeAt bs 0 = .ok (rs, q) → (bs.length : Int) ≤ q → (Good rs → ∀ H' v, Same H H' → PatchAt H' v rs → Q v H') ∧ (∀ i : Nat, badAt rs i → Rz E CP "piece" i H)) ∧
  (∀ rs q, codeAt bs 0 = .ok (rs, q) → q < bs.length → Rz E C "place" q H) ∧ (∀ e, codeAt bs 0 = .error e → Rz E C "place" e H)
section
variable {P : Program} {w : World} {K : PySem.W.Frag} {mg : Str → Option Value} {base : Heap} {C fI CP fP : Addr}
theorem okF_can_be (T : All K mg) : FnOk P w K mg base CX0 2 T.d_can_be.f T.d_can_be.fd ["piece"] spCanBeF := by
  have G_is_number : FnOk P w K mg base CX0 1 T.d_is_number.f T.d_is_number.fd ["what", "least", "most"] spIsNum := ok_is_number T
  refine T.d_can_be.F.ok sc_can_be (fun vs H Q E h => ?_) (fun cdv A outer s H vs Q E hr h => ?_)
  · obtain ⟨p, _, rfl, _⟩ := h
    rfl
  · obtain ⟨p, r, rfl, hp, ⟨hok, hlen⟩, kY, kN⟩ := h
    refine ⟨_, (pss_cons 
      (ps_if (pt_not (pt_val (pe_callB call_isi (by rfl) T.b_isinstance (by decide +kernel) (pa_cons (pv 0) (pa_cons (pe_bltn (v := .ty "tuple") (by rfl) T.b_tuple (by decide +kernel) rfl) pa_nil))))) (pss_one 
      (ps_ret pe_bl)) pss_nil) (pss_cons 
      (ps_if (pt_cmpR op_eq (pe_callB call_len (by rfl) T.b_len PySem.boot_len (pa_cons (pv 0) pa_nil)) pe_int (nomark _)) (pss_cons 
      (ps_asg (pv 0) (pg_tup rfl (pgs_cons (pg_name (i := 1) sc_can_be.nd rfl (Or.inl rfl)) (pgs_cons (pg_name (i := 2) sc_can_be.nd rfl (Or.inl rfl)) pgs_nil)))) (pss_one 
      (ps_ret (pe_and (pe_cmpR op_eq (pv 1) pe_str (nomark _)) (pe_and (pe_callB call_isi (by rfl) T.b_isinstance (by decide +kernel) (pa_cons (pv 2) (pa_cons (pe_bltn (v := .ty "bytes") (by rfl) T.b_bytes (by decide +kernel) rfl) pa_nil))) (pe_one (pe_chain op_le op_le pe_int (pe_callB call_len (by rfl) T.b_len PySem.boot_len (pa_cons (pv 2) pa_nil)) (pe_glob (v := .int 200) rfl T.c_MOST ⟨_, rfl⟩)))))))) pss_nil) (pss_cons 
      (ps_if (pt_cmpR op_ne (pe_callB call_len (by rfl) T.b_len PySem.boot_len (pa_cons (pv 0) pa_nil)) pe_int (nomark _)) (pss_one 
      (ps_ret pe_bl)) pss_nil) (pss_cons 
      (ps_asg (pv 0) (pg_tup rfl (pgs_cons (pg_name (i := 1) sc_can_be.nd rfl (Or.inl rfl)) (pgs_cons (pg_name (i := 3) sc_can_be.nd rfl (Or.inl rfl)) (pgs_cons (pg_name (i := 4) sc_can_be.nd rfl (Or.inl rfl)) pgs_nil))))) (pss_cons 
      (ps_if (pt_not (pt_val (pe_call G_is_number (hr.mono (by decide)) rfl T.d_is_number.m T.d_is_number.F.kp T.d_is_number.b .nil pass0 (pa_cons (pv 4) (pa_cons pe_int (pa_cons (pe_glob (v := .int 200) rfl T.c_MOST ⟨_, rfl⟩) pa_nil)))))) (pss_one 
      (ps_ret pe_bl)) pss_nil) (pss_cons 
      (ps_if (pt_cmpR op_eq (pv 1) pe_str (nomark _)) (pss_one 
      (ps_ret (pe_call G_is_number (hr.mono (by decide)) rfl T.d_is_number.m T.d_is_number.F.kp T.d_is_number.b .nil pass0 (pa_cons (pv 3) (pa_cons pe_int (pa_cons (pe_op op_sub (pe_glob (v := .int 200) rfl T.c_MOST ⟨_, rfl⟩) (pv 4)) pa_nil)))))) pss_nil) (pss_one 
      (ps_ret (pe_and (pe_cmpR op_eq (pv 1) pe_str (nomark _)) (pe_one (pe_call G_is_number (hr.mono (by decide)) rfl T.d_is_number.m T.d_is_number.F.kp T.d_is_number.b .nil pass0 (pa_cons (pv 3) (pa_cons pe_int (pa_cons (pe_glob (v := .int 255) rfl T.c_LAST_BYTE ⟨_, rfl⟩) pa_nil)))))))))))))), ?_⟩
    refine ⟨_, rfl, _, _, _, _, true, rfl, .ty _, .base (.tup hp), kit_ty (by decide +kernel), true, rfl, iteF ?_⟩
    cases r with
    | copy b n =>
      have h1 := hok.1
      have h2 := hok.2.1
      refine ⟨_, rfl, _, 3, rfl, .inr ⟨_, SqT.of hp, rfl⟩, rfl, _, rfl, ite2 (fun h => absurd h (by decide)) fun _ => ?_⟩
      refine ⟨_, rfl, _, 3, rfl, .inr ⟨_, SqT.of hp, rfl⟩, rfl, _, rfl, ite2 (fun h => absurd h (by decide)) fun _ => ?_⟩
      refine ⟨_, rfl, p, _, rfl, SqT.of hp, rfl, _, _, rfl, _, _, rfl, _, _, rfl, rfl, ?_⟩
      refine ⟨_, rfl, n, 1, 200, rfl, _, rfl, ?_⟩
      rw [decide_eq_true h2]
      by_cases h4 : n ≤ 200
      · rw [decide_eq_true h4]
        refine iteF ?_
        refine ⟨_, rfl, rfl, _, rfl, ite2 (fun _ => ?_) fun h => absurd (by decide) h⟩
        refine ⟨_, rfl, _, rfl, _, _, rfl, rfl, b, 0, 200 - n, rfl, ?_⟩
        rw [decide_eq_true h1]
        by_cases h3 : b ≤ 200 - n
        · rw [decide_eq_true h3]
          exact kY ⟨⟨h1, h2, by omega⟩, h4⟩
        · rw [decide_eq_false h3]
          exact kN fun c => h3 (by have := c.1.2.2; omega)
      · rw [decide_eq_false h4]
        refine iteT ?_
        exact kN fun c => h4 c.2
    | run b n =>
      have h1 := hok.1
      have h2 := hok.2.1
      have h3 := hok.2.2
      refine ⟨_, rfl, _, 3, rfl, .inr ⟨_, SqT.of hp, rfl⟩, rfl, _, rfl, ite2 (fun h => absurd h (by decide)) fun _ => ?_⟩
      refine ⟨_, rfl, _, 3, rfl, .inr ⟨_, SqT.of hp, rfl⟩, rfl, _, rfl, ite2 (fun h => absurd h (by decide)) fun _ => ?_⟩
      refine ⟨_, rfl, p, _, rfl, SqT.of hp, rfl, _, _, rfl, _, _, rfl, _, _, rfl, rfl, ?_⟩
      refine ⟨_, rfl, n, 1, 200, rfl, _, rfl, ?_⟩
      rw [decide_eq_true h3]
      by_cases h4 : n ≤ 200
      · rw [decide_eq_true h4]
        refine iteF ?_
        refine ⟨_, rfl, rfl, _, rfl, ite2 (fun h => absurd h (by decide)) fun _ => ?_⟩
        refine ⟨_, rfl, rfl, _, rfl, ite2 (fun _ => ?_) fun h => absurd (by decide) h⟩
        refine ⟨_, rfl, b, 0, 255, rfl, ?_⟩
        rw [decide_eq_true h1, decide_eq_true (show b ≤ 255 by omega)]
        exact kY ⟨⟨h1, h2, h3⟩, h4⟩
      · rw [decide_eq_false h4]
        refine iteT ?_
        exact kN fun c => h4 c.2
    | bring bs =>
      have h1 : 1 ≤ (bs.length : Int) := hok.1
      have hlen : (bs.length : Int) ≤ 20000 := hlen
      refine ⟨_, rfl, _, 2, rfl, .inr ⟨_, SqT.of hp, rfl⟩, rfl, _, rfl, ite2 (fun _ => ?_) fun h => absurd (by decide) h⟩
      refine ⟨_, rfl, p, _, rfl, SqT.of hp, rfl, _, _, rfl, _, _, rfl, rfl, ?_⟩
      refine ⟨_, rfl, rfl, _, rfl, ite2 (fun _ => ?_) fun h => absurd (by decide) h⟩
      refine ⟨_, rfl, _, _, _, _, true, rfl, .ty _, .byt _, kit_ty (by decide +kernel), true, rfl, iteT ?_⟩
      refine ⟨_, rfl, _, bs.length, rfl, ⟨by rw [byteArr_size]; exact sizeS (by omega), (byteArr_size bs).symm⟩, _, _, rfl, rfl, _, rfl, ?_⟩
      rw [decide_eq_true h1]
      refine iteT ⟨_, _, rfl, rfl, ?_⟩
      show Q (.bl (decide ((bs.length : Int) ≤ 200))) H
      by_cases h4 : (bs.length : Int) ≤ 200
      · rw [decide_eq_true h4]
        exact kY ⟨hok, h4⟩
      · rw [decide_eq_false h4]
        exact kN fun c => h4 c.2
theorem okx_check_patch (T : All K mg) (O_BadPatch : N_BadPatch.OwnErr P K mg CP fP) : FnOk P w K mg base (L2.CX P w) 3 T.d_check_patch.f T.d_check_patch.fd ["patch"] (spCheckX CP) := by
  have G_can_be : FnOk P w K mg base CX0 2 T.d_can_be.f T.d_can_be.fd ["piece"] spCanBeF := okF_can_be T
  have G_length_of : FnOk P w K mg base CX0 1 T.d_length_of.f T.d_length_of.fd ["piece"] spLengthOf := ok_length_of T
  refine T.d_check_patch.F.okX sc_check_patch (fun vs H Q E h => ?_) (fun cdv A outer s H vs Q E hr h => ?_)
  · obtain ⟨v, _, rfl, _⟩ := h
    rfl
  · obtain ⟨v, rows, rfl, ⟨p, vs, rfl, hv, hpr⟩, hfine, hlen, kS, kL⟩ := h
    have hvl : vs.length = rows.length := Paired.length hpr
    refine ⟨_, (pss_cons 
      (ps_set (i := 1) sc_check_patch.nd rfl (Or.inl rfl) pe_int) (pss_one 
      (ps_for (passes_of rfl) rfl (pi_enumT (by rfl) T.b_enumerate (pa_cons (pv 0) pa_nil)) (pg_tup rfl (pgs_cons (pg_name (i := 2) sc_check_patch.nd rfl (Or.inl rfl)) (pgs_cons (pg_name (i := 3) sc_check_patch.nd rfl (Or.inl rfl)) pgs_nil))) (pss_cons 
      (ps_if (pt_not (pt_val (pe_call G_can_be (hr.mono (by decide)) rfl T.d_can_be.m T.d_can_be.F.kp T.d_can_be.b .nil pass0 (pa_cons (pv 3) pa_nil)))) (pss_one (N_BadPatch.ps_raiseOwn rfl O_BadPatch hr (takes_of rfl rfl rfl rfl) (pa_cons (pv 2) pa_nil))) pss_nil) (pss_cons 
      (ps_aug (i := 1) sc_check_patch.nd rfl (Or.inl rfl) (pe_call G_length_of (hr.mono (by decide)) rfl T.d_length_of.m T.d_length_of.F.kp T.d_length_of.b .nil pass0 (pa_cons (pv 3) pa_nil)) ip_add) (pss_one 
      (ps_if (pt_cmpR op_gt (pv 1) (pe_glob (v := .int 200) rfl T.c_MOST ⟨_, rfl⟩) (nomark _)) (pss_one (N_BadPatch.ps_raiseOwn rfl O_BadPatch hr (takes_of rfl rfl rfl rfl) (pa_cons (pv 2) pa_nil))) pss_nil))))))), ?_⟩
    refine ⟨_, rfl, p, vs, rfl, SqT.of hv, for_it walk_enumT (fun i σ H2 => ∃ v2 v3 : Option V, σ = [some (.ref p), some (.int (total (rows.take i))), v2, v3] ∧ Same H H2 ∧ Good (rows.take i))
      ⟨none, none, rfl, Same.refl _, by rw [List.take_zero]; exact Good.nil⟩ (fun i σ H2 _ ⟨_, _, _, s2, _⟩ => SqT.of (s2 _ _ hv)) ?_ ?_⟩
    · rintro i x σ H2 H3 hi ⟨v2, v3, rfl, s2, hg⟩ ⟨t, x1, y1, rfl, ht, rfl, e1, e2⟩
      cases e1
      obtain ⟨r, hr1, q, rfl, hq⟩ := pairedAt hpr e2
      have il : i < rows.length := (List.getElem?_eq_some_iff.mp hr1).1
      have hf := hfine r (List.mem_of_getElem? hr1)
      have gs := good_snoc hr1 hg
      have s3 : Same H (upd H2 t (.tup [.int (i : Nat), .ref q])) := s2.trans (Same.new ht)
      have hq3 := s3 _ _ hq
      refine ⟨t, _, rfl, SqT.of upd_same, rfl, _, _, rfl, _, _, rfl, rfl, ?_⟩
      refine ⟨_, rfl, q, r, rfl, hq3, hf, fun hc => ⟨_, rfl, iteF ?_⟩, fun hc => ⟨_, rfl, iteT ?_⟩⟩
      · refine ⟨_, rfl, _, rfl, q, r, rfl, hq3, hc.1, hc.2, _, _, rfl, rfl, ?_⟩
        have ht1 := total_take hr1
        refine ⟨_, rfl, _, _, rfl, rfl, _, rfl, ite2 (fun h => ?_) fun h => ?_⟩
        · have h : (200 : Int) < total (rows.take i) + r.len := of_decide_eq_true h
          exact ⟨_, rfl, _, rfl, by omega, by omega, fun d hd => ((kL i ⟨il, hg, fun g => by have := (gs.mp g).2; omega⟩).same s3).now d hd⟩
        · have h : ¬ (200 : Int) < total (rows.take i) + r.len := fun z => h (decide_eq_true z)
          exact ⟨_, _, by rw [ht1]; rfl, s3, gs.mpr ⟨hc, by omega⟩⟩
      · exact ⟨_, rfl, _, rfl, by omega, by omega, fun d hd => ((kL i ⟨il, hg, fun g => hc (gs.mp g).1⟩).same s3).now d hd⟩
    · rintro σ H2 ⟨v2, v3, rfl, s2, hg⟩
      rw [hvl, List.take_length] at hg
      exact kS hg H2 s2
theorem okx_needs (T : All K mg) (O_BadPatch : N_BadPatch.OwnErr P K mg CP fP) : FnOk P w K mg base (L2.CX P w) 4 T.d_needs.f T.d_needs.fd ["patch"] (spNeedsX CP) := by
  have G_check_patch : FnOk P w K mg base (L2.CX P w) 3 T.d_check_patch.f T.d_check_patch.fd ["patch"] (spCheckX CP) := okx_check_patch T O_BadPatch
  refine T.d_needs.F.okX sc_needs (fun vs H Q E h => ?_) (fun cdv A outer s H vs Q E hr h => ?_)
  · obtain ⟨v, _, rfl, _⟩ := h
    rfl
  · obtain ⟨v, rows, rfl, hP, hfine, hfew, kS, kL⟩ := h
    refine ⟨_, (pss_cons 
      (ps_expr (pe_call G_check_patch (hr.mono (by decide)) rfl T.d_check_patch.m T.d_check_patch.F.kp T.d_check_patch.b .nil (passes_call (takes_of rfl rfl rfl rfl) fun _ _ _ _ h => h) (pa_cons (pv 0) pa_nil))) (pss_one 
      (ps_ret (pe_callBK (cr_maxDf rfl) (by rfl) T.b_max (by decide +kernel) (pa_cons (pe_lc (own := [("piece", 1)]) (g := gName 1) rfl sc_needs.nd (pi_tup (pv 0)) (blkOk_by (own := [("piece", 1)]) (N := ["patch", "piece"]) (sc := defScope s_needs) (by decide +kernel)) (fun _ _ _ _ _ => (pg_name (i := 1) sc_needs.nd rfl (Or.inl rfl))) (fun _ _ _ _ _ => (pts_one (pt_cmpR op_eq (pe_ix (ixtK (K := K) rfl) (pv 1) pe_int (fun _ _ => rfl)) pe_str (nomark _)))) (fun _ _ _ _ _ => (pe_op op_add (pe_ix (ixtK (K := K) rfl) (pv 1) pe_int (fun _ _ => rfl)) (pe_ix (ixtK (K := K) rfl) (pv 1) pe_int (fun _ _ => rfl))))) pa_nil) (pk_cons pe_int pk_nil))))), ?_⟩
    refine ⟨_, rfl, v, rows, rfl, hP, hfine, hfew, fun hG H1 s1 => ?_, fun i hi => kL i hi⟩
    have k := kS hG
    obtain ⟨hok, htot⟩ := hG
    obtain ⟨p, vs, rfl, hv, hpr⟩ := hP
    have hlen := len_le_total hok
    refine ⟨_, rfl, p, rfl, ⟨vs, SqT.of (s1 _ _ hv)⟩, fun D hD => lc_tup (K := K) (a := p) (xs := vs) (fun i H2 => Same H1 H2 ∧ H2 D = some (.lst (List.map V.int (endsOf (rows.take i)))))
      ⟨Same.new hD, upd_same⟩ (fun i H2 _ ⟨s2, _⟩ => SqT.of (s2 _ _ (s1 _ _ hv))) ?_ ?_⟩
    · rintro i x H2 hi ⟨s2, hd⟩
      obtain ⟨r, hr1, q, rfl, hq⟩ := pairedAt hpr hi
      have il : i < rows.length := (List.getElem?_eq_some_iff.mp hr1).1
      have hq2 := s2 _ _ (s1 _ _ hq)
      refine ⟨rfl, ?_⟩
      have ll := ends_len (rows.take i)
      rw [List.length_take] at ll
      have e1 : endsOf (rows.take (i + 1)) = endsOf (rows.take i) ++ endsOf [r] := by rw [take_snoc hr1, ends_app]
      cases r with
      | copy b n =>
        refine ⟨_, rfl, q, _, _, _, rfl, rfl, SqT.of hq2, rfl, rfl, _, rfl, ite2 (fun _ => ?_) fun h => absurd (by decide) h⟩
        refine ⟨_, rfl, q, _, _, _, rfl, rfl, SqT.of hq2, rfl, _, rfl, q, _, _, _, rfl, rfl, SqT.of hq2, rfl, _, _, rfl, rfl, _, hd, sizeL (by rw [List.length_map]; omega), fun c o z => ?_, ?_⟩
        · rw [upd_ne (ne_of_none z hD)]; exact s2 _ _ z
        · rw [upd_same, e1, List.map_append]; rfl
      | run b n =>
        refine ⟨_, rfl, q, _, _, _, rfl, rfl, SqT.of hq2, rfl, rfl, _, rfl, ite2 (fun h => absurd h (by decide)) fun _ => ?_⟩
        exact ⟨s2, by rw [e1]; show H2 D = some (.lst (List.map V.int (endsOf (rows.take i) ++ []))); rw [List.append_nil]; exact hd⟩
      | bring bs =>
        refine ⟨_, rfl, q, _, _, _, rfl, rfl, SqT.of hq2, rfl, rfl, _, rfl, ite2 (fun h => absurd h (by decide)) fun _ => ?_⟩
        exact ⟨s2, by rw [e1]; show H2 D = some (.lst (List.map V.int (endsOf (rows.take i) ++ []))); rw [List.append_nil]; exact hd⟩
    · rintro H2 ⟨s2, hd⟩
      rw [Paired.length hpr, List.take_length] at hd
      have kk := k H2 (s1.trans s2)
      refine ⟨D, _, 0, rfl, rfl, SqL.of hd, fun e => ?_, fun m hm ht => ?_⟩
      · have : needsOf rows = 0 := by show top0 (endsOf rows) = 0; rw [e]; rfl
        rw [this] at kk; exact kk
      · have : needsOf rows = m := (top0_eq hm (ends_pos hok m hm) ht).symm
        rw [this] at kk; exact kk
theorem okxx_decoded (T : All K mg) (O_BadCode : N_BadCode.OwnErr P K mg C fI) (O_BadPatch : N_BadPatch.OwnErr P K mg CP fP) : FnOk P w K mg base (L2.CX P w) 7 T.d_decoded.f T.d_decoded.fd ["some"] (spDecodedY C CP) := by
  have G_code_at : FnOk P w K mg base (L2.CX P w) 6 T.d_code_at.f T.d_code_at.fd ["some", "begin"] (spCodeAtX C) := okx_code_at T O_BadCode
  have G_check_patch : FnOk P w K mg base (L2.CX P w) 3 T.d_check_patch.f T.d_check_patch.fd ["patch"] (spCheckX CP) := okx_check_patch T O_BadPatch
  refine T.d_decoded.F.okX sc_decoded (fun vs H Q E h => ?_) (fun cdv A outer s H vs Q E hr h => ?_)
  · obtain ⟨bs, rfl, _⟩ := h
    rfl
  · obtain ⟨bs, rfl, hb, hl, kS, kB, kL⟩ := h
    refine ⟨_, (pss_cons 
      (ps_asg (pe_call G_code_at (hr.mono (by decide)) rfl T.d_code_at.m T.d_code_at.F.kp T.d_code_at.b .nil (passes_call (takes_of rfl rfl rfl rfl) fun _ _ _ _ h => h) (pa_cons (pv 0) (pa_cons pe_int pa_nil))) (pg_tup rfl (pgs_cons (pg_name (i := 1) sc_decoded.nd rfl (Or.inl rfl)) (pgs_cons (pg_name (i := 2) sc_decoded.nd rfl (Or.inl rfl)) pgs_nil)))) (pss_cons 
      (ps_if (pt_cmpR op_lt (pv 2) (pe_callB call_len (by rfl) T.b_len PySem.boot_len (pa_cons (pv 0) pa_nil)) (nomark _)) (pss_one (N_BadCode.ps_raiseOwn rfl O_BadCode hr (takes_of rfl rfl rfl rfl) (pa_cons (pv 2) pa_nil))) pss_nil) (pss_cons 
      (ps_expr (pe_call G_check_patch (hr.mono (by decide)) rfl T.d_check_patch.m T.d_check_patch.F.kp T.d_check_patch.b .nil (passes_call (takes_of rfl rfl rfl rfl) fun _ _ _ _ h => h) (pa_cons (pv 1) pa_nil))) (pss_one 
      (ps_ret (pv 1)))))), ?_⟩
    refine ⟨_, rfl, bs, 0, rfl, hb, hl, Int.le_refl _, by decide, fun rs q e H1 v p s1 hP hp => ?_, fun e he => kL e he⟩
    have k1 := codeAt_ok hb (Int.le_refl _) e
    have k2 := codeAt_fine hb (Int.le_refl _) e
    refine ⟨p, _, rfl, SqT.of hp, rfl, _, _, rfl, _, _, rfl, rfl, ?_⟩
    refine ⟨_, rfl, _, rfl, _, bs.length, rfl, lenB (by omega), _, _, rfl, rfl, _, rfl, ite2 (fun h => ?_) fun h => ?_⟩
    · have h := of_decide_eq_true h
      exact ⟨_, rfl, _, rfl, by omega, by omega, fun d hd => ((kB _ _ e h).same s1).now d hd⟩
    · have h : ¬ q < (bs.length : Int) := fun z => h (decide_eq_true z)
      obtain ⟨kG, kP⟩ := kS _ _ e (by omega)
      exact ⟨_, rfl, v, rs, rfl, hP, k2.1, by omega, fun hG H2 s2 => ⟨_, rfl, kG hG H2 v (s1.trans s2) (hP.tups (Same.tups s2))⟩, fun i hi => (kP i hi).same s1⟩
end
/-! ### the law's own code, of rows of at most 1000 bytes -/
def Mid (rows : List Row) : Prop := (∀ r ∈ rows, r.ok 1000) ∧ total rows ≤ 1000
theorem Good.mid {rows : List Row} (h : Good rows) : Mid rows := ⟨fun r hr => Row.ok_mono (c := 200) (by decide) (h.1 r hr), Int.le_trans h.2 (by decide)⟩
theorem Mid.each {rows : List Row} (h : Mid rows) : ∀ r ∈ rows, r.ok 1000 ∧ r.len ≤ 1000 := fun r hr => ⟨h.1 r hr, Int.le_trans (len_le_of h.1 hr) h.2⟩
theorem Mid.nat {rows : List Row} (h : Mid rows) : rows.length ≤ 1000 := by have := Int.le_trans (len_le_total h.1) h.2; omega
theorem Mid.take {rows : List Row} (h : Mid rows) (i : Nat) : Mid (rows.take i) := ⟨fun r hr => h.1 r (List.mem_of_mem_take hr), Int.le_trans (total_take_le h.1 i) h.2⟩
theorem mfirst_le {r : Row} {c : Int} (h : r.ok c) (hl : r.len ≤ 1000) : 4 ≤ firstNum r ∧ firstNum r ≤ 4002 := by
  have a := Row.len_pos h
  have b := r.word_le
  unfold firstNum
  omega
theorem mtail_b8 {r : Row} (h : r.ok 1000) : B8 r.tail := by
  cases r with
  | copy b n =>
    have h1 := h.1
    have h2 := h.2.1
    have h3 := h.2.2
    exact numCode_b8 h1 (by omega)
  | run b n =>
    have h1 := h.1
    have h2 := h.2.1
    intro x hx
    rw [List.mem_singleton.mp hx]
    exact ⟨h1, h2⟩
  | bring bs => exact h.2
theorem mrow_len {c : Int} {r : Row} (h : r.ok c) : ((rowCode r).length : Int) ≤ 4 * r.len := by
  have a := Row.len_pos h
  have d := numSize_le (firstNum r)
  rw [← numCode_len] at d
  have b : (r.tail.length : Int) ≤ r.len + 1 := by
    cases r with
    | copy b n =>
      have h2 := numSize_le b
      rw [← numCode_len] at h2
      have a : 1 ≤ n := a
      show ((numCode b).length : Int) ≤ n + 1
      omega
    | run b n =>
      have a : 1 ≤ n := a
      show (1 : Int) ≤ n + 1
      omega
    | bring bs =>
      show (bs.length : Int) ≤ bs.length + 1
      omega
  unfold rowCode
  rw [List.length_append]
  omega
theorem mrows_b8 : ∀ {rows : List Row}, (∀ r ∈ rows, r.ok 1000 ∧ r.len ≤ 1000) → B8 (rows.flatMap rowCode)
  | [], _ => fun n hn => (List.not_mem_nil hn).elim
  | r :: l, h => by
    have a := h r List.mem_cons_self
    have f := mfirst_le a.1 a.2
    rw [List.flatMap_cons]
    exact ((numCode_b8 (by omega) (by omega)).app (mtail_b8 a.1)).app (mrows_b8 fun x hx => h x (List.mem_cons_of_mem _ hx))
theorem mrows_len {c : Int} : ∀ {rows : List Row}, (∀ r ∈ rows, r.ok c) → ((rows.flatMap rowCode).length : Int) ≤ 4 * total rows
  | [], _ => by show (0 : Int) ≤ 4 * 0; decide
  | r :: l, h => by
    have a := mrow_len (h r List.mem_cons_self)
    have b := mrows_len (rows := l) fun x hx => h x (List.mem_cons_of_mem _ hx)
    rw [List.flatMap_cons, List.length_append]
    show (((rowCode r).length + (l.flatMap rowCode).length : Nat) : Int) ≤ 4 * (r.len + total l)
    omega
theorem mpart_len {n : Nat} {rows : List Row} (h : Mid rows) : (partCode n rows).length ≤ 4002 := by
  have a := mrows_len h.1
  have b := numSize_le n
  have d := h.2
  rw [← numCode_len] at b
  unfold partCode
  rw [List.length_append]
  omega
theorem mcode_b8 {rows : List Row} (h : Mid rows) : B8 (codeOf rows) := by
  have hn := h.nat
  refine ((numCode_b8 (by omega) (by omega)).app (mrows_b8 h.each)).app fun x hx => ?_
  rw [List.mem_singleton.mp hx]
  have := Int.emod_nonneg (bodyCode rows).sum (show (251 : Int) ≠ 0 by decide)
  have := Int.emod_lt_of_pos (bodyCode rows).sum (show (0 : Int) < 251 by decide)
  omega
theorem mcode_len {rows : List Row} (h : Mid rows) : 1 ≤ (codeOf rows).length ∧ (codeOf rows).length ≤ 4003 := by
  have := mpart_len (n := rows.length) h
  unfold codeOf
  rw [List.length_append, body_part]
  show 1 ≤ (partCode rows.length rows).length + 1 ∧ (partCode rows.length rows).length + 1 ≤ 4003
  omega
def spLNum : Sp := fun vs H Q _ => ∃ n : Int, vs = [.int n] ∧ 0 ≤ n ∧ n < 32768 ∧ ∀ H' p, Same H H' → H p = none → H' p = some (.lst (List.map V.int (numCode n))) → Q (.ref p) H'
def spLCode : Sp := fun vs H Q _ => ∃ (p : Addr) (rows : List Row), vs = [.ref p] ∧ RowsAt H p rows ∧ Mid rows ∧ ∀ H' q, Same H H' → H q = none → H' q = some (.lst (List.map V.int (codeOf rows))) → Q (.ref q) H'
section
variable {P : Program} {w : World} {K : PySem.W.Frag} {mg : Str → Option Value} {base : Heap} {C fI : Addr}
theorem ok_law_number (T : All K mg) : FnOk P w K mg base CX0 1 T.d_law_number.f T.d_law_number.fd ["_law_n"] spLNum := by
  refine T.d_law_number.F.ok sc_law_number (fun vs H Q E h => ?_) (fun cdv A outer s H vs Q E hr h => ?_)
  · obtain ⟨n, rfl, _⟩ := h
    rfl
  · obtain ⟨n, rfl, h0, h1, k⟩ := h
    refine ⟨_, (pss_one 
      (ps_ret (pe_ifExp (pt_cmpR op_lt (pv 0) pe_int (nomark _)) (pe_lst (pa_cons (pv 0) pa_nil)) (pe_lst (pa_cons (pe_op op_add (pe_op op_mod (pe_callTy call_int1 (by rfl) T.b_int PyProof.Rows.boot_int (pa_cons (pv 0) pa_nil)) pe_int) pe_int) (pa_cons (pe_op op_fdiv (pv 0) pe_int) pa_nil)))))), ?_⟩
    refine ⟨_, rfl, _, _, rfl, rfl, _, rfl, ite2 (fun h => ?_) fun h => ?_⟩
    · have e : numCode n = [n] := if_pos (of_decide_eq_true h)
      rw [e] at k
      exact ⟨_, rfl, sizeS (by show 1 ≤ 100000; decide), fun p hp => k _ p (Same.new hp) hp upd_same⟩
    · have e : numCode n = [n % 128 + 128, n / 128] := by
        have e : numCode n = [128 + n % 2 ^ 7, n / 128] := if_neg (fun z => h (decide_eq_true z))
        rw [e, p7, Int.add_comm]
      rw [e] at k
      exact ⟨_, rfl, .inl ⟨_, rfl, _, _, rfl, rfl, (by show (0 : Int) < 128; decide), _, _, rfl, rfl, _, rfl, _, _, rfl, rfl, ⟨by decide, by decide⟩, sizeS (by show 2 ≤ 100000; decide), fun p hp => k _ p (Same.new hp) hp upd_same⟩⟩
theorem ok_law_code (T : All K mg) : FnOk P w K mg base CX0 2 T.d_law_code.f T.d_law_code.fd ["_law_rows_here"] spLCode := by
  have G_law_number : FnOk P w K mg base CX0 1 T.d_law_number.f T.d_law_number.fd ["_law_n"] spLNum := ok_law_number T
  have G_law_size : FnOk P w K mg base CX0 1 T.d_law_size.f T.d_law_size.fd ["_law_row"] spSize := ok_law_size T
  refine T.d_law_code.F.ok sc_law_code (fun vs H Q E h => ?_) (fun cdv A outer s H vs Q E hr h => ?_)
  · obtain ⟨p, _, rfl, _⟩ := h
    rfl
  · obtain ⟨p, rows, rfl, ⟨vs, hv, hpr⟩, hG, k⟩ := h
    refine ⟨_, (pss_cons 
      (ps_set (i := 1) sc_law_code.nd rfl (Or.inl rfl) (pe_call G_law_number (hr.mono (by decide)) rfl T.d_law_number.m T.d_law_number.F.kp T.d_law_number.b .nil pass0 (pa_cons (pe_callB call_len (by rfl) T.b_len PySem.boot_len (pa_cons (pv 0) pa_nil)) pa_nil))) (pss_cons 
      (ps_for PassesOwn.never rfl (pi_list (pv 0)) (pg_name (i := 2) sc_law_code.nd rfl (Or.inl rfl)) (pss_cons 
      (ps_set (i := 1) sc_law_code.nd rfl (Or.inl rfl) (pe_op op_cat (pv 1) (pe_call G_law_number (hr.mono (by decide)) rfl T.d_law_number.m T.d_law_number.F.kp T.d_law_number.b .nil pass0 (pa_cons (pe_op op_add (pe_op op_mul (pe_call G_law_size (hr.mono (by decide)) rfl T.d_law_size.m T.d_law_size.F.kp T.d_law_size.b .nil pass0 (pa_cons (pv 2) pa_nil)) pe_int) (pe_bm PySem.F.plainAttrs_list PySem.F.slot_list_index PySem.F.type_list_index mt_index (pe_lst (pa_cons pe_str (pa_cons pe_str (pa_cons pe_str pa_nil)))) (pa_cons (pe_ix ix_tup (pv 2) pe_int (fun _ _ => rfl)) pa_nil))) pa_nil)))) (pss_one 
      (ps_if (pt_cmpR op_eq (pe_ix ix_tup (pv 2) pe_int (fun _ _ => rfl)) pe_str (nomark _)) (pss_one 
      (ps_set (i := 1) sc_law_code.nd rfl (Or.inl rfl) (pe_op op_cat (pv 1) (pe_call G_law_number (hr.mono (by decide)) rfl T.d_law_number.m T.d_law_number.F.kp T.d_law_number.b .nil pass0 (pa_cons (pe_ix ix_tup (pv 2) pe_int (fun _ _ => rfl)) pa_nil))))) (pss_one 
      (ps_set (i := 1) sc_law_code.nd rfl (Or.inl rfl) (pe_op op_cat (pv 1) (pe_ifExp (pt_cmpR op_eq (pe_ix ix_tup (pv 2) pe_int (fun _ _ => rfl)) pe_str (nomark _)) (pe_ix ix_tup (pv 2) pe_int (fun _ _ => rfl)) (pe_lst (pa_cons (pe_ix ix_tup (pv 2) pe_int (fun _ _ => rfl)) pa_nil)))))))))) (pss_one 
      (ps_ret (pe_op op_cat (pv 1) (pe_lst (pa_cons (pe_op op_mod (pe_callB (cr_sum rfl) (by rfl) T.b_sum (by decide +kernel) (pa_cons (pv 1) pa_nil)) pe_int) pa_nil))))))), ?_⟩
    have hvl := Paired.length hpr
    have few := hG.nat
    refine ⟨_, rfl, _, vs.length, rfl, .inl ⟨_, SqL.of hv, rfl⟩, _, rfl, by omega, by omega, fun H1 f0 s1 hf0 hf1 => ?_⟩
    refine ⟨_, rfl, p, rfl, ⟨vs, SqL.of (s1 _ _ hv)⟩, for_list (K := K) (a := p) (xs := vs) (fun i σ H2 => ∃ (f : Addr) (v2 : Option V), σ = [some (.ref p), some (.ref f), v2] ∧ Same H H2 ∧ H f = none ∧ H2 f = some (.lst (List.map V.int (partCode vs.length (rows.take i)))))
      ⟨f0, none, rfl, s1, hf0, ?_⟩ (fun i σ H2 _ ⟨_, _, _, s2, _⟩ => SqL.of (s2 _ _ hv)) ?_ ?_⟩
    · rw [hf1, List.take_zero]
      unfold partCode
      rw [List.flatMap_nil, List.append_nil]
    · rintro i x σ H2 hi ⟨f, v2, rfl, s2, hf, hw⟩
      obtain ⟨r, hr1, hr2⟩ := pairedAt hpr hi
      have hro := hG.each r (List.mem_of_getElem? hr1)
      have hfn := mfirst_le hro.1 hro.2
      have hpl := mpart_len (n := vs.length) (hG.take i)
      have hpl2 := mpart_len (n := vs.length) (hG.take (i + 1))
      rw [part_snoc hr1, List.length_append] at hpl2
      have hrc : (rowCode r).length = (numCode (firstNum r)).length + r.tail.length := by unfold rowCode; rw [List.length_append]
      have hr3 := hr2.same s2
      have hpos := Row.len_pos hro.1
      have hle := hro.2
      obtain ⟨z, rfl⟩ := hr3.isRef
      obtain ⟨w0, hw0⟩ : ∃ w0 : V, (match r with | .copy _ _ => V.str "copy" | .bring _ => V.str "bring" | .run _ _ => V.str "run") = w0 := ⟨_, rfl⟩
      have row0 : ∃ xs, H2 z = some (.tup xs) ∧ atI xs 0 = some w0 := by
        cases r with
        | copy b n => obtain ⟨_, e, hz⟩ := hr3; cases e; exact ⟨_, hz, congrArg some hw0⟩
        | run b n => obtain ⟨_, e, hz⟩ := hr3; cases e; exact ⟨_, hz, congrArg some hw0⟩
        | bring bs => obtain ⟨_, _, e, hz, _⟩ := hr3; cases e; exact ⟨_, hz, congrArg some hw0⟩
      obtain ⟨xs0, hz0, ha0⟩ := row0
      refine ⟨_, rfl, _, rfl, _, r, rfl, hr3, by omega, _, _, rfl, rfl, .inl ⟨by omega, by omega⟩, sizeS (by show 3 ≤ 100000; decide), fun l hl => ?_⟩
      have hz1 := Same.new (o := .lst [V.str "copy", V.str "bring", V.str "run"]) hl _ _ hz0
      refine ⟨.inl ⟨rfl, _, SqL.of upd_same⟩, _, rfl, z, _, _, _, rfl, rfl, SqT.of hz1, ha0, ?_⟩
      have s3 := s2.trans (Same.new (o := .lst [V.str "copy", V.str "bring", V.str "run"]) hl)
      have idx : ∃ (j : Nat) (x : V), [V.str "copy", V.str "bring", V.str "run"][j]? = some x ∧ eqV x w0 = true ∧ (∀ m y, m < j → [V.str "copy", V.str "bring", V.str "run"][m]? = some y → eqV y w0 = false) ∧ ((j : Nat) : Int) = r.word ∧ flatV w0 = true := by
        subst hw0
        cases r with
        | copy b n => exact ⟨0, _, rfl, rfl, fun m y hm => absurd hm (Nat.not_lt_zero _), rfl, rfl⟩
        | bring bs => exact ⟨1, _, rfl, rfl, fun m y hm hy => by
            have : m = 0 := by omega
            subst this
            cases hy; rfl, rfl, rfl⟩
        | run b n => exact ⟨2, _, rfl, rfl, fun m y hm hy => by
            have : m = 0 ∨ m = 1 := by omega
            rcases this with rfl | rfl <;> (cases hy; rfl), rfl, rfl⟩
      obtain ⟨j, jx, hj1, hj2, hj3, hj4, hj5⟩ := idx
      refine ⟨l, _, w0, j, jx, rfl, rfl, SqL.of upd_same, hj5, rfl, hj1, hj2, fun m y hm hy => hj3 m y hm hy, _, _, rfl, rfl, ?_⟩
      rw [hj4]
      refine ⟨_, rfl, by show 0 ≤ firstNum r; omega, by show firstNum r < 32768; omega, fun H4 q s4 hq hq4 => ?_⟩
      have hf4 := s4 _ _ (Same.new (o := .lst [V.str "copy", V.str "bring", V.str "run"]) hl _ _ hw)
      have s24 := s3.trans s4
      refine ⟨f, q, _, _, rfl, rfl, hf4, hq4, sizeS (by rw [List.length_map, List.length_map]; show _ + (numCode (firstNum r)).length ≤ _; omega), fun g hg => ?_⟩
      have s5 := s24.trans (Same.new (o := .lst (List.map V.int (partCode vs.length (rows.take i)) ++ List.map V.int (numCode (firstNum r)))) hg)
      have hr5 := hr2.same s5
      have fin : ∀ (H6 : Hp) (u g2 : Addr), Same H H6 → H6 g2 = none → Same H (upd H6 g2 (.lst (List.map V.int (partCode vs.length (rows.take i)) ++ List.map V.int (numCode (firstNum r)) ++ List.map V.int r.tail))) ∧ H g2 = none ∧ (upd H6 g2 (.lst (List.map V.int (partCode vs.length (rows.take i)) ++ List.map V.int (numCode (firstNum r)) ++ List.map V.int r.tail))) g2 = some (.lst (List.map V.int (partCode vs.length (rows.take (i + 1))))) := by
        intro H6 u g2 s6 hg2
        refine ⟨s6.trans (Same.new hg2), s6.free hg2, ?_⟩
        rw [upd_same, part_snoc hr1]
        unfold rowCode
        simp only [List.map_append, List.append_assoc]
      have hsz : (List.map V.int (partCode vs.length (rows.take i)) ++ List.map V.int (numCode (firstNum r))).length + (List.map V.int r.tail).length ≤ 100000 := by
        rw [List.length_append, List.length_map, List.length_map, List.length_map]
        omega
      cases r with
      | copy b n =>
        obtain ⟨_, e, hz5⟩ := hr5
        cases e
        have h1 := hro.1.1
        have h2 := hro.1.2.1
        have h3 := hro.1.2.2
        refine ⟨_, rfl, z, _, _, _, rfl, rfl, SqT.of hz5, rfl, rfl, _, rfl, ite2 (fun _ => ?_) fun h => absurd (by decide) h⟩
        refine ⟨_, rfl, _, rfl, z, _, _, _, rfl, rfl, SqT.of hz5, rfl, b, rfl, h1, by omega, fun H6 u s6 hu hu6 => ?_⟩
        refine ⟨g, u, _, _, rfl, rfl, s6 _ _ upd_same, hu6, sizeS hsz, fun g2 hg2 => ?_⟩
        obtain ⟨q1, q2, q3⟩ := fin H6 u g2 (s5.trans s6) hg2
        exact ⟨g2, _, rfl, q1, q2, q3⟩
      | run b n =>
        obtain ⟨_, e, hz5⟩ := hr5
        cases e
        refine ⟨_, rfl, z, _, _, _, rfl, rfl, SqT.of hz5, rfl, rfl, _, rfl, ite2 (fun h => absurd h (by decide)) fun _ => ?_⟩
        refine ⟨_, rfl, _, rfl, z, _, _, _, rfl, rfl, SqT.of hz5, rfl, rfl, _, rfl, ite2 (fun h => absurd h (by decide)) fun _ => ?_⟩
        refine ⟨_, rfl, z, _, _, _, rfl, rfl, SqT.of hz5, rfl, sizeS (by show 1 ≤ 100000; decide), fun u hu => ?_⟩
        refine ⟨g, u, _, _, rfl, rfl, Same.new hu _ _ upd_same, upd_same, sizeS hsz, fun g2 hg2 => ?_⟩
        obtain ⟨q1, q2, q3⟩ := fin _ u g2 (s5.trans (Same.new (o := .lst [.int b]) hu)) hg2
        exact ⟨g2, _, rfl, q1, q2, q3⟩
      | bring bs =>
        obtain ⟨_, y, e, hz5, hy5⟩ := hr5
        cases e
        refine ⟨_, rfl, z, _, _, _, rfl, rfl, SqT.of hz5, rfl, rfl, _, rfl, ite2 (fun h => absurd h (by decide)) fun _ => ?_⟩
        refine ⟨_, rfl, _, rfl, z, _, _, _, rfl, rfl, SqT.of hz5, rfl, rfl, _, rfl, ite2 (fun _ => ?_) fun h => absurd (by decide) h⟩
        refine ⟨_, rfl, z, _, _, _, rfl, rfl, SqT.of hz5, rfl, ?_⟩
        refine ⟨g, y, _, _, rfl, rfl, upd_same, hy5, sizeS hsz, fun g2 hg2 => ?_⟩
        obtain ⟨q1, q2, q3⟩ := fin _ y g2 s5 hg2
        exact ⟨g2, _, rfl, q1, q2, q3⟩
    · rintro σ H2 ⟨f, v2, rfl, s2, hf, hw⟩
      rw [hvl, List.take_length] at hw
      have hl : (bodyCode rows).length ≤ 4002 := mpart_len hG
      refine ⟨_, rfl, _, rfl, f, bodyCode rows, rfl, SqL.of hw, _, _, rfl, rfl, (by show (0 : Int) < 251; decide), sizeS (by show 1 ≤ 100000; decide), fun u hu => ?_⟩
      refine ⟨f, u, _, _, rfl, rfl, Same.new hu _ _ hw, upd_same, sizeS (by rw [List.length_map]; show (bodyCode rows).length + 1 ≤ 100000; omega), fun q hq => ?_⟩
      have s3 := s2.trans (Same.new (o := .lst [.int ((bodyCode rows).sum % 251)]) hu)
      refine k _ q (s3.trans (Same.new hq)) (s3.free hq) ?_
      rw [upd_same]
      unfold codeOf
      rw [List.map_append]
      rfl
end
/-! ### the law's own reading -/
def spLFirst (K : PySem.W.Frag) : Sp := fun vs H Q _ => ∃ (a : Addr) (bs : List Int) (z : Int), vs = [.ref a, .int z] ∧ H a = some (.lst (bs.map V.int)) ∧ B8 bs ∧ bs.length ≤ 10000 ∧ 0 ≤ z ∧
  (∀ n q, numAt bs z = .ok (n, q) → ∀ H' p, Same H H' → H' p = some (.tup [.int n, .int q]) → Q (.ref p) H') ∧ (∀ e, numAt bs z = .error e → ∀ H' p, Same H H' → H' p = some (.tup [.int e, .non]) → Q (.ref p) H')
def spLParsed : Sp := fun vs H Q _ => ∃ (a : Addr) (bs : List Int), vs = [.ref a] ∧ H a = some (.lst (bs.map V.int)) ∧ B8 bs ∧ bs.length ≤ 10000 ∧
  (∀ e, codeAt bs 0 = .error e → ∀ H' p, Same H H' → H' p = some (.tup [.int e, .non]) → Q (.ref p) H') ∧
  (∀ rs q, codeAt bs 0 = .ok (rs, q) → q < bs.length → ∀ H' p, Same H H' → H' p = some (.tup [.int q, .non]) → Q (.ref p) H') ∧
  (∀ rs q, codeAt bs 0 = .ok (rs, q) → (bs.length : Int) ≤ q → ∀ H' p l, Same H H' → RowsAt H' l rs → H' p = some (.tup [.non, .ref l]) → Q (.ref p) H')
theorem ne_non {i : Int} : ¬ decide (V.int i = V.non) = true := fun h => nomatch of_decide_eq_true h
section
variable {P : Program} {w : World} {K : PySem.W.Frag} {mg : Str → Option Value} {base : Heap}
theorem ok_law_first (T : All K mg) : FnOk P w K mg base CX0 1 T.d_law_first.f T.d_law_first.fd ["_law_some", "_law_at"] (spLFirst K) := by
  refine T.d_law_first.F.ok sc_law_first (fun vs H Q E h => ?_) (fun cdv A outer s H vs Q E hr h => ?_)
  · obtain ⟨a, bs, z, rfl, _⟩ := h
    rfl
  · obtain ⟨a, bs, z, rfl, ha, hb, hl, h0, kS, kL⟩ := h
    refine ⟨_, (pss_cons 
      (ps_if (pt_cmpR op_ge (pv 1) (pe_callB call_len (by rfl) T.b_len PySem.boot_len (pa_cons (pv 0) pa_nil)) (nomark _)) (pss_one 
      (ps_ret (pe_tup (pa_cons (pe_callB call_len (by rfl) T.b_len PySem.boot_len (pa_cons (pv 0) pa_nil)) (pa_cons pe_non pa_nil))))) pss_nil) (pss_cons 
      (ps_if (pt_cmpR op_lt (pe_ix ix_list (pv 0) (pv 1) (fun _ _ => rfl)) pe_int (nomark _)) (pss_one 
      (ps_ret (pe_tup (pa_cons (pe_ix ix_list (pv 0) (pv 1) (fun _ _ => rfl)) (pa_cons (pe_op op_add (pv 1) pe_int) pa_nil))))) pss_nil) (pss_cons 
      (ps_if (pt_cmpR op_ge (pe_op op_add (pv 1) pe_int) (pe_callB call_len (by rfl) T.b_len PySem.boot_len (pa_cons (pv 0) pa_nil)) (nomark _)) (pss_one 
      (ps_ret (pe_tup (pa_cons (pe_callB call_len (by rfl) T.b_len PySem.boot_len (pa_cons (pv 0) pa_nil)) (pa_cons pe_non pa_nil))))) pss_nil) (pss_cons 
      (ps_if (pt_cmpR op_notIn_rng (pe_ix ix_list (pv 0) (pe_op op_add (pv 1) pe_int) (fun _ _ => rfl)) (pe_callTy cr_range2 (by rfl) T.b_range (by decide +kernel) (pa_cons pe_int (pa_cons pe_int pa_nil))) (by with_unfolding_all rfl)) (pss_one 
      (ps_ret (pe_tup (pa_cons (pe_op op_add (pv 1) pe_int) (pa_cons pe_non pa_nil))))) pss_nil) (pss_one 
      (ps_ret (pe_tup (pa_cons (pe_op op_add (pe_op op_sub (pe_ix ix_list (pv 0) (pv 1) (fun _ _ => rfl)) pe_int) (pe_op op_mul (pe_ix ix_list (pv 0) (pe_op op_add (pv 1) pe_int) (fun _ _ => rfl)) pe_int)) (pa_cons (pe_op op_add (pv 1) pe_int) pa_nil))))))))), ?_⟩
    unfold numAt at kS kL
    have el : (List.map V.int bs).length = bs.length := List.length_map _
    refine ⟨_, rfl, _, rfl, _, bs.length, rfl, .inl ⟨_, SqL.of ha, el.symm⟩, _, _, rfl, rfl, _, rfl, ite2 (fun h => ?_) fun h => ?_⟩
    · have h : z ≥ (bs.length : Int) := of_decide_eq_true h
      rw [List.getElem?_eq_none (show bs.length ≤ z.toNat by omega)] at kL
      exact ⟨_, rfl, _, bs.length, rfl, .inl ⟨_, SqL.of ha, el.symm⟩, sizeS (by show 2 ≤ 100000; decide), fun p hp => kL _ rfl _ p (Same.new hp) upd_same⟩
    · have h : ¬ z ≥ (bs.length : Int) := fun y => h (decide_eq_true y)
      obtain ⟨f, e1⟩ : ∃ f, bs[z.toNat]? = some f := ⟨_, List.getElem?_eq_getElem (show z.toNat < bs.length by omega)⟩
      have b1 := hb f (List.mem_of_getElem? e1)
      have i1 := atIb h0 e1
      rw [e1] at kS kL
      dsimp only at kS kL
      refine ⟨_, rfl, _, rfl, a, _, _, _, rfl, rfl, SqL.of ha, i1, _, _, rfl, rfl, _, rfl, ite2 (fun h2 => ?_) fun h2 => ?_⟩
      · rw [if_pos (of_decide_eq_true h2)] at kS
        exact ⟨_, rfl, _, rfl, a, _, _, _, rfl, rfl, SqL.of ha, i1, _, rfl, _, _, rfl, rfl, sizeS (by show 2 ≤ 100000; decide), fun p hp => kS _ _ rfl _ p (Same.new hp) upd_same⟩
      · have h2 : ¬ f < 128 := fun y => h2 (decide_eq_true y)
        rw [if_neg h2] at kS kL
        refine ⟨_, rfl, _, _, rfl, rfl, _, rfl, _, bs.length, rfl, .inl ⟨_, SqL.of ha, el.symm⟩, _, _, rfl, rfl, _, rfl, ite2 (fun h3 => ?_) fun h3 => ?_⟩
        · have h3 : z + 1 ≥ (bs.length : Int) := of_decide_eq_true h3
          rw [List.getElem?_eq_none (show bs.length ≤ (z + 1).toNat by omega)] at kL
          exact ⟨_, rfl, _, bs.length, rfl, .inl ⟨_, SqL.of ha, el.symm⟩, sizeS (by show 2 ≤ 100000; decide), fun p hp => kL _ rfl _ p (Same.new hp) upd_same⟩
        · have h3 : ¬ z + 1 ≥ (bs.length : Int) := fun y => h3 (decide_eq_true y)
          obtain ⟨t, e2⟩ : ∃ t, bs[(z + 1).toNat]? = some t := ⟨_, List.getElem?_eq_getElem (show (z + 1).toNat < bs.length by omega)⟩
          have b2 := hb t (List.mem_of_getElem? e2)
          have i2 := atIb (by omega) e2
          rw [e2] at kS kL
          dsimp only at kS kL
          refine ⟨_, rfl, _, rfl, _, _, rfl, rfl, a, _, _, _, rfl, rfl, SqL.of ha, i2, 1, 128, rfl, fun r hr2 => ⟨t, r, 1, 128, rfl, rfl, upd_same, _, rfl, ite2 (fun h4 => ?_) fun h4 => ?_⟩⟩
          · have h4 : ¬ (1 ≤ t ∧ t < 128) := fun y => by
              rw [decide_eq_true y] at h4
              exact absurd h4 (by decide)
            have e : (if t = 0 then (Except.error (z + 1) : Except Int (Int × Int)) else if 128 ≤ t then .error (z + 1) else .ok (f - 128 + t * 128, z + 2)) = .error (z + 1) := by
              by_cases c : t = 0
              · rw [if_pos c]
              · rw [if_neg c, if_pos (show 128 ≤ t by omega)]
            rw [e] at kL
            exact ⟨_, rfl, _, _, rfl, rfl, sizeS (by show 2 ≤ 100000; decide), fun p hp => kL _ rfl _ p ((Same.new hr2).trans (Same.new hp)) upd_same⟩
          · have h4 : 1 ≤ t ∧ t < 128 := by
              by_cases y : 1 ≤ t ∧ t < 128
              · exact y
              · rw [decide_eq_false y] at h4
                exact absurd (by decide) h4
            rw [if_neg (show ¬ t = 0 by omega), if_neg (show ¬ 128 ≤ t by omega)] at kS
            have ha2 := Same.new (o := HO.rng 1 128) hr2 _ _ ha
            exact ⟨_, rfl, _, rfl, a, _, _, _, rfl, rfl, SqL.of ha2, i1, _, _, rfl, rfl, _, rfl, _, rfl, _, _, rfl, rfl, a, _, _, _, rfl, rfl, SqL.of ha2, i2, _, _, rfl, rfl, .inl ⟨by omega, by omega⟩, _, _, rfl, rfl, _, rfl, _, _, rfl, rfl, sizeS (by show 2 ≤ 100000; decide), fun p hp => kS _ _ rfl _ p ((Same.new hr2).trans (Same.new hp)) upd_same⟩
theorem piecesAt_step {bs : List Int} {i : Nat} {z p0 : Int} {rs : List Row} (ez : piecesAt bs i p0 = .ok (rs, z)) : piecesAt bs (i + 1) p0 = (match pieceAt bs z with | .error e => .error e | .ok (r, y) => .ok (rs ++ [r], y)) := by
  show (match piecesAt bs i p0 with
    | .error e => (Except.error e : Except Int (List Row × Int))
    | .ok (rs, q) => match pieceAt bs q with
      | .error e => .error e
      | .ok (r, y) => .ok (rs ++ [r], y)) = _
  rw [ez]
theorem ok_law_parsed (T : All K mg) : FnOk P w K mg base CX0 2 T.d_law_parsed.f T.d_law_parsed.fd ["_law_some"] spLParsed := by
  have G_law_first : FnOk P w K mg base CX0 1 T.d_law_first.f T.d_law_first.fd ["_law_some", "_law_at"] (spLFirst K) := ok_law_first T
  refine T.d_law_parsed.F.ok sc_law_parsed (fun vs H Q E h => ?_) (fun cdv A outer s H vs Q E hr h => ?_)
  · obtain ⟨a, bs, rfl, _⟩ := h
    rfl
  · obtain ⟨a, bs, rfl, ha, hb, hl, kE, kB, kG⟩ := h
    refine ⟨_, (pss_cons 
      (ps_asg (pe_call G_law_first (hr.mono (by decide)) rfl T.d_law_first.m T.d_law_first.F.kp T.d_law_first.b .nil pass0 (pa_cons (pv 0) (pa_cons pe_int pa_nil))) (pg_tup rfl (pgs_cons (pg_name (i := 1) sc_law_parsed.nd rfl (Or.inl rfl)) (pgs_cons (pg_name (i := 2) sc_law_parsed.nd rfl (Or.inl rfl)) pgs_nil)))) (pss_cons 
      (ps_if (pt_cmpR op_isN (pv 2) pe_non (nomark _)) (pss_one 
      (ps_ret (pe_tup (pa_cons (pv 1) (pa_cons pe_non pa_nil))))) pss_nil) (pss_cons 
      (ps_set (i := 3) sc_law_parsed.nd rfl (Or.inl rfl) (pe_lst pa_nil)) (pss_cons 
      (ps_for PassesOwn.never rfl (pi_range1 (by rfl) T.b_range (pa_cons (pv 1) pa_nil)) (pg_name (i := 4) sc_law_parsed.nd rfl (Or.inl rfl)) (pss_cons 
      (ps_set (i := 5) sc_law_parsed.nd rfl (Or.inl rfl) (pv 2)) (pss_cons 
      (ps_asg (pe_call G_law_first (hr.mono (by decide)) rfl T.d_law_first.m T.d_law_first.F.kp T.d_law_first.b .nil pass0 (pa_cons (pv 0) (pa_cons (pv 5) pa_nil))) (pg_tup rfl (pgs_cons (pg_name (i := 6) sc_law_parsed.nd rfl (Or.inl rfl)) (pgs_cons (pg_name (i := 2) sc_law_parsed.nd rfl (Or.inl rfl)) pgs_nil)))) (pss_cons 
      (ps_if (PW.pt (pw_and (pt_cmpR op_lt (pv 5) (pe_callB call_len (by rfl) T.b_len PySem.boot_len (pa_cons (pv 0) pa_nil)) (nomark _)) (pw_and1 (pt_cmpR op_eq (pe_op op_mod (pe_callTy call_int1 (by rfl) T.b_int PyProof.Rows.boot_int (pa_cons (pe_ix ix_list (pv 0) (pv 5) (fun _ _ => rfl)) pa_nil)) pe_int) pe_int (nomark _))))) (pss_one 
      (ps_ret (pe_tup (pa_cons (pv 5) (pa_cons pe_non pa_nil))))) pss_nil) (pss_cons 
      (ps_if (pt_cmpR op_isN (pv 2) pe_non (nomark _)) (pss_one 
      (ps_ret (pe_tup (pa_cons (pv 6) (pa_cons pe_non pa_nil))))) pss_nil) (pss_cons 
      (ps_par (i := 7) (j := 8) (by rfl) sc_law_parsed.nd rfl rfl (by decide) rfl rfl (pa_cons (pe_op op_fdiv (pv 6) pe_int) (pa_cons (pe_op op_mod (pe_callTy call_int1 (by rfl) T.b_int PyProof.Rows.boot_int (pa_cons (pv 6) pa_nil)) pe_int) pa_nil)) (by rfl)) (pss_cons 
      (ps_if (pt_cmpR op_eq (pv 7) pe_int (nomark _)) (pss_one 
      (ps_ret (pe_tup (pa_cons (pv 5) (pa_cons pe_non pa_nil))))) pss_nil) (pss_one 
      (ps_if (pt_cmpR op_eq (pv 8) pe_int (nomark _)) (pss_cons 
      (ps_asg (pe_call G_law_first (hr.mono (by decide)) rfl T.d_law_first.m T.d_law_first.F.kp T.d_law_first.b .nil pass0 (pa_cons (pv 0) (pa_cons (pv 2) pa_nil))) (pg_tup rfl (pgs_cons (pg_name (i := 9) sc_law_parsed.nd rfl (Or.inl rfl)) (pgs_cons (pg_name (i := 2) sc_law_parsed.nd rfl (Or.inl rfl)) pgs_nil)))) (pss_cons 
      (ps_if (pt_cmpR op_isN (pv 2) pe_non (nomark _)) (pss_one 
      (ps_ret (pe_tup (pa_cons (pv 9) (pa_cons pe_non pa_nil))))) pss_nil) (pss_one 
      (ps_expr (pe_bm PySem.F.plainAttrs_list PySem.F.slot_list_append PySem.F.type_list_append mt_append (pv 3) (pa_cons (pe_tup (pa_cons pe_str (pa_cons (pv 9) (pa_cons (pv 7) pa_nil)))) pa_nil)))))) (pss_cons 
      (ps_set (i := 10) sc_law_parsed.nd rfl (Or.inl rfl) (pe_ifExp (pt_cmpR op_eq (pv 8) pe_int (nomark _)) (pv 7) pe_int)) (pss_cons 
      (ps_if (pt_cmpR op_gt (pe_op op_add (pv 2) (pv 10)) (pe_callB call_len (by rfl) T.b_len PySem.boot_len (pa_cons (pv 0) pa_nil)) (nomark _)) (pss_one 
      (ps_ret (pe_tup (pa_cons (pe_callB call_len (by rfl) T.b_len PySem.boot_len (pa_cons (pv 0) pa_nil)) (pa_cons pe_non pa_nil))))) pss_nil) (pss_cons 
      (ps_expr (pe_bm PySem.F.plainAttrs_list PySem.F.slot_list_append PySem.F.type_list_append mt_append (pv 3) (pa_cons (pe_ifExp (pt_cmpR op_eq (pv 8) pe_int (nomark _)) (pe_tup (pa_cons pe_str (pa_cons (pe_slice sl_list (pv 0) (po_some (pv 2)) (po_some (pe_op op_add (pv 2) (pv 7)))) pa_nil))) (pe_tup (pa_cons pe_str (pa_cons (pe_ix ix_list (pv 0) (pv 2) (fun _ _ => rfl)) (pa_cons (pv 7) pa_nil))))) pa_nil))) (pss_one 
      (ps_set (i := 2) sc_law_parsed.nd rfl (Or.inl rfl) (pe_op op_add (pv 2) (pv 10)))))))))))))))) (pss_cons 
      (ps_if (pt_cmpR op_ge (pv 2) (pe_callB call_len (by rfl) T.b_len PySem.boot_len (pa_cons (pv 0) pa_nil)) (nomark _)) (pss_one 
      (ps_ret (pe_tup (pa_cons (pe_callB call_len (by rfl) T.b_len PySem.boot_len (pa_cons (pv 0) pa_nil)) (pa_cons pe_non pa_nil))))) pss_nil) (pss_cons 
      (ps_if (pt_cmpR op_ne (pe_ix ix_list (pv 0) (pv 2) (fun _ _ => rfl)) (pe_op op_mod (pe_callB (cr_sum rfl) (by rfl) T.b_sum (by decide +kernel) (pa_cons (pe_slice sl_list (pv 0) po_none (po_some (pv 2))) pa_nil)) pe_int) (nomark _)) (pss_one 
      (ps_ret (pe_tup (pa_cons (pv 2) (pa_cons pe_non pa_nil))))) pss_nil) (pss_one 
      (ps_ret (pe_ifExp (pt_cmpR op_lt (pe_op op_add (pv 2) pe_int) (pe_callB call_len (by rfl) T.b_len PySem.boot_len (pa_cons (pv 0) pa_nil)) (nomark _)) (pe_tup (pa_cons (pe_op op_add (pv 2) pe_int) (pa_cons pe_non pa_nil))) (pe_tup (pa_cons pe_non (pa_cons (pv 3) pa_nil)))))))))))), ?_⟩
    have el : (List.map V.int bs).length = bs.length := List.length_map _
    unfold codeAt at kE kB kG
    refine ⟨_, rfl, a, bs, 0, rfl, ha, hb, hl, Int.le_refl _, fun n p0 e1 H1 p s1 hp => ?_, fun e e1 H1 p s1 hp => ?_⟩
    · rw [e1] at kE kB kG
      dsimp only at kE kB kG
      have k1 := numAt_ok hb (Int.le_refl _) e1
      refine ⟨p, _, rfl, SqT.of hp, rfl, _, _, rfl, _, _, rfl, rfl, ?_⟩
      refine ⟨_, rfl, rfl, _, rfl, ite2 (fun h => absurd h ne_non) fun _ => ?_⟩
      refine ⟨sizeS (by show 0 ≤ 100000; decide), fun l hl0 => ?_⟩
      have hlH : H l = none := s1.free hl0
      refine ⟨_, rfl, n, rfl, by omega, by omega, for_range (lo := 0) (n := n.toNat) (fun i σ H2 => ∃ (rs : List Row) (z : Int) (v4 v5 v6 v7 v8 v9 v10 : Option V), σ = [some (.ref a), some (.int n), some (.int z), some (.ref l), v4, v5, v6, v7, v8, v9, v10] ∧ Same H H2 ∧ RowsAt H2 l rs ∧ piecesAt bs i p0 = .ok (rs, z))
        ⟨[], p0, none, none, none, none, none, none, none, rfl, s1.trans (Same.new hl0), ⟨[], upd_same, .nil⟩, rfl⟩ ?_ ?_⟩
      · rintro i σ H2 hi ⟨rs, z, v4, v5, v6, v7, v8, v9, v10, rfl, s2, hR, ez⟩
        have kz := piecesAt_ok hb (by omega) (by omega) ez
        have est := piecesAt_step ez
        unfold pieceAt at est
        -- a refusal of the piece is one of the code
        have fail : ∀ e : Int, piecesAt bs (i + 1) p0 = .error e → ∀ H' p, Same H H' → H' p = some (.tup [.int e, .non]) → Q (.ref p) H' := fun e he => by
          rw [piecesAt_err (show i + 1 ≤ n.toNat by omega) he] at kE
          exact kE e rfl
        refine ⟨_, rfl, _, rfl, _, rfl, a, bs, z, rfl, s2 _ _ ha, hb, hl, by omega, fun m j e2 H3 pa s3 hp2 => ?_, fun e e2 H3 pa s3 hp2 => ?_⟩
        · have k2 := numAt_ok hb (by omega) e2
          have s23 := s2.trans s3
          obtain ⟨f, ef⟩ : ∃ f, bs[z.toNat]? = some f := ⟨_, List.getElem?_eq_getElem (show z.toNat < bs.length by omega)⟩
          have bf := hb f (List.mem_of_getElem? ef)
          rw [ef] at est
          dsimp only at est
          refine ⟨pa, _, rfl, SqT.of hp2, rfl, _, _, rfl, _, _, rfl, rfl, ?_⟩
          refine ⟨_, rfl, _, rfl, _, bs.length, rfl, .inl ⟨_, SqL.of (s23 _ _ ha), el.symm⟩, _, _, rfl, rfl, _, rfl, ite2 (fun _ => ?_) fun h => absurd (decide_eq_true (show z < (bs.length : Int) by omega)) h⟩
          refine ⟨_, rfl, _, rfl, a, _, _, _, rfl, rfl, SqL.of (s23 _ _ ha), atIb (by omega) ef, .inl ⟨_, rfl, _, _, rfl, rfl, (by show (0 : Int) < 4; decide), rfl, _, rfl, ite2 (fun h => ?_) fun h => ?_⟩⟩
          · have h : f % 2 ^ 2 = 3 := by rw [p2]; exact V.int.inj (of_decide_eq_true h)
            rw [if_pos h] at est
            exact ⟨_, rfl, sizeS (by show 2 ≤ 100000; decide), fun y hy => fail _ est _ y (s23.trans (Same.new hy)) upd_same⟩
          · have h : ¬ f % 2 ^ 2 = 3 := fun y => h (decide_eq_true (congrArg V.int (by rw [← p2]; exact y)))
            rw [if_neg h, e2] at est
            dsimp only at est
            refine ⟨_, rfl, rfl, _, rfl, ite2 (fun h => absurd h ne_non) fun _ => ?_⟩
            refine ⟨_, rfl, _, _, rfl, rfl, ⟨by decide, by decide⟩, _, rfl, .inl ⟨_, rfl, _, _, rfl, rfl, (by show (0 : Int) < 4; decide), _, _, rfl, ?_⟩⟩
            refine ⟨_, rfl, rfl, _, rfl, ite2 (fun h3 => ?_) fun h3 => ?_⟩
            · have h3 : m / 4 = 0 := V.int.inj (of_decide_eq_true h3)
              rw [if_pos h3] at est
              exact ⟨_, rfl, sizeS (by show 2 ≤ 100000; decide), fun y hy => fail _ est _ y (s23.trans (Same.new hy)) upd_same⟩
            · have h3 : ¬ m / 4 = 0 := fun y => h3 (decide_eq_true (congrArg V.int y))
              rw [if_neg h3] at est
              have hR3 := hR.same s3
              obtain ⟨ws, hw, pw⟩ := id hR3
              have wl : ws.length = i := by rw [Paired.length pw, kz.2.2.2]
              refine ⟨_, rfl, rfl, _, rfl, ite2 (fun h4 => ?_) fun h4 => ?_⟩
              · -- copy
                have h4 : m % 2 ^ 2 = 0 := by rw [p2]; exact V.int.inj (of_decide_eq_true h4)
                rw [if_pos h4] at est
                refine ⟨_, rfl, _, rfl, a, bs, j, rfl, s23 _ _ ha, hb, hl, by omega, fun b k e3 H4 p3 s4 hp3 => ?_, fun e e3 H4 p3 s4 hp3 => ?_⟩
                · rw [e3] at est
                  dsimp only at est
                  have s24 := s23.trans s4
                  refine ⟨p3, _, rfl, SqT.of hp3, rfl, _, _, rfl, _, _, rfl, rfl, ?_⟩
                  refine ⟨_, rfl, rfl, _, rfl, ite2 (fun h => absurd h ne_non) fun _ => ?_⟩
                  have hw4 := s4 _ _ hw
                  refine ⟨_, rfl, .inl ⟨rfl, _, SqL.of hw4⟩, _, rfl, _, rfl, sizeS (by show 3 ≤ 100000; decide), fun t ht => ?_⟩
                  have s5 := s4.trans (Same.new (o := .tup [.str "copy", .int b, .int (m / 4)]) ht)
                  have hw5 := s5 _ _ hw
                  refine ⟨l, ws, _, rfl, rfl, hw5, sizeL (by omega), ?_⟩
                  refine ⟨rs ++ [.copy b (m / 4)], k, _, _, _, _, _, _, _, rfl, fun c o hc => ?_, rows_put hw5 (pairedMap pw fun _ _ x => x.same s5) (r := .copy b (m / 4)) ⟨t, rfl, upd_same⟩ (fun _ _ _ e => by cases e), est⟩
                  rw [upd_ne (ne_of_none hc hlH)]
                  exact s5 _ _ (s23 _ _ hc)
                · rw [e3] at est
                  refine ⟨p3, _, rfl, SqT.of hp3, rfl, _, _, rfl, _, _, rfl, rfl, ?_⟩
                  refine ⟨_, rfl, rfl, _, rfl, ite2 (fun _ => ?_) fun h => absurd (decide_eq_true rfl) h⟩
                  exact ⟨_, rfl, sizeS (by show 2 ≤ 100000; decide), fun y hy => fail _ est _ y ((s23.trans s4).trans (Same.new hy)) upd_same⟩
              · have h4 : ¬ m % 2 ^ 2 = 0 := fun y => h4 (decide_eq_true (congrArg V.int (by rw [← p2]; exact y)))
                rw [if_neg h4] at est
                have hm : m % 2 ^ 2 = 1 ∨ m % 2 ^ 2 = 2 ∨ m % 2 ^ 2 = 3 := by
                  have := p2
                  omega
                rcases hm with hm | hm | hm
                · -- bring
                  have hk : m % 4 = 1 := by rw [← p2]; exact hm
                  rw [if_neg (show ¬ m % 2 ^ 2 = 2 by omega)] at est
                  refine ⟨_, rfl, rfl, _, rfl, ite2 (fun _ => ?_) fun h => absurd (decide_eq_true (congrArg V.int hk)) h⟩
                  refine ⟨_, rfl, _, rfl, _, rfl, _, _, rfl, rfl, _, rfl, _, bs.length, rfl, .inl ⟨_, SqL.of (s23 _ _ ha), el.symm⟩, _, _, rfl, rfl, _, rfl, ite2 (fun h5 => ?_) fun h5 => ?_⟩
                  · have h5 : j + m / 4 > (bs.length : Int) := of_decide_eq_true h5
                    rw [if_pos h5] at est
                    exact ⟨_, rfl, _, bs.length, rfl, .inl ⟨_, SqL.of (s23 _ _ ha), el.symm⟩, sizeS (by show 2 ≤ 100000; decide), fun y hy => fail _ est _ y (s23.trans (Same.new hy)) upd_same⟩
                  · have h5 : ¬ (bs.length : Int) < j + m / 4 := fun y => h5 (decide_eq_true y)
                    rw [if_neg h5] at est
                    refine ⟨_, rfl, .inl ⟨rfl, _, SqL.of hw⟩, _, rfl, rfl, _, rfl, ite2 (fun _ => ?_) fun h => absurd (decide_eq_true (congrArg V.int hk)) h⟩
                    refine ⟨_, rfl, _, rfl, _, rfl, _, rfl, _, rfl, _, _, rfl, rfl, _, rfl, a, _, rfl, SqL.of (s23 _ _ ha), fun u hu => ⟨sizeS (by show 2 ≤ 100000; decide), fun t ht => ?_⟩⟩
                    have ecut : cutV (List.map V.int bs) (some j) (some (j + m / 4)) = List.map V.int ((bs.drop j.toNat).take (m / 4).toNat) := by
                      obtain ⟨jj, hjj⟩ : ∃ jj : Nat, j = (jj : Int) := ⟨j.toNat, by omega⟩
                      obtain ⟨kk, hkk⟩ : ∃ kk : Nat, m / 4 = (kk : Int) := ⟨(m / 4).toNat, by omega⟩
                      rw [hjj, hkk] at h5 ⊢
                      unfold cutV
                      rw [show ((jj : Int) + (kk : Int)) = ((jj + kk : Nat) : Int) by omega, HT.sIx_nat, HT.sIx_nat, el, Nat.min_eq_left (by omega), Nat.min_eq_left (by omega), Int.toNat_natCast, Int.toNat_natCast, show jj + kk - jj = kk by omega, List.map_take, List.map_drop]
                    rw [ecut] at ht ⊢
                    have s5 := s3.trans ((Same.new (o := .lst (List.map V.int ((bs.drop j.toNat).take (m / 4).toNat))) hu).trans (Same.new (o := .tup [.str "bring", .ref u]) ht))
                    have s35 := (Same.new (o := .lst (List.map V.int ((bs.drop j.toNat).take (m / 4).toNat))) hu).trans (Same.new (o := .tup [.str "bring", .ref u]) ht)
                    have hw5 := s35 _ _ hw
                    have nul : u ≠ l := (ne_of_none hw hu).symm
                    refine ⟨l, ws, _, rfl, rfl, hw5, sizeL (by omega), _, rfl, _, rfl, _, _, rfl, rfl, ?_⟩
                    refine ⟨rs ++ [.bring ((bs.drop j.toNat).take (m / 4).toNat)], j + m / 4, _, _, _, _, _, _, _, rfl, fun c o hc => ?_, rows_put hw5 (pairedMap pw fun _ _ x => x.same s35) (r := .bring ((bs.drop j.toNat).take (m / 4).toNat)) ⟨t, u, rfl, upd_same, by rw [upd_ne (ne_of_none (upd_same (a := u)) ht)]; exact upd_same⟩ (fun bs' p' q' e1 e2 e3 => ?_), est⟩
                    · rw [upd_ne (ne_of_none hc hlH)]
                      exact s5 _ _ (s2 _ _ hc)
                    · cases e3
                      rw [upd_same] at e2
                      injection e2 with e2
                      injection e2 with e2
                      injection e2 with _ e2
                      injection e2 with e2 _
                      injection e2 with e2
                      rw [← e2]; exact nul
                · -- run
                  have hk : m % 4 = 2 := by rw [← p2]; exact hm
                  have nk : ¬ decide (V.int (m % 4) = V.int 1) = true := fun y => by
                    have := V.int.inj (of_decide_eq_true y)
                    omega
                  rw [if_pos hm] at est
                  refine ⟨_, rfl, rfl, _, rfl, ite2 (fun h => absurd h nk) fun _ => ?_⟩
                  refine ⟨_, rfl, _, rfl, _, _, rfl, rfl, _, rfl, _, bs.length, rfl, .inl ⟨_, SqL.of (s23 _ _ ha), el.symm⟩, _, _, rfl, rfl, _, rfl, ite2 (fun h5 => ?_) fun h5 => ?_⟩
                  · have h5 : j + 1 > (bs.length : Int) := of_decide_eq_true h5
                    rw [List.getElem?_eq_none (show bs.length ≤ j.toNat by omega)] at est
                    exact ⟨_, rfl, _, bs.length, rfl, .inl ⟨_, SqL.of (s23 _ _ ha), el.symm⟩, sizeS (by show 2 ≤ 100000; decide), fun y hy => fail _ est _ y (s23.trans (Same.new hy)) upd_same⟩
                  · have h5 : ¬ j + 1 > (bs.length : Int) := fun y => h5 (decide_eq_true y)
                    obtain ⟨b, eb⟩ : ∃ b, bs[j.toNat]? = some b := ⟨_, List.getElem?_eq_getElem (show j.toNat < bs.length by omega)⟩
                    rw [eb] at est
                    dsimp only at est
                    refine ⟨_, rfl, .inl ⟨rfl, _, SqL.of hw⟩, _, rfl, rfl, _, rfl, ite2 (fun h => absurd h nk) fun _ => ?_⟩
                    refine ⟨_, rfl, _, rfl, a, _, _, _, rfl, rfl, SqL.of (s23 _ _ ha), atIb (by omega) eb, _, rfl, sizeS (by show 3 ≤ 100000; decide), fun t ht => ?_⟩
                    have s35 := Same.new (o := .tup [.str "run", .int b, .int (m / 4)]) ht
                    have hw5 := s35 _ _ hw
                    refine ⟨l, ws, _, rfl, rfl, hw5, sizeL (by omega), _, rfl, _, rfl, _, _, rfl, rfl, ?_⟩
                    refine ⟨rs ++ [.run b (m / 4)], j + 1, _, _, _, _, _, _, _, rfl, fun c o hc => ?_, rows_put hw5 (pairedMap pw fun _ _ x => x.same s35) (r := .run b (m / 4)) ⟨t, rfl, upd_same⟩ (fun _ _ _ e => by cases e), est⟩
                    rw [upd_ne (ne_of_none hc hlH)]
                    exact s35 _ _ (s23 _ _ hc)
                · -- never
                  exfalso
                  have hm4 : m % 4 = 3 := by rw [← p2]; exact hm
                  rw [p2] at h
                  unfold numAt at e2
                  rw [ef] at e2
                  dsimp only at e2
                  by_cases c : f < 128
                  · rw [if_pos c] at e2
                    cases e2
                    exact h hm4
                  · rw [if_neg c] at e2
                    cases e3 : bs[(z + 1).toNat]? with
                    | none => rw [e3] at e2; cases e2
                    | some t =>
                      rw [e3] at e2
                      dsimp only at e2
                      by_cases c2 : t = 0
                      · rw [if_pos c2] at e2; cases e2
                      · rw [if_neg c2] at e2
                        by_cases c3 : 128 ≤ t
                        · rw [if_pos c3] at e2; cases e2
                        · rw [if_neg c3] at e2
                          cases e2
                          omega
        · -- the number of the piece can't be read
          have s23 := s2.trans s3
          refine ⟨pa, _, rfl, SqT.of hp2, rfl, _, _, rfl, _, _, rfl, rfl, ?_⟩
          refine ⟨_, rfl, _, rfl, _, bs.length, rfl, .inl ⟨_, SqL.of (s23 _ _ ha), el.symm⟩, _, _, rfl, rfl, _, rfl, ite2 (fun h => ?_) fun h => iteF ?_⟩
          · have h : z < (bs.length : Int) := of_decide_eq_true h
            obtain ⟨f, ef⟩ : ∃ f, bs[z.toNat]? = some f := ⟨_, List.getElem?_eq_getElem (show z.toNat < bs.length by omega)⟩
            rw [ef] at est
            dsimp only at est
            refine ⟨_, rfl, _, rfl, a, _, _, _, rfl, rfl, SqL.of (s23 _ _ ha), atIb (by omega) ef, .inl ⟨_, rfl, _, _, rfl, rfl, (by show (0 : Int) < 4; decide), rfl, _, rfl, ite2 (fun h => ?_) fun h => ?_⟩⟩
            · have h : f % 2 ^ 2 = 3 := by rw [p2]; exact V.int.inj (of_decide_eq_true h)
              rw [if_pos h] at est
              exact ⟨_, rfl, sizeS (by show 2 ≤ 100000; decide), fun y hy => fail _ est _ y (s23.trans (Same.new hy)) upd_same⟩
            · have h : ¬ f % 2 ^ 2 = 3 := fun y => h (decide_eq_true (congrArg V.int (by rw [← p2]; exact y)))
              rw [if_neg h, e2] at est
              refine ⟨_, rfl, rfl, _, rfl, ite2 (fun _ => ?_) fun h => absurd (decide_eq_true rfl) h⟩
              exact ⟨_, rfl, sizeS (by show 2 ≤ 100000; decide), fun y hy => fail _ est _ y (s23.trans (Same.new hy)) upd_same⟩
          · have h : ¬ z < (bs.length : Int) := fun y => h (decide_eq_true y)
            have en : bs[z.toNat]? = none := List.getElem?_eq_none (show bs.length ≤ z.toNat by omega)
            rw [en] at est
            have e4 : e = bs.length := by
              unfold numAt at e2
              rw [en] at e2
              exact (Except.error.inj e2).symm
            subst e4
            refine ⟨_, rfl, rfl, _, rfl, ite2 (fun _ => ?_) fun h => absurd (decide_eq_true rfl) h⟩
            exact ⟨_, rfl, sizeS (by show 2 ≤ 100000; decide), fun y hy => fail _ est _ y (s23.trans (Same.new hy)) upd_same⟩
      · rintro σ H2 ⟨rs, z, v4, v5, v6, v7, v8, v9, v10, rfl, s2, hR, ez⟩
        have kz := piecesAt_ok hb (by omega) (by omega) ez
        rw [ez] at kE kB kG
        dsimp only at kE kB kG
        refine ⟨_, rfl, _, rfl, _, bs.length, rfl, .inl ⟨_, SqL.of (s2 _ _ ha), el.symm⟩, _, _, rfl, rfl, _, rfl, ite2 (fun h => ?_) fun h => ?_⟩
        · have h : z ≥ (bs.length : Int) := of_decide_eq_true h
          rw [List.getElem?_eq_none (show bs.length ≤ z.toNat by omega)] at kE
          exact ⟨_, rfl, _, bs.length, rfl, .inl ⟨_, SqL.of (s2 _ _ ha), el.symm⟩, sizeS (by show 2 ≤ 100000; decide), fun y hy => kE _ rfl _ y (s2.trans (Same.new hy)) upd_same⟩
        · have h : ¬ z ≥ (bs.length : Int) := fun y => h (decide_eq_true y)
          obtain ⟨c, ec⟩ : ∃ c, bs[z.toNat]? = some c := ⟨_, List.getElem?_eq_getElem (show z.toNat < bs.length by omega)⟩
          rw [ec] at kE kB kG
          dsimp only at kE kB kG
          have ecut : cutV (List.map V.int bs) none (some z) = List.map V.int (bs.take z.toNat) := by
            obtain ⟨kk, hkk⟩ : ∃ kk : Nat, z = (kk : Int) := ⟨z.toNat, by omega⟩
            rw [hkk] at h ⊢
            unfold cutV
            rw [HT.sIx_none, HT.sIx_nat, el, Nat.min_eq_left (by omega), List.drop_zero, Nat.sub_zero, Int.toNat_natCast, List.map_take]
          rw [show (List.take (z.toNat - (0 : Int).toNat) (List.drop (0 : Int).toNat bs)) = bs.take z.toNat from rfl] at kE kB kG
          refine ⟨_, rfl, _, rfl, a, _, _, _, rfl, rfl, SqL.of (s2 _ _ ha), atIb (by omega) ec, _, rfl, _, rfl, _, rfl, a, _, rfl, SqL.of (s2 _ _ ha), fun u hu => ?_⟩
          rw [ecut]
          have s3 := s2.trans (Same.new (o := .lst (List.map V.int (bs.take z.toNat))) hu)
          refine ⟨u, bs.take z.toNat, rfl, SqL.of upd_same, _, _, rfl, rfl, (by show (0 : Int) < 251; decide), rfl, _, rfl, ite2 (fun h2 => ?_) fun h2 => ?_⟩
          · have h2 : (!decide (V.int c = V.int ((bs.take z.toNat).sum % 251))) = true := h2
            have h2 : ¬ c = (bs.take z.toNat).sum % 251 := fun y => by
              rw [← y] at h2
              exact absurd h2 (by simp)
            rw [if_neg h2] at kE
            exact ⟨_, rfl, sizeS (by show 2 ≤ 100000; decide), fun y hy => kE _ rfl _ y (s3.trans (Same.new hy)) upd_same⟩
          · have h2 : c = (bs.take z.toNat).sum % 251 := by
              by_cases y : c = (bs.take z.toNat).sum % 251
              · exact y
              · have h2 : ¬ (!decide (V.int c = V.int ((bs.take z.toNat).sum % 251))) = true := h2
                refine absurd ?_ h2
                have : V.int c ≠ V.int ((bs.take z.toNat).sum % 251) := fun q => y (V.int.inj q)
                simp [this]
            rw [if_pos h2] at kB kG
            refine ⟨_, rfl, _, _, rfl, rfl, _, rfl, _, bs.length, rfl, .inl ⟨_, SqL.of (s3 _ _ ha), el.symm⟩, _, _, rfl, rfl, _, rfl, ite2 (fun h5 => ?_) fun h5 => ?_⟩
            · exact ⟨_, rfl, _, _, rfl, rfl, sizeS (by show 2 ≤ 100000; decide), fun y hy => kB _ _ rfl (of_decide_eq_true h5) _ y (s3.trans (Same.new hy)) upd_same⟩
            · have h5 : ¬ z + 1 < (bs.length : Int) := fun y => h5 (decide_eq_true y)
              have sr := Same.new (o := .lst (List.map V.int (bs.take z.toNat))) hu
              exact ⟨_, rfl, sizeS (by show 2 ≤ 100000; decide), fun y hy => kG _ _ rfl (by omega) _ y l (s3.trans (Same.new hy)) ((hR.same sr).same (Same.new hy)) upd_same⟩
    · rw [e1] at kE
      dsimp only at kE
      refine ⟨p, _, rfl, SqT.of hp, rfl, _, _, rfl, _, _, rfl, rfl, ?_⟩
      refine ⟨_, rfl, rfl, _, rfl, ite2 (fun _ => ?_) fun h => absurd (decide_eq_true rfl) h⟩
      exact ⟨_, rfl, sizeS (by show 2 ≤ 100000; decide), fun y hy => kE _ rfl _ y (s1.trans (Same.new hy)) upd_same⟩
end
/-! ### all stays but tables -/
theorem Tups.ext {H H' : Hp} (e : LamX.ExtN H H') : Tups H H' := fun b xs hb => e _ _ hb fun ps z => by cases z
theorem Dice.ext {K : PySem.W.Frag} {a d : Addr} {ns : List Int} {H H' : Hp} (D : Dice K a ns H d) (e : LamX.ExtN H H') : Dice K a ns H' d := by
  obtain ⟨g1, g2, pp, mm, gg, g3, g4⟩ := D
  refine ⟨?_, g2, pp, mm, gg, g3, e _ _ g4 fun ps z => by cases z⟩
  rcases g1 with (g1 | ⟨og, g1⟩) | g1
  · exact .inl (.inl (e _ _ g1 fun ps z => by cases z))
  · exact .inl (.inr ⟨og, e _ _ g1 fun ps z => by cases z⟩)
  · exact .inr g1
section
open LamX
theorem Tabs.same {T : List (Addr × Str)} {H H' : Hp} (t : Tabs T H) (e : Same H H') : Tabs T H' := t.ext fun b o h => e b o h
theorem Tabs.but {T : List (Addr × Str)} {H H' : Hp} {d : Addr} {xs : List V} (t : Tabs T H) (hd : H d = some (.lst xs)) (e : But d H H') : Tabs T H' := fun p hp => by
  obtain ⟨ps, h1, h2, h3⟩ := t p hp
  refine ⟨ps, e.at hd h1 (fun z => by cases z), h2, fun pos cv hc => ?_⟩
  obtain ⟨c, e1, e2⟩ := h3 pos cv hc
  exact ⟨c, e1, e.at hd e2 (fun z => by unfold CodeO at z; cases z)⟩
end
theorem dp_ref3 {K : PySem.W.Frag} {H : Hp} {p : Addr} {x y : Str} {i : Int} (h : H p = some (.tup [.str x, .str y, .int i])) : Dp K H (.ref p) (.tuple [.str x, .str y, .int i]) := .tup (SqT.of h) (.cons (.str _) (.cons (.str _) (.cons (.int _) .nil)))
theorem sh_ref3 (x y : Str) (i : Int) (hx : PyData.strOk x = true := by decide +kernel) (hy : PyData.strOk y = true := by decide +kernel) : SeqAt.shaped (.tuple [.str x, .str y, .int i]) = true := by simp [hx, hy, SeqAt.shaped, PyData.canLay0, PyData.canLayAll0, PyData.depth, PyData.depthAll]
theorem eqv_ref3 (x y : Str) (i : Int) (hx : PyData.strOk x = true := by decide +kernel) (hy : PyData.strOk y = true := by decide +kernel) : PyData.eqv (.tuple [.str x, .str y, .int i]) (.tuple [.str x, .str y, .int i]) = true := SeqAt.eqv_refl _ (SeqAt.canLay_of_shaped (sh_ref3 x y i hx hy))
/-! ### isinstance of a caught error, count of flat items, fields of a caught error -/
open PySem.W in
def rIsX (K : Frag) (a : Addr) (cls : Value) (d : Option Addr) : List V → Hp → VK → Prop := fun xs H Q => ∃ (D : Addr) (c : V) (cv : Value) (b : Bool), cls = .ref D ∧ ExcC K D ∧ (d = none ∨ ∃ dd fs, d = some dd ∧ H dd = some (.xd fs)) ∧ xs = [.ref a, c] ∧ (∀ u, RelV c u → u = cv) ∧ kitOne K (.ref D) cv = some b ∧ Q (.bl b) H
open PySem.W in
theorem call_isX {X : Cx} {a : Addr} {oe : Obj} {cls : Value} {d : Option Addr} {pn : List (Addr × Obj)} (hz : Zc cls d oe) (hf : ∃ vs, oe.data = .fields vs) : CallR (X.suite a ((a, oe) :: pn)) (.builtin "isinstance") (rIsX X.K a cls d) := by
  intro pins s σ H xs us Q I r h
  obtain ⟨D, c, cv, b, rfl, C, hd, rfl, hcv, e, q⟩ := h
  cases r with
  | cons rx rr =>
    cases rr with
    | cons rt rr =>
      cases rr
      cases rx
      have ec := hcv _ rt
      subst ec
      obtain ⟨hget, _⟩ := I.pin (a, oe) (List.mem_append.mpr (.inl List.mem_cons_self))
      obtain ⟨vs, hv⟩ := hf
      obtain ⟨od, J⟩ : ∃ od, InstAt s.heap a oe D od := by
        rcases hd with rfl | ⟨dd, fs, rfl, hxd⟩
        · exact ⟨none, hget, hz.1, by unfold notCls; rw [hv] <;> rfl, by rw [hz.2]; trivial⟩
        · have hx : ObjOk X.prog X.w H s.heap dd (.xd fs) := I.hok dd _ hxd
          obtain ⟨mA, hns, hr⟩ := hx
          obtain ⟨od, ho, hl⟩ := lookIn_ns hns
          exact ⟨some od, hget, hz.1, by unfold notCls; rw [hv] <;> rfl, by rw [hz.2]; exact ho⟩
      obtain ⟨cdD, hcD, _⟩ := any_some C.hd
      exact kia_one (kitx_exc (by rw [hcD]; rfl) C.hg C.hk C.hs C.ha C.hn C.ht C.hm) I.kIn J e (fun z => nomatch z) fun tk => ⟨.bl b, H, I.kept (t' := tk) fun _ _ z => z, rfl, q⟩
def rCountF (K : PySem.W.Frag) : V → List V → Hp → VK → Prop := fun x xs H Q => ∃ (a : Addr) (ys : List V) (y : V), x = .ref a ∧ xs = [y] ∧ SqL K H a ys ∧ flatV y = true ∧ ys.all flatV = true ∧ Q (.int (ys.countP fun z => eqV z y : Nat)) H
theorem count_eqU {y : V} : ∀ {ys : List V} {us : List Value}, Vals ys us → ys.all flatV = true → us.countP (eqU y) = ys.countP fun z => eqV z y
  | _, _, .nil, _ => rfl
  | z :: ys, u :: us, .cons r t, f => by
    rw [List.all_cons, Bool.and_eq_true] at f
    rw [List.countP_cons, List.countP_cons, count_eqU t f.2, eqU_of r f.1]
theorem mt_countF {X : Cx} : MtR X "list.count" (rCountF X.K) := by
  intro pins s σ H x xs v us Q I rx rxs h
  obtain ⟨a, ys, y, rfl, rfl, hs, fy, fys, q⟩ := h
  cases rx
  cases rxs with
  | cons ry rt =>
    rename_i uy ut
    cases rt
    obtain ⟨its, rv, ⟨⟨cls, dd, data, sl⟩, n, ho, hc, hdn, hd⟩, hlen⟩ := I.list hs
    simp only at hc hd
    subst hc hd
    refine call_meets PySem.F.slot_list_count ⟨_, ho, rfl⟩ PySem.F.entry_list_count (PySem.F.args_list_count_2 _ _)
      (SeqAt.list_countAt a its.toArray n dd sl uy (eqU y)) ⟨ho, fun u' hu' => mem_eqAt ry fy rv fys u' (by simpa using hu'), ?_⟩
    refine ⟨.int (ys.countP fun z => eqV z y : Nat), H, I.tok _, ⟨s.toks, ?_⟩, q⟩
    show Value.int ((its.toArray.toList.countP (eqU y) : Nat) : Int) s.toks = _
    rw [show its.toArray.toList = its from rfl, count_eqU rv fys]
def tXfA (K : PySem.W.Frag) (a : Addr) (cls : Value) (d : Option Addr) (f : Str) (te : TE) : TE := fun σ H Q => te σ H fun x H1 => x = .ref a ∧ ∃ C, cls = .ref C ∧ XfC K C ∧ PySem.W.findIn K (.ref C) f = some none ∧ ∃ (dd : Addr) (fs : List (Str × V)) (v : V), d = some dd ∧ H1 dd = some (.xd fs) ∧ fs.lookup f = some v ∧ Q v H1
section
variable {X : Cx} {a : Addr} {oe : Obj} {pn : List (Addr × Obj)}
theorem pe_xfA {cls : Value} {d : Option Addr} {e : Expr} {te : TE} {pos : Pos} {n : Str}
    (hz : Zc cls d oe) (hf : ∃ vs, oe.data = .fields vs) (he : PE (X.suite a ((a, oe) :: pn)) e te) (hb : attributeBase e n X.env (eval e X.env) = eval e X.env := by rfl) :
    PE (X.suite a ((a, oe) :: pn)) (.Attribute e n pos) (tXfA X.K a cls d n te) := by
  refine ⟨fun pins s σ H Q I h => ?_⟩
  refine attr_of hb (thn (he.run pins s σ H _ I h) fun u s1 hh => ?_)
  obtain ⟨x, H1, I1, rx, ex, C, ec, T, hno, dd, fs, v, ed, ea, l, q⟩ := hh
  subst ex
  obtain rfl : u = Value.ref a := rx
  subst ec
  subst ed
  obtain ⟨ha, _⟩ := I1.pin (a, oe) (List.mem_append_left _ List.mem_cons_self)
  obtain ⟨vs, hd⟩ := hf
  have hx : ObjOk X.prog X.w H1 s1.heap dd (.xd fs) := I1.hok dd _ ea
  obtain ⟨mA, hns, hr⟩ := hx
  obtain ⟨od, ho, hl⟩ := lookIn_ns hns
  obtain ⟨u, hu, ru⟩ := RelO.some_of (v := v) (o := mA n) (by rw [← l]; exact hr n)
  have J : PySem.W.InstAt s1.heap a oe C (some od) := ⟨ha, hz.1, by unfold PySem.W.notCls; rw [hd] <;> rfl, by rw [hz.2]; exact ho⟩
  exact HandSPX.exc_get I1.kIn J T.ga T.gg T.exC (PySem.W.findObj_own T.hdC hno rfl (by rw [hl, hu])) (handed_of ru) ⟨v, H1, I1.tok _, ru, q⟩
theorem mtcS : MtR (X.suite a ((a, oe) :: pn)) "list.count" (rCountF X.K) := mt_countF
theorem mtiS : MtR (X.suite a ((a, oe) :: pn)) "list.index" (rIndex X.K) := mt_index
theorem opinS : OpR (X.suite a ((a, oe) :: pn)) (compareOp .In) (rIn X.K false) := op_in_seq
theorem opcatS : OpR (X.suite a ((a, oe) :: pn)) (binaryOp .Add) (rCatA X.K) := op_catA
theorem ixlS : IxR (X.suite a ((a, oe) :: pn)) (rIxL X.K) := ix_list
theorem pe_bmS {T : String} {name : Str} {id : String} {r : V → List V → Hp → VK → Prop} {o e : Expr} {es : List Expr} {to : TE} {t : TA} {apos cpos : Pos} (pa : PlainAttrs T) (slot : Slot T name id) (hty : typeOf (.builtin id) = pure (.type "method_descriptor")) (hm : MtR (X.suite a ((a, oe) :: pn)) id r)
    (ho : PE (X.suite a ((a, oe) :: pn)) o to) (ha : PA (X.suite a ((a, oe) :: pn)) (e :: es) t)
    (hbase : attributeBase o name X.env (eval o X.env) = eval o X.env := by rfl)
    (hfew : ((backTo cpos (starEach (e :: es) X.env)).all (fun x => !x.1) && (backToKw cpos (keywordEach [] X.env)).all (fun x => x.1.isSome)
      && decide ((e :: es).length + ([] : List Keyword).length + (if ([] : List Keyword).isEmpty then 0 else 1) < 30)) = true := by rfl)
    (hline : (apos.endLine == cpos.line) = true := by rfl)
    (he : starEach (e :: es) X.env = (false, eval e X.env) :: starEach es X.env := by rfl) (hpl : (backTo cpos (starEach es X.env)).any (·.1) = false := by rfl) :
    PE (X.suite a ((a, oe) :: pn)) (.Call (.Attribute o name apos) (e :: es) [] cpos) (tBM X.K T r to t) := pe_bm pa slot hty hm ho ha hbase hfew hline he hpl
end
structure ToldC {K : PySem.W.Frag} {mg : Str → Option Value} (T : All K mg) (C : Addr) (me : Nat) : Prop where
  ec : ExcC K C
  xf : XfC K C
  exm : PySem.W.exmOne K (.ref C) (.ref T.k_PatchError) = some true
  i_BadPatch : PySem.W.kitOne K (.ref C) (.ref T.k_BadPatch) = some (decide (me = 0))
  i_Beyond : PySem.W.kitOne K (.ref C) (.ref T.k_Beyond) = some (decide (me = 1))
  i_BadMeet : PySem.W.kitOne K (.ref C) (.ref T.k_BadMeet) = some (decide (me = 2))
  i_BadCode : PySem.W.kitOne K (.ref C) (.ref T.k_BadCode) = some (decide (me = 3))
  i_BadOrder : PySem.W.kitOne K (.ref C) (.ref T.k_BadOrder) = some (decide (me = 4))
  i_BadEdition : PySem.W.kitOne K (.ref C) (.ref T.k_BadEdition) = some (decide (me = 5))
  i_BadCount : PySem.W.kitOne K (.ref C) (.ref T.k_BadCount) = some (decide (me = 6))
  i_TooMany : PySem.W.kitOne K (.ref C) (.ref T.k_TooMany) = some (decide (me = 7))
  i_BadPieces : PySem.W.kitOne K (.ref C) (.ref T.k_BadPieces) = some (decide (me = 8))
  i_BadMarks : PySem.W.kitOne K (.ref C) (.ref T.k_BadMarks) = some (decide (me = 9))
  i_Underway : PySem.W.kitOne K (.ref C) (.ref T.k_Underway) = some (decide (me = 10))
  i_Asleep : PySem.W.kitOne K (.ref C) (.ref T.k_Asleep) = some (decide (me = 11))
  i_Awake : PySem.W.kitOne K (.ref C) (.ref T.k_Awake) = some (decide (me = 12))
  i_BadCell : PySem.W.kitOne K (.ref C) (.ref T.k_BadCell) = some (decide (me = 13))
def nameOf : Nat → Str
  | 0 => "BadPatch"
  | 1 => "Beyond"
  | 2 => "BadMeet"
  | 3 => "BadCode"
  | 4 => "BadOrder"
  | 5 => "BadEdition"
  | 6 => "BadCount"
  | 7 => "TooMany"
  | 8 => "BadPieces"
  | 9 => "BadMarks"
  | 10 => "Underway"
  | 11 => "Asleep"
  | 12 => "Awake"
  | _ => "BadCell"
def fieldOf : Nat → Option Str
  | 0 => some "piece"
  | 1 => some "piece"
  | 2 => some "number"
  | 3 => some "place"
  | 4 => some "number"
  | _ => none
abbrev sorts (j : Nat) (a n : Nat) : List V := (List.range' a n).map fun k => V.bl (decide (j = k))
abbrev termsL : List V := [V.str "BadPatch", V.str "Beyond", V.str "BadMeet", V.str "BadCode", V.str "BadOrder", V.str "BadEdition", V.str "BadCount", V.str "TooMany", V.str "BadPieces", V.str "BadMarks", V.str "Underway", V.str "Asleep", V.str "Awake", V.str "BadCell"]
theorem fieldOf_some : ∀ {j : Nat} {f : Str}, fieldOf j = some f → (j = 0 ∧ f = "piece") ∨ (j = 1 ∧ f = "piece") ∨ (j = 2 ∧ f = "number") ∨ (j = 4 ∧ f = "number") ∨ (j = 3 ∧ f = "place")
  | 0, _, h => by cases h; exact .inl ⟨rfl, rfl⟩
  | 1, _, h => by cases h; exact .inr (.inl ⟨rfl, rfl⟩)
  | 2, _, h => by cases h; exact .inr (.inr (.inl ⟨rfl, rfl⟩))
  | 3, _, h => by cases h; exact .inr (.inr (.inr (.inr ⟨rfl, rfl⟩)))
  | 4, _, h => by cases h; exact .inr (.inr (.inr (.inl ⟨rfl, rfl⟩)))
  | _ + 5, _, h => by cases h
theorem fieldOf_none : ∀ {j : Nat}, fieldOf j = none → 5 ≤ j
  | 0, h => by cases h
  | 1, h => by cases h
  | 2, h => by cases h
  | 3, h => by cases h
  | 4, h => by cases h
  | _ + 5, _ => by omega
theorem sorts_at {j m : Nat} {z : V} (h : (sorts j 0 14)[m]? = some z) : z = V.bl (decide (j = m)) := by
  unfold sorts at h
  rw [List.getElem?_map] at h
  cases e : (List.range' 0 14)[m]? with
  | none => rw [e] at h; cases h
  | some k =>
    rw [e] at h
    obtain ⟨hm, hk⟩ := List.getElem?_eq_some_iff.mp e
    rw [List.getElem_range'] at hk
    have : k = m := by omega
    subst this
    exact (Option.some.inj h).symm
theorem sorts_some {j : Nat} (h : j < 14) : (sorts j 0 14)[j]? = some (V.bl true) := by
  unfold sorts
  rw [List.getElem?_map, List.getElem?_eq_getElem (by rw [List.length_range']; exact h), List.getElem_range']
  show some (V.bl (decide (j = 0 + 1 * j))) = _
  rw [show decide (j = 0 + 1 * j) = true from decide_eq_true (by omega)]
theorem eqV_fls : eqV (.bl false) (.bl true) = false := rfl
theorem eqV_tru : eqV (.bl true) (.bl true) = true := rfl
theorem sorts_not {j m : Nat} {z : V} (hm : m < j) (h : (sorts j 0 14)[m]? = some z) : eqV z (.bl true) = false := by
  rw [sorts_at h, show decide (j = m) = false from decide_eq_false (by omega)]
  exact eqV_fls
theorem sorts_count : ∀ {j : Nat}, j < 14 → (sorts j 0 14).countP (fun z => eqV z (.bl true)) = 1 := by decide
theorem terms_at : ∀ {j : Nat}, j < 14 → termsL[j]? = some (.str (nameOf j))
  | 0, _ => rfl | 1, _ => rfl | 2, _ => rfl | 3, _ => rfl | 4, _ => rfl | 5, _ => rfl | 6, _ => rfl | 7, _ => rfl | 8, _ => rfl | 9, _ => rfl | 10, _ => rfl | 11, _ => rfl | 12, _ => rfl | 13, _ => rfl
  | _ + 14, h => absurd h (by omega)
/-- what the law is told of a refusal -/
def TellR {K : PySem.W.Frag} {mg : Str → Option Value} (T : All K mg) (cls : Value) (d : Option Addr) (H' : Hp) (Q : VK) : Prop :=
  ∃ (j : Nat) (C : Addr), cls = .ref C ∧ j < 14 ∧ ToldC T C j ∧
    ((∃ (f : Str) (dd : Addr) (i : Int), fieldOf j = some f ∧ PySem.W.findIn K (.ref C) f = some none ∧ d = some dd ∧ H' dd = some (.xd [(f, .int i)]) ∧
        ∀ H'' p, Same H' H'' → H' p = none → H'' p = some (.tup [.str "refused", .str (nameOf j), .int i]) → Q (.ref p) H'') ∨
      (fieldOf j = none ∧ d = none ∧ ∀ H'' p, Same H' H'' → H' p = none → H'' p = some (.tup [.str "refused", .str (nameOf j)]) → Q (.ref p) H''))
def TToldG {K : PySem.W.Frag} {mg : Str → Option Value} (T : All K mg) : (XK → Hp → VK → Prop) → Hp → VK → Prop := fun tl H Q => tl (fun cls d H' => TellR T cls d H' Q) H Q
theorem takes_len {X : Cx} {W : WX} (tk : Takes X W) : Takes X (fun cls d σ H => σ.length = X.N.length → W cls d σ H) := fun u s' ⟨a, B, sI, pins, σ, H, cls, d, e, I, nb, up, sky, na, os, ag, w⟩ =>
  tk u s' ⟨a, B, sI, pins, σ, H, cls, d, e, I, nb, up, sky, na, os, ag, w I.len⟩
theorem told_g {X : Cx} {g : Addr} {cdg : Value} {q : Str} (T : All X.K X.mg) :
    LamX.GivesTo X ["_law_work", "e", "_law_some", "_law_terms", "_law_term"] "_law_told" (defScope s_law_told) g cdg (defBody s_law_told) "_law_work" q (TToldG T) := by
  intro f c' s H Q tl act hc h
  refine ⟨_, pss_one (ps_try_as (X := (cxOf C8.CX0 X.prog X.w X.K X.mg X.base ["_law_work", "e", "_law_some", "_law_terms", "_law_term"] "_law_told" (defScope s_law_told) g cdg X.A X.stack s H C8.E0).nox) (i := 1) (c := .ref T.k_PatchError)
      (tb := fun W D σ H => ∃ Ech : XK, (∀ cls d σ' H', Ech cls d H' → σ'.length = 5 → W cls d σ' H') ∧ σ[0]? = some (some (.ref f)) ∧ H c' = some (LamX.CodeO c' q) ∧ tl Ech H D.rt)
      rfl rfl sc_law_told.nd rfl rfl ⟨rfl, by decide, .inl T.m_PatchError⟩ LamX.takes0 (fun W pn xe tk _ => ?_) (fun a oe cls d pn hz hf => (pss_cons 
      (ps_set (i := 2) sc_law_told.nd rfl (Or.inl rfl) (pe_lst (pa_cons (pe_callB (call_isX hz hf) (by rfl) T.b_isinstance (by decide +kernel) (pa_cons (pv 1) (pa_cons (pe_glob (v := .ref T.k_BadPatch) rfl T.m_BadPatch rfl) pa_nil))) (pa_cons (pe_callB (call_isX hz hf) (by rfl) T.b_isinstance (by decide +kernel) (pa_cons (pv 1) (pa_cons (pe_glob (v := .ref T.k_Beyond) rfl T.m_Beyond rfl) pa_nil))) (pa_cons (pe_callB (call_isX hz hf) (by rfl) T.b_isinstance (by decide +kernel) (pa_cons (pv 1) (pa_cons (pe_glob (v := .ref T.k_BadMeet) rfl T.m_BadMeet rfl) pa_nil))) (pa_cons (pe_callB (call_isX hz hf) (by rfl) T.b_isinstance (by decide +kernel) (pa_cons (pv 1) (pa_cons (pe_glob (v := .ref T.k_BadCode) rfl T.m_BadCode rfl) pa_nil))) pa_nil)))))) (pss_cons 
      (ps_set (i := 2) sc_law_told.nd rfl (Or.inl rfl) (pe_op op_cat (pv 2) (pe_lst (pa_cons (pe_callB (call_isX hz hf) (by rfl) T.b_isinstance (by decide +kernel) (pa_cons (pv 1) (pa_cons (pe_glob (v := .ref T.k_BadOrder) rfl T.m_BadOrder rfl) pa_nil))) (pa_cons (pe_callB (call_isX hz hf) (by rfl) T.b_isinstance (by decide +kernel) (pa_cons (pv 1) (pa_cons (pe_glob (v := .ref T.k_BadEdition) rfl T.m_BadEdition rfl) pa_nil))) (pa_cons (pe_callB (call_isX hz hf) (by rfl) T.b_isinstance (by decide +kernel) (pa_cons (pv 1) (pa_cons (pe_glob (v := .ref T.k_BadCount) rfl T.m_BadCount rfl) pa_nil))) pa_nil)))))) (pss_cons 
      (ps_set (i := 2) sc_law_told.nd rfl (Or.inl rfl) (pe_op op_cat (pv 2) (pe_lst (pa_cons (pe_callB (call_isX hz hf) (by rfl) T.b_isinstance (by decide +kernel) (pa_cons (pv 1) (pa_cons (pe_glob (v := .ref T.k_TooMany) rfl T.m_TooMany rfl) pa_nil))) (pa_cons (pe_callB (call_isX hz hf) (by rfl) T.b_isinstance (by decide +kernel) (pa_cons (pv 1) (pa_cons (pe_glob (v := .ref T.k_BadPieces) rfl T.m_BadPieces rfl) pa_nil))) (pa_cons (pe_callB (call_isX hz hf) (by rfl) T.b_isinstance (by decide +kernel) (pa_cons (pv 1) (pa_cons (pe_glob (v := .ref T.k_BadMarks) rfl T.m_BadMarks rfl) pa_nil))) pa_nil)))))) (pss_cons 
      (ps_set (i := 2) sc_law_told.nd rfl (Or.inl rfl) (pe_op op_cat (pv 2) (pe_lst (pa_cons (pe_callB (call_isX hz hf) (by rfl) T.b_isinstance (by decide +kernel) (pa_cons (pv 1) (pa_cons (pe_glob (v := .ref T.k_Underway) rfl T.m_Underway rfl) pa_nil))) (pa_cons (pe_callB (call_isX hz hf) (by rfl) T.b_isinstance (by decide +kernel) (pa_cons (pv 1) (pa_cons (pe_glob (v := .ref T.k_Asleep) rfl T.m_Asleep rfl) pa_nil))) (pa_cons (pe_callB (call_isX hz hf) (by rfl) T.b_isinstance (by decide +kernel) (pa_cons (pv 1) (pa_cons (pe_glob (v := .ref T.k_Awake) rfl T.m_Awake rfl) pa_nil))) (pa_cons (pe_callB (call_isX hz hf) (by rfl) T.b_isinstance (by decide +kernel) (pa_cons (pv 1) (pa_cons (pe_glob (v := .ref T.k_BadCell) rfl T.m_BadCell rfl) pa_nil))) pa_nil))))))) (pss_cons 
      (ps_set (i := 3) sc_law_told.nd rfl (Or.inl rfl) (pe_lst (pa_cons pe_str (pa_cons pe_str (pa_cons pe_str (pa_cons pe_str (pa_cons pe_str (pa_cons pe_str (pa_cons pe_str (pa_cons pe_str pa_nil)))))))))) (pss_cons 
      (ps_set (i := 3) sc_law_told.nd rfl (Or.inl rfl) (pe_op op_cat (pv 3) (pe_lst (pa_cons pe_str (pa_cons pe_str (pa_cons pe_str (pa_cons pe_str (pa_cons pe_str (pa_cons pe_str pa_nil))))))))) (pss_cons 
      (ps_set (i := 4) sc_law_told.nd rfl (Or.inl rfl) (pe_ifExp (pt_cmpR op_eq (pe_bmS PySem.F.plainAttrs_list PySem.F.slot_list_count PySem.F.type_list_count mtcS (pv 2) (pa_cons pe_bl pa_nil)) pe_int (nomark _)) (pe_ix ixlS (pv 3) (pe_bmS PySem.F.plainAttrs_list PySem.F.slot_list_index PySem.F.type_list_index mtiS (pv 2) (pa_cons pe_bl pa_nil)) (fun _ _ => rfl)) pe_str)) (pss_cons 
      (ps_if (pt_cmpR opinS (pv 4) (pe_tup (pa_cons pe_str (pa_cons pe_str pa_nil))) (by with_unfolding_all rfl)) (pss_one 
      (ps_ret (pe_tup (pa_cons pe_str (pa_cons (pv 4) (pa_cons (pe_xfA hz hf (pv 1)) pa_nil)))))) pss_nil) (pss_cons 
      (ps_if (pt_cmpR opinS (pv 4) (pe_tup (pa_cons pe_str (pa_cons pe_str pa_nil))) (by with_unfolding_all rfl)) (pss_one 
      (ps_ret (pe_tup (pa_cons pe_str (pa_cons (pv 4) (pa_cons (pe_xfA hz hf (pv 1)) pa_nil)))))) pss_nil) (pss_one 
      (ps_ret (pe_op opcatS (pe_tup (pa_cons pe_str (pa_cons (pv 4) pa_nil))) (pe_ifExp (pt_cmpR op_eq (pv 4) pe_str (nomark _)) (pe_tup (pa_cons (pe_xfA hz hf (pv 1)) pa_nil)) (pe_tup pa_nil)))))))))))))))), ?_⟩
  · refine ⟨fun pins s' σ H' D I h' => ?_⟩
    obtain ⟨Ech, hW, h1, h2, h3⟩ := h'
    exact (pss_one (ps_ret (act _ pn xe Ech _ _ (takes_len tk) fun cls d σ' H' h hl => hW cls d σ' H' h hl))).run pins s' σ H' D I ⟨h1, h2, h3⟩
  · refine ⟨_, fun cls d σ' H' h hl => ?_, rfl, hc, h⟩
    obtain ⟨j, C, rfl, hj, TC, hk⟩ := h
    refine ⟨true, TC.exm, fun _ a0 ha0 => ?_, fun q => Bool.noConfusion q⟩
    obtain ⟨x0, x1, x2, x3, x4, rfl⟩ : ∃ x0 x1 x2 x3 x4, σ' = [x0, x1, x2, x3, x4] := by
      match σ', hl with
      | [x0, x1, x2, x3, x4], _ => exact ⟨_, _, _, _, _, rfl⟩
    have hd : ∀ H2, Same H' H2 → d = none ∨ ∃ dd fs, d = some dd ∧ H2 dd = some (.xd fs) := fun H2 s2 => by
      rcases hk with ⟨f, dd, i, _, _, e, hxd, _⟩ | ⟨_, e, _⟩
      · exact .inr ⟨dd, _, e, s2 _ _ hxd⟩
      · exact .inl e
    have s0 := Same.refl H'
    refine ⟨_, rfl, C, _, _, _, rfl, TC.ec, hd _ s0, rfl, fun u hu => hu, TC.i_BadPatch, _, rfl, C, _, _, _, rfl, TC.ec, hd _ s0, rfl, fun u hu => hu, TC.i_Beyond, _, rfl, C, _, _, _, rfl, TC.ec, hd _ s0, rfl, fun u hu => hu, TC.i_BadMeet, _, rfl, C, _, _, _, rfl, TC.ec, hd _ s0, rfl, fun u hu => hu, TC.i_BadCode, sizeS (by show 4 ≤ 100000; decide), fun l1 hl1 => ?_⟩
    have t1 := s0.trans (Same.new (o := .lst (sorts j 0 4)) hl1)
    refine ⟨_, rfl, _, rfl, C, _, _, _, rfl, TC.ec, hd _ t1, rfl, fun u hu => hu, TC.i_BadOrder, _, rfl, C, _, _, _, rfl, TC.ec, hd _ t1, rfl, fun u hu => hu, TC.i_BadEdition, _, rfl, C, _, _, _, rfl, TC.ec, hd _ t1, rfl, fun u hu => hu, TC.i_BadCount, sizeS (by show 3 ≤ 100000; decide), fun k2 hk2 => ⟨l1, k2, _, _, rfl, rfl, Same.new hk2 _ _ upd_same, upd_same, sizeS (by show 4 + 3 ≤ 100000; decide), fun l2 hl2 => ?_⟩⟩
    have t2 := (t1.trans (Same.new (o := .lst (sorts j 4 3)) hk2)).trans (Same.new (o := .lst (sorts j 0 7)) hl2)
    refine ⟨_, rfl, _, rfl, C, _, _, _, rfl, TC.ec, hd _ t2, rfl, fun u hu => hu, TC.i_TooMany, _, rfl, C, _, _, _, rfl, TC.ec, hd _ t2, rfl, fun u hu => hu, TC.i_BadPieces, _, rfl, C, _, _, _, rfl, TC.ec, hd _ t2, rfl, fun u hu => hu, TC.i_BadMarks, sizeS (by show 3 ≤ 100000; decide), fun k3 hk3 => ⟨l2, k3, _, _, rfl, rfl, Same.new hk3 _ _ upd_same, upd_same, sizeS (by show 7 + 3 ≤ 100000; decide), fun l3 hl3 => ?_⟩⟩
    have t3 := (t2.trans (Same.new (o := .lst (sorts j 7 3)) hk3)).trans (Same.new (o := .lst (sorts j 0 10)) hl3)
    refine ⟨_, rfl, _, rfl, C, _, _, _, rfl, TC.ec, hd _ t3, rfl, fun u hu => hu, TC.i_Underway, _, rfl, C, _, _, _, rfl, TC.ec, hd _ t3, rfl, fun u hu => hu, TC.i_Asleep, _, rfl, C, _, _, _, rfl, TC.ec, hd _ t3, rfl, fun u hu => hu, TC.i_Awake, _, rfl, C, _, _, _, rfl, TC.ec, hd _ t3, rfl, fun u hu => hu, TC.i_BadCell, sizeS (by show 4 ≤ 100000; decide), fun k4 hk4 => ⟨l3, k4, _, _, rfl, rfl, Same.new hk4 _ _ upd_same, upd_same, sizeS (by show 10 + 4 ≤ 100000; decide), fun l4 hl4 => ?_⟩⟩
    have t4 := (t3.trans (Same.new (o := .lst (sorts j 10 4)) hk4)).trans (Same.new (o := .lst (sorts j 0 14)) hl4)
    refine ⟨sizeS (by show 8 ≤ 100000; decide), fun m1 hm1 => ?_⟩
    refine ⟨_, rfl, sizeS (by show 6 ≤ 100000; decide), fun m2 hm2 => ⟨m1, m2, _, _, rfl, rfl, Same.new hm2 _ _ upd_same, upd_same, sizeS (by show 8 + 6 ≤ 100000; decide), fun m3 hm3 => ?_⟩⟩
    have u1 := (Same.new hm1 (o := .lst [V.str "BadPatch", V.str "Beyond", V.str "BadMeet", V.str "BadCode", V.str "BadOrder", V.str "BadEdition", V.str "BadCount", V.str "TooMany"])).trans ((Same.new hm2 (o := .lst [V.str "BadPieces", V.str "BadMarks", V.str "Underway", V.str "Asleep", V.str "Awake", V.str "BadCell"])).trans (Same.new hm3 (o := .lst termsL)))
    have hl4' := u1 _ _ (upd_same (a := l4) (o := HO.lst (sorts j 0 14)))
    refine ⟨_, rfl, .inl ⟨rfl, _, SqL.of hl4'⟩, l4, sorts j 0 14, _, rfl, rfl, SqL.of hl4', rfl, rfl, rfl, _, rfl, ite2 (fun _ => ?_) fun h => absurd (decide_eq_true (congrArg (fun n : Nat => V.int (n : Int)) (sorts_count hj))) h⟩
    refine ⟨_, rfl, _, rfl, .inl ⟨rfl, _, SqL.of hl4'⟩, l4, sorts j 0 14, _, j, V.bl true, rfl, rfl, SqL.of hl4', rfl, rfl, sorts_some hj, rfl, fun m z hm hz => sorts_not hm hz, m3, termsL, _, _, rfl, rfl, SqL.of upd_same, at_of (j := j) rfl (terms_at hj), ?_⟩
    have u2 := t4.trans u1
    rcases hk with ⟨f, dd, i, hf, hno, rfl, hxd, k⟩ | ⟨hf, rfl, k⟩
    · rcases fieldOf_some hf with ⟨rfl, rfl⟩ | ⟨rfl, rfl⟩ | ⟨rfl, rfl⟩ | ⟨rfl, rfl⟩ | ⟨rfl, rfl⟩
      · refine ⟨_, rfl, sizeS (by show 2 ≤ 100000; decide), fun tp htp => ⟨tp, _, rfl, .inr (SqT.of upd_same), rfl, rfl, _, rfl, ite2 (fun _ => ?_) fun h => absurd (by decide) h⟩⟩
        have u3 := u2.trans (Same.new htp (o := .tup [V.str "BadPatch", V.str "Beyond"]))
        refine ⟨_, rfl, _, rfl, rfl, C, rfl, TC.xf, hno, dd, _, _, rfl, u3 _ _ hxd, rfl, sizeS (by show 3 ≤ 100000; decide), fun p hp => ?_⟩
        exact k _ p (u3.trans (Same.new hp)) (Same.free u3 hp) upd_same
      · refine ⟨_, rfl, sizeS (by show 2 ≤ 100000; decide), fun tp htp => ⟨tp, _, rfl, .inr (SqT.of upd_same), rfl, rfl, _, rfl, ite2 (fun _ => ?_) fun h => absurd (by decide) h⟩⟩
        have u3 := u2.trans (Same.new htp (o := .tup [V.str "BadPatch", V.str "Beyond"]))
        refine ⟨_, rfl, _, rfl, rfl, C, rfl, TC.xf, hno, dd, _, _, rfl, u3 _ _ hxd, rfl, sizeS (by show 3 ≤ 100000; decide), fun p hp => ?_⟩
        exact k _ p (u3.trans (Same.new hp)) (Same.free u3 hp) upd_same
      · refine ⟨_, rfl, sizeS (by show 2 ≤ 100000; decide), fun tp htp => ⟨tp, _, rfl, .inr (SqT.of upd_same), rfl, rfl, _, rfl, ite2 (fun h => absurd h (by decide)) fun _ => ?_⟩⟩
        have u3 := u2.trans (Same.new htp (o := .tup [V.str "BadPatch", V.str "Beyond"]))
        refine ⟨_, rfl, sizeS (by show 2 ≤ 100000; decide), fun tq htq => ⟨tq, _, rfl, .inr (SqT.of upd_same), rfl, rfl, _, rfl, ite2 (fun _ => ?_) fun h => absurd (by decide) h⟩⟩
        have u4 := u3.trans (Same.new htq (o := .tup [V.str "BadMeet", V.str "BadOrder"]))
        refine ⟨_, rfl, _, rfl, rfl, C, rfl, TC.xf, hno, dd, _, _, rfl, u4 _ _ hxd, rfl, sizeS (by show 3 ≤ 100000; decide), fun p hp => ?_⟩
        exact k _ p (u4.trans (Same.new hp)) (Same.free u4 hp) upd_same
      · refine ⟨_, rfl, sizeS (by show 2 ≤ 100000; decide), fun tp htp => ⟨tp, _, rfl, .inr (SqT.of upd_same), rfl, rfl, _, rfl, ite2 (fun h => absurd h (by decide)) fun _ => ?_⟩⟩
        have u3 := u2.trans (Same.new htp (o := .tup [V.str "BadPatch", V.str "Beyond"]))
        refine ⟨_, rfl, sizeS (by show 2 ≤ 100000; decide), fun tq htq => ⟨tq, _, rfl, .inr (SqT.of upd_same), rfl, rfl, _, rfl, ite2 (fun _ => ?_) fun h => absurd (by decide) h⟩⟩
        have u4 := u3.trans (Same.new htq (o := .tup [V.str "BadMeet", V.str "BadOrder"]))
        refine ⟨_, rfl, _, rfl, rfl, C, rfl, TC.xf, hno, dd, _, _, rfl, u4 _ _ hxd, rfl, sizeS (by show 3 ≤ 100000; decide), fun p hp => ?_⟩
        exact k _ p (u4.trans (Same.new hp)) (Same.free u4 hp) upd_same
      · refine ⟨_, rfl, sizeS (by show 2 ≤ 100000; decide), fun tp htp => ⟨tp, _, rfl, .inr (SqT.of upd_same), rfl, rfl, _, rfl, ite2 (fun h => absurd h (by decide)) fun _ => ?_⟩⟩
        have u3 := u2.trans (Same.new htp (o := .tup [V.str "BadPatch", V.str "Beyond"]))
        refine ⟨_, rfl, sizeS (by show 2 ≤ 100000; decide), fun tq htq => ⟨tq, _, rfl, .inr (SqT.of upd_same), rfl, rfl, _, rfl, ite2 (fun h => absurd h (by decide)) fun _ => ?_⟩⟩
        have u4 := u3.trans (Same.new htq (o := .tup [V.str "BadMeet", V.str "BadOrder"]))
        refine ⟨_, rfl, sizeS (by show 2 ≤ 100000; decide), fun p hp => ?_⟩
        have u5 := u4.trans (Same.new hp (o := .tup [V.str "refused", V.str "BadCode"]))
        refine ⟨_, rfl, rfl, _, rfl, ite2 (fun _ => ?_) fun h => absurd (by decide) h⟩
        refine ⟨_, rfl, rfl, C, rfl, TC.xf, hno, dd, _, _, rfl, u5 _ _ hxd, rfl, sizeS (by show 1 ≤ 100000; decide), fun pz hpz => ?_⟩
        refine ⟨p, pz, _, _, rfl, rfl, SqT.of (Same.new hpz _ _ upd_same), SqT.of upd_same, sizeS (by show 2 + 1 ≤ 100000; decide), fun h => absurd h (by simp), fun _ h => absurd h (by simp), fun _ _ y hy => ?_⟩
        have u6 := u5.trans (Same.new hpz (o := .tup [V.int i]))
        exact k _ y (u6.trans (Same.new hy)) (Same.free u6 hy) upd_same
    · have h5 := fieldOf_none hf
      have h14 : j = 5 ∨ j = 6 ∨ j = 7 ∨ j = 8 ∨ j = 9 ∨ j = 10 ∨ j = 11 ∨ j = 12 ∨ j = 13 := by omega
      rcases h14 with rfl | rfl | rfl | rfl | rfl | rfl | rfl | rfl | rfl
      all_goals
        refine ⟨_, rfl, sizeS (by show 2 ≤ 100000; decide), fun tp htp => ⟨tp, _, rfl, .inr (SqT.of upd_same), rfl, rfl, _, rfl, ite2 (fun h => absurd h (by decide)) fun _ => ?_⟩⟩
        have u3 := u2.trans (Same.new htp (o := .tup [V.str "BadPatch", V.str "Beyond"]))
        refine ⟨_, rfl, sizeS (by show 2 ≤ 100000; decide), fun tq htq => ⟨tq, _, rfl, .inr (SqT.of upd_same), rfl, rfl, _, rfl, ite2 (fun h => absurd h (by decide)) fun _ => ?_⟩⟩
        have u4 := u3.trans (Same.new htq (o := .tup [V.str "BadMeet", V.str "BadOrder"]))
        refine ⟨_, rfl, sizeS (by show 2 ≤ 100000; decide), fun p hp => ?_⟩
        refine ⟨_, rfl, rfl, _, rfl, ite2 (fun h => absurd h (by decide)) fun _ => ?_⟩
        refine ⟨sizeS (by show 0 ≤ 100000; decide), fun pz hpz => ⟨p, pz, _, _, rfl, rfl, SqT.of (Same.new hpz _ _ upd_same), SqT.of upd_same, sizeS (by show 2 + 0 ≤ 100000; decide), fun h => absurd h (by simp), fun _ _ => ?_, fun _ h => absurd rfl h⟩⟩
        exact k _ p ((u4.trans (Same.new hp)).trans (Same.new hpz)) (Same.free u4 hp) (Same.new hpz _ _ upd_same)
def lamQ : Str := ("law" : Str) ++ ".<locals>." ++ "<lambda>"
def spLawT (K : PySem.W.Frag) (PL : Addr) : Sp := fun vs H Q _ => ∃ (a : Addr) (ns : List Int), vs = [.ref a] ∧ SqL K H a (ns.map V.int) ∧ ns.length ≤ 63 ∧ H PL = some (.tbl #[]) ∧ ∀ H', Q (.bl true) H'
/-! ### a lambda of one parameter with a default, that captures names of its def, handed to a def -/
section
open LamX PySem.W
structure LamSD (sc scope : Scope) (la : Str) : Prop where
  kind : scope.kind = .function
  co : scope.isCoroutine = false
  gen : scope.isGenerator = false
  own : ∀ y ∈ scope.names, y.2 ≠ .cell ∧ (y.2 = .local → y.1 = la)
  free : ∀ y ∈ scope.names, y.2 = .free → sc.names.lookup y.1 = some .cell ∨ sc.names.lookup y.1 = some .free
  par : scope.names.lookup la = some .local
def lamSDB (sc scope : Scope) (la : Str) : Bool :=
  decide (scope.kind = .function) && !scope.isCoroutine && !scope.isGenerator && (scope.names.all fun y => !decide (y.2 = .cell) && (!decide (y.2 = .local) || decide (y.1 = la)) && (!decide (y.2 = .free) || decide (sc.names.lookup y.1 = some .cell) || decide (sc.names.lookup y.1 = some .free))) && decide (scope.names.lookup la = some .local)
theorem lamSD_by {sc scope : Scope} {la : Str} (h : lamSDB sc scope la = true) : LamSD sc scope la := by
  unfold lamSDB at h
  simp only [Bool.and_eq_true, Bool.or_eq_true, Bool.not_eq_true', decide_eq_true_eq, decide_eq_false_iff_not, List.all_eq_true] at h
  obtain ⟨⟨⟨⟨h1, h2⟩, h3⟩, h4⟩, h5⟩ := h
  refine ⟨h1, h2, h3, fun y hy => ⟨(h4 y hy).1.1, fun e => ?_⟩, fun y hy e => ?_, h5⟩
  · rcases (h4 y hy).1.2 with z | z
    · exact absurd e z
    · exact z
  · rcases (h4 y hy).2 with (z | z) | z
    · exact absurd e z
    · exact .inl z
    · exact .inr z
theorem LamSD.has {X : Cx} {scope : Scope} {la : Str} (L : LamSD X.env.scope scope la) (ok : X.Ok) : ∀ y ∈ scope.names, y.2 = .free → ∃ c, X.env.cells.lookup y.1 = some c := fun y hy e => by
  rcases L.free y hy e with k | k
  · exact ok.has _ (.inl k)
  · exact ok.has _ (.inr k)
variable {X : Cx} {pins : List (Addr × Obj)} {σ : L2.St} {H HZ : Hp} {s s1 : Shared}
theorem lam_startD {A : Around} {outer : List Env} {E : XK} {scope : Scope} {la : Str} {f c' : Addr} {h₁ : Heap} {tk : Nat} {bi : List (Str × Value)} (I : Inv X pins σ H s) (L : LamSD X.env.scope scope la) (hla : la ∉ X.N) (e0 : Env0 X.prog X.w X.K X.mg X.base A outer s1 HZ) (hd : A.handled = none)
    (un : Un (frs X.stack) [] H HZ s.heap s1.heap) (hns : h₁.Ns s1.heap.objs.size fun y => bi.reverse.lookup y) (kp : ∀ b o, s1.heap.get? b = some o → h₁.get? b = some o) :
    Inv (lamCx X A outer s1 HZ E scope f c') [] σ HZ { s1 with heap := h₁, toks := tk } := by
  have hfree := L.has I.ok
  have cm : ∀ {y c}, (cloFrom X.env.cells scope.names []).lookup y = some c → X.env.cells.lookup y = some c := fun {y c} e => by
    rcases cloFrom_mem (PySem.mem_of_lookup e) with hm | ⟨h1, h2⟩
    · cases hm
    · obtain ⟨c1, hc⟩ := hfree _ h1 rfl
      have hc : X.env.cells.lookup y = some c1 := hc
      have e2 : c = c1 := by
        rw [h2, hc] <;> rfl
      rw [e2]
      exact hc
  have look : ∀ {y}, scope.names.lookup y = some .free → ∃ c, (cloFrom X.env.cells scope.names []).lookup y = some c := fun {y} hl => by
    have hy : (y, NameKind.free) ∈ scope.names := PySem.mem_of_lookup hl
    exact mem_lookup (cloFrom_has (cells := X.env.cells) (acc := []) hy)
  have cellK : ∀ {c : Addr} {v : Option Value}, H c = none → s.heap.IsCell c v → h₁.IsCell c v := fun {c v} n ⟨o, ho, hd⟩ => by
    obtain ⟨sl, q⟩ := un.any ho n (by simp)
    exact ⟨_, kp _ _ q, hd⟩
  have noA : ∀ b : Addr, b ∉ (lamCx X A outer s1 HZ E scope f c').ex := fun b z => absurd (show b ∈ ([] : List Addr) from z) (by simp)
  refine ⟨⟨e0.mod, L.kind, rfl, rfl, Nat.le_refl _, fun y z c e1 e2 => I.ok.inj y z c (cm e1) (cm e2), fun y hy => ?_, fun y c z _ => ?_, fun _ => hd, Around.frames_deeper e0.frames, .inr ⟨rfl, rfl⟩, fun b z => absurd z (noA b), e0.bs, e0.bsz, fun b _ _ => noA b,
      fun b z => absurd z (noA b), e0.funs, e0.frf⟩,
    rfl, e0.bare, Un.kept kp, ⟨_, hns, fun i y v e1 e2 e3 => ?_⟩, fun y c e => ?_, e0.hok.fresh (Nat.le_refl _), fun y c e => ?_, fun q hq => absurd (show q ∈ ([] : List (Addr × Obj)) ++ [] from hq) (by simp), e0.hok.kept kp, I.len⟩
  · have hy : scope.names.lookup y = some .cell ∨ scope.names.lookup y = some .free := hy
    rcases hy with hy | hy
    · exact absurd rfl (L.own _ (PySem.mem_of_lookup hy)).1
    · exact look hy
  · have z : false = true := z
    cases z
  · have e3 : Vis scope y := e3
    have e1 : X.N[i]? = some y := e1
    rcases e3 with k | k | k
    · have z := (L.own _ (PySem.mem_of_lookup k)).2 rfl
      have z : y = la := z
      rw [z] at e1
      exact absurd (List.mem_of_getElem? e1) hla
    · exact absurd rfl (L.own _ (PySem.mem_of_lookup k)).1
    · obtain ⟨m, hn, hl⟩ := I.loc
      have hvis : Vis X.env.scope y := (L.free _ (PySem.mem_of_lookup k) rfl).elim (fun k => .inr (.inl k)) (fun k => .inr (.inr k))
      obtain ⟨w', r, q⟩ := hl i y v e1 e2 hvis
      obtain ⟨c2, h2⟩ := look k
      refine ⟨w', r, .inr ⟨.inr k, c2, h2, ?_⟩⟩
      have c1 := cm h2
      rcases q with ⟨k', _⟩ | ⟨_, c3, e', z⟩
      · have k' : X.env.scope.names.lookup y = some .local := k'
        rcases L.free _ (PySem.mem_of_lookup k) rfl with k2 | k2 <;> rw [show X.env.scope.names.lookup y = _ from k2] at k' <;> cases k'
      · rw [c1] at e'
        cases e'
        exact cellK (I.freeC y _ c1) z
  · obtain ⟨w', z⟩ := I.cell y c (cm e)
    exact ⟨w', cellK (I.freeC y c (cm e)) z⟩
  · obtain ⟨v, o, ho, hd⟩ := I.cell y c (cm e)
    exact un.free c o ho (I.freeC y c (cm e)) (by simp)
theorem lamdc_make {T : List (Addr × Str)} {c P : Addr} {params : Arguments} {body : Expr} {scope : Scope} {pos p0 : Pos} {k0 : Nat} {E : Value → Shared → Prop} {Q : Value → Shared → Prop} {i : Int} (I : Inv X pins σ H s) (TB : TabB X.base X.mg c P) (hcode : X.env.code = .ref c)
    (hm : (P, X.env.qual ++ "<lambda>") ∈ T) (hu : ∀ p ∈ T, p.1 = P → p.2 = X.env.qual ++ "<lambda>") (hT : Tabs T H) (hdef : params.defaults = [.Constant (.int i) k0 p0]) (hk0 : params.kw_defaults = []) (hfree : ∀ y ∈ scope.names, y.2 = .free → ∃ c, X.env.cells.lookup y.1 = some c)
    (h : ∀ (f c' T0 : Addr) (tk0 : Tok) (doc pm ctv : Value) (H1 : Hp) (s' : Shared), Inv X pins σ H1 s' → ExtN H H1 → Tabs T H1 →
      s'.heap.get? f = some (kdv_obj "<lambda>" (X.env.qual ++ "<lambda>") params (.expr body) scope (cloFrom X.env.cells scope.names []) (.ref T0) doc pm c' ctv) → H1 f = none → f ∉ frs X.stack →
      s'.heap.get? T0 = some (kdv_tup [.int i tk0]) → H1 T0 = none → T0 ∉ frs X.stack → H1 c' = some (CodeO c' (X.env.qual ++ "<lambda>")) → Q (.ref f) s') :
    wpAny (model X.prog X.w) X.A (eval (.Lambda params body scope pos) X.env) Q E s := by
  refine kdv_lam (by rw [hdef]; rfl) hk0 ?_
  rw [hdef]
  refine kdv_all1 (wpAny_Constant_int (kdv_all0 ?_))
  rw [makeFunction_eq]
  simp only [List.zip_nil_right, List.filterMap_nil, List.isEmpty_nil, List.isEmpty_cons, if_true, Bool.false_eq_true, if_false, pure_bind]
  refine wpAny_bind (wpAny_newTextTuple ?_)
  have hcl := closure_ok (env := X.env) hfree
  obtain ⟨ps, hP, ht, ha⟩ := hT _ hm
  have I2 : Inv X pins σ H { s with heap := s.heap.push (kdv_tup [.int i s.toks]), toks := s.toks + 1 } := I.kept fun b o e => Heap.get?_push_of_some _ e
  have bP := TB.bm.keeps I2.bk
  have hP' := I2.hok P _ hP
  have hT0 : (s.heap.push (kdv_tup [.int i s.toks])).get? s.heap.objs.size = some (kdv_tup [.int i s.toks]) := Heap.get?_push_size _ rfl
  have nT0 : H s.heap.objs.size = none := I.hok.fresh (Nat.le_refl _)
  have nofr : ∀ f, s.heap.objs.size ≤ f → f ∉ frs X.stack := fun f hf z => by
    rcases List.mem_cons.mp (I.stkSub _ z) with e | e
    · have h1 := I.lt
      rw [← e] at h1
      exact Nat.lt_irrefl _ (Nat.lt_of_lt_of_le h1 hf)
    · exact I.nofs hf e
  have up1 : s.heap.objs.size ≤ (s.heap.push (kdv_tup [.int i s.toks])).objs.size := by rw [Heap.size_push]; omega
  cases hc : codeAmong pos ps.toList with
  | none =>
    refine kdv_makeTail (mg := X.mg) (c := c) (P := P) (ps := ps) hcl I2.ok.glob (I2.mod.glob.keeps I2.bk) hcode (TB.code.keeps I2.bk) hP' ht hc TB.gP bP fun c' ctv doc h' tk hx hge hlt hrec htb => ?_
    obtain ⟨c2, oc, vs, t, e2, hoc, hd, hv⟩ := hrec
    cases e2
    have hsz : s.heap.objs.size ≤ h'.objs.size := Nat.le_trans up1 (Nat.le_trans hge (Nat.le_of_lt hlt))
    have nC : H c' = none := I.hok.fresh (Nat.le_trans up1 hge)
    have nT0P : s.heap.objs.size ≠ P := fun z => by rw [z, hP] at nT0; cases nT0
    have nT0c : s.heap.objs.size ≠ c' := fun z => by
      have z2 : (s.heap.push (kdv_tup [.int i s.toks])).objs.size ≤ c' := hge
      rw [Heap.size_push] at z2
      omega
    have I1 := inv_table (t' := tk) (more := #[rawInt pos.line, rawInt pos.col, .ref c']) (h' := h'.push (kdv_obj "<lambda>" (X.env.qual ++ "<lambda>") params (.expr body) scope (cloFrom X.env.cells scope.names []) (.ref s.heap.objs.size) doc ((X.mg "__name__").getD .none) c' ctv)) I2 hP
      (fun b o hb e => Heap.get?_push_of_some _ (hx b o hb e)) (Heap.get?_push_of_some _ htb) hge ⟨oc, vs, t, Heap.get?_push_of_some _ hoc, hd, hv⟩
    have hE : ExtN H (upd (upd H P (.tbl (ps ++ #[rawInt pos.line, rawInt pos.col, .ref c']))) c' (CodeO c' (X.env.qual ++ "<lambda>"))) := fun b o e n => by
      rw [upd_ne (ne_of_none e nC), upd_ne (fun z => n ps (Option.some.inj (e.symm.trans (by rw [z]; exact hP))))]
      exact e
    have eL : (ps ++ #[rawInt pos.line, rawInt pos.col, .ref c']).toList = ps.toList ++ [rawInt pos.line, rawInt pos.col, .ref c'] := by simp
    refine h h'.objs.size c' s.heap.objs.size s.toks doc ((X.mg "__name__").getD .none) ctv _ _ I1 hE (fun p hp => ?_) (Heap.get?_push_size _ rfl) ?_ (nofr _ hsz) (Heap.get?_push_of_some _ (hx _ _ nT0P hT0)) ?_ (nofr _ (Nat.le_refl _)) upd_same
    · by_cases hb : p.1 = P
      · rw [hu p hp hb, hb]
        refine ⟨_, by rw [upd_ne (ne_of_none hP nC), upd_same], by rw [eL]; exact PySem.TriplesOk_snoc _ _ _ _ ht, fun p' cv hcv => ?_⟩
        rw [eL] at hcv
        rcases among_app _ ht hcv with z | z
        · obtain ⟨c0, e1, e2⟩ := ha p' cv z
          exact ⟨c0, e1, hE _ _ e2 codeO_ne⟩
        · exact ⟨c', z, upd_same⟩
      · obtain ⟨ps', a1, a2, a3⟩ := hT p hp
        refine ⟨ps', by rw [upd_ne (ne_of_none a1 nC), upd_ne hb]; exact a1, a2, fun p' cv hcv => ?_⟩
        obtain ⟨c0, e1, e2⟩ := a3 p' cv hcv
        exact ⟨c0, e1, hE _ _ e2 codeO_ne⟩
    · have n1 : h'.objs.size ≠ c' := Nat.ne_of_gt hlt
      have n2 : h'.objs.size ≠ P := Nat.ne_of_gt (Nat.lt_of_lt_of_le (Heap.lt_size hP') (Nat.le_trans hge (Nat.le_of_lt hlt)))
      rw [upd_ne n1, upd_ne n2]
      exact I.hok.fresh hsz
    · rw [upd_ne nT0c, upd_ne nT0P]
      exact nT0
  | some cv =>
    obtain ⟨c', e, hco⟩ := ha pos cv hc
    subst e
    refine kdv_makeTailHit (mg := X.mg) (c := c) (P := P) (ps := ps) hcl I2.ok.glob (I2.mod.glob.keeps I2.bk) hcode (TB.code.keeps I2.bk) hP' ht hc bP fun ctv doc h' tk hx hsz => ?_
    have I1 : Inv X pins σ H { s with heap := h'.push (kdv_obj "<lambda>" (X.env.qual ++ "<lambda>") params (.expr body) scope (cloFrom X.env.cells scope.names []) (.ref s.heap.objs.size) doc ((X.mg "__name__").getD .none) c' ctv), toks := tk } := I2.kept fun b o e => Heap.get?_push_of_some _ (hx b o e)
    exact h h'.objs.size c' s.heap.objs.size s.toks doc ((X.mg "__name__").getD .none) ctv H _ I1 (ExtN.refl H) hT (Heap.get?_push_size _ rfl) (I.hok.fresh (Nat.le_trans up1 hsz)) (nofr _ (Nat.le_trans up1 hsz)) (Heap.get?_push_of_some _ (hx _ _ hT0)) nT0 (nofr _ (Nat.le_refl _)) hco
/-- x(), in the def that got the lambda -/
theorem pe_actdc {CXg : CXT} {Eg : XK} {Ng : List Str} {qg : Str} {sg : Scope} {g f c' T0 : Addr} {cdg doc pm ctv : Value} {params : Arguments} {body : Expr} {scope : Scope} {k j : Nat} {a la : Str} {pn : List (Addr × Obj)} {xe : Value → Shared → Prop} {W : WX} {E : XK} {tb : TE} {p1 p2 : Pos} {i : Int} {tk0 : Tok}
    (I : Inv X pins σ H s) (L : LamSD X.env.scope scope la) (hla : la ∉ X.N) (hf : s.heap.get? f = some (kdv_obj "<lambda>" (X.env.qual ++ "<lambda>") params (.expr body) scope (cloFrom X.env.cells scope.names []) (.ref T0) doc pm c' ctv)) (hfn : H f = none) (hfr : f ∉ frs X.stack)
    (hT : s.heap.get? T0 = some (kdv_tup [.int i tk0])) (hTn : H T0 = none) (hTr : T0 ∉ frs X.stack)
    (hbind : ∀ (s1 : Shared), s1.heap.get? T0 = some (kdv_tup [.int i tk0]) → BindsTo s1 (kdv_fn "<lambda>" (X.env.qual ++ "<lambda>") params (.expr body) scope (cloFrom X.env.cells scope.names []) (.ref T0) doc pm (.ref c') ctv) ⟨[], []⟩ [(la, .int i tk0)])
    (tk : Takes ((cxOf CXg X.prog X.w X.K X.mg X.base Ng qg sg g cdg X.A X.stack s H Eg).tr pn xe) W) (hW : ∀ cls d σ' H', E cls d H' → W cls d σ' H') (hr : Room (k + 1) (X.A.deeper (envOfC qg sg s.heap.objs.size g cdg)))
    (hbody : ∀ (A : Around) (outer : List Env) (s : Shared) (H : Hp), Room k (A.deeper (lamEnv X scope s.heap.objs.size f c')) → PE (lamCx X A outer s H E scope f c') body tb)
    (hN : Ng[j]? = some a) (hv : Vis sg a) (hd : (a == ("__debug__" : Str)) = false := by decide) (hcd : (a == ("__classdict__" : Str)) = false := by decide) :
    PE ((cxOf CXg X.prog X.w X.K X.mg X.base Ng qg sg g cdg X.A X.stack s H Eg).tr pn xe) (.Call (.Name a p1) [] [] p2)
      (fun σZ HZ Q => σZ[j]? = some (some (.ref f)) ∧ HZ c' = some (CodeO c' (X.env.qual ++ "<lambda>")) ∧ tb σ HZ Q) := by
  refine ⟨fun pinsZ sZ σZ HZ Q IZ h => ?_⟩
  obtain ⟨hs, hc, ht⟩ := h
  refine wpAny_Call_Name_kw (thn ((pe_var (pos := p1) (i := j) hN hv hd hcd).run pinsZ sZ σZ HZ (fun v H1 => v = .ref f ∧ H1 = HZ) IZ ⟨.ref f, hs, rfl, rfl⟩) fun u s1 ⟨v, H1, I1, r1, q1⟩ => ?_)
  obtain ⟨ev, eH⟩ := q1
  subst ev
  rw [eH] at I1
  obtain rfl : u = Value.ref f := r1
  have of1 := I1.base.keep f _ hf hfn hfr (fun z => nomatch (show f ∈ ([] : List Addr) from z))
  have oT1 := I1.base.keep T0 _ hT hTn hTr (fun z => nomatch (show T0 ∈ ([] : List Addr) from z))
  refine PySem.W.callWith_F0 ⟨_, _, _, _, of1⟩ ?_
  have un : Un (frs X.stack) [] H HZ s.heap s1.heap := I1.base
  obtain ⟨⟨oc, vs, t, hoc, hdc, hvc⟩, _, _⟩ := I1.hok c' _ hc
  have rc : codeAny (model X.prog X.w) (X.A.deeper (envOfC qg sg s.heap.objs.size g cdg)) (.call (.ref f) ⟨[], []⟩) (CR (L2.CX X.prog X.w) (envOfC qg sg s.heap.objs.size g cdg :: X.stack) X.prog X.w HZ s1 Q E) s1 := by
    refine PySem.W.kla_callFunE hr.depth of1 rfl L.co L.gen rfl ⟨c', oc, vs, t, rfl, hoc, hdc, hvc⟩ ?_
    refine hbind s1 oT1 _ _ _ _ ?_
    refine wpAny_newFunctionEnv (fun y hy => (L.own y hy).1) (fun y hy => by rw [List.mem_singleton.mp hy]; exact L.par) (fun h₁ hns hsb => ⟨I1.nolimit.fresh _ hsb, ?_⟩) L.kind
    show codeAny _ _ (.expr body (lamEnv X scope s1.heap.objs.size f c')) _ _
    have kp : ∀ b o, s1.heap.get? b = some o → h₁.get? b = some o := fun b o e => hsb.extBut b o (Nat.ne_of_lt (Heap.lt_size e)) (Heap.get?_push_of_some _ e)
    have J : Inv (lamCx X (X.A.deeper (envOfC qg sg s.heap.objs.size g cdg)) (envOfC qg sg s.heap.objs.size g cdg :: X.stack) s1 HZ E scope f c') [] σ HZ { s1 with heap := h₁, toks := s1.toks + ([(la, Value.int i tk0)] : List (Str × Value)).length } :=
      lam_startD I L hla I1.env0 hr.hd un hns kp
    refine PySem.W.kla_codeExpr (wpAny_mono ((hbody _ _ s1 HZ (hr.deeper _)).run [] _ _ HZ Q J ht) (fun v s' hq => ?_) fun e s' hq => hq)
    obtain ⟨w', H', J', rv, q⟩ := hq
    exact ⟨w', H', J'.os, J'.bare, J'.base, J'.hok, rv, q⟩
  have hx : Passes (L2.CX X.prog X.w) ((cxOf CXg X.prog X.w X.K X.mg X.base Ng qg sg g cdg X.A X.stack s H Eg).tr pn xe) E := passes_call tk hW
  refine wpAny_call (codeAny_mono rc fun r s' hq => ?_)
  cases r with
  | error e => exact hx pinsZ σZ HZ s1 e s' I1 hq
  | ok fl =>
    cases fl with
    | ret u => exact I1.after hq
    | next => exact False.elim hq
    | brk => exact False.elim hq
    | cont => exact False.elim hq
theorem pe_lamcallDC {T : List (Addr × Str)} {TT : (XK → Hp → VK → Prop) → Hp → VK → Prop} {x a la : Str} {g c P : Addr} {k : Nat} {pg : Arguments} {bg : List Stmt} {sg : Scope} {dV kV doc pm cdv ct oc : Value} {an od : Option Addr} {osl : Array (Option Value)} {Ng : List Str}
    {params : Arguments} {body : Expr} {scope : Scope} {t : XK → TE} {p lpos pos p0 : Pos} {k0 : Nat} {i : Int} (hg : Gl X x) (hm : X.mg x = some (.ref g)) (hk : keepIn X.K (.ref g) = true)
    (lk : X.K.lookup g = some ⟨oc, od, .func (fnOf x x pg bg sg dV kV doc pm an cdv ct), osl⟩) (hcg : codeIn X.K cdv x = true) (hb : L2.Binds X.K (fnOf x x pg bg sg dV kV doc pm an cdv ct) [a] []) (Sg : FnScope Ng [a] sg) (hNg : Ng[0]? = some a) (hva : Vis sg a)
    (hG : GivesTo X Ng x sg g cdv bg a (X.env.qual ++ "<lambda>") TT)
    (TB : TabB X.base X.mg c P) (hcode : X.env.code = .ref c) (hmT : (P, X.env.qual ++ "<lambda>") ∈ T) (hu : ∀ p ∈ T, p.1 = P → p.2 = X.env.qual ++ "<lambda>") (hr : Room (k + 2) X.A) (L : LamSD X.env.scope scope la) (hla : la ∉ X.N) (hdef : params.defaults = [.Constant (.int i) k0 p0]) (hk0 : params.kw_defaults = [])
    (hbind : ∀ (ql : Str) (clos : List (Str × Addr)) (T0 : Addr) (doc pm cv ctv : Value) (tk0 : Tok) (s1 : Shared), s1.heap.get? T0 = some (kdv_tup [.int i tk0]) → BindsTo s1 (kdv_fn "<lambda>" ql params (.expr body) scope clos (.ref T0) doc pm cv ctv) ⟨[], []⟩ [(la, .int i tk0)])
    (hbody : ∀ (A : Around) (outer : List Env) (s : Shared) (H : Hp) (E : XK) (f c' : Addr), Room k (A.deeper (lamEnv X scope s.heap.objs.size f c')) → PE (lamCx X A outer s H E scope f c') body (t E))
    (hdb : (x == ("__debug__" : Str)) = false := by decide) (hd : (a == ("__debug__" : Str)) = false := by decide) (hcd : (a == ("__classdict__" : Str)) = false := by decide) :
    PE X (.Call (.Name x p) [.Lambda params body scope lpos] [] pos) (tLam T TT t) := by
  refine ⟨fun pins s σ H Q I h => ?_⟩
  obtain ⟨hT, h⟩ := h
  refine wpAny_Call_Name_kw (ld_glob I hg hm ?_ hdb)
  refine callWith_K (h₀ := X.base) I.ok.mod.kin hk ?_ (by rfl) (by rfl)
  show wpAny _ _ (spliced ((false, eval (.Lambda params body scope lpos) X.env) :: backTo pos (starEach [] X.env))) _ _ s
  refine Calls.spliced_cons (lamdc_make I TB hcode hmT hu hT hdef hk0 (L.has I.ok) fun f c' T0 tk0 doc' pm' ctv H1 s' I1 eN T1 hf hfn hfr hT0 nT0 rT0 hco => ?_)
  refine Calls.spliced_nil ⟨I1.kIn, ?_⟩
  have rc : codeAny (model X.prog X.w) X.A (.call (.ref g) ⟨[.ref f], []⟩) (CR C8.CX0 X.stack X.prog X.w H1 s' Q C8.E0) s' := by
    refine run_ofS (N := Ng) (ps := [a]) (us := [.ref f]) (vs := [.ref f]) lk hcg Sg hr I1.env0 (hb s' [.ref f] I1.kIn rfl) (.cons rfl .nil) rfl fun hr' => ?_
    obtain ⟨t', ht', hq'⟩ := hG f c' s' H1 Q (fun E H' Q' => t E σ H' Q') (fun W pn xe E p1 p2 tk hW => pe_actdc (j := 0) I1 L hla hf hfn hfr hT0 nT0 rT0 (fun s1 h1 => hbind _ _ _ _ _ _ _ _ _ h1) tk hW hr' (fun A outer s H hr2 => hbody A outer s H E f c' hr2) hNg hva hd hcd) hco (h H1 eN T1)
    exact ⟨t', ht'.nox, hq'⟩
  refine wpAny_call (codeAny_mono rc fun r s2 hq => ?_)
  cases r with
  | error e => exact (show False from hq).elim
  | ok fl =>
    cases fl with
    | ret u => exact I1.after hq
    | next => exact False.elim hq
    | brk => exact False.elim hq
    | cont => exact False.elim hq
end
theorem xor128 {b : Int} (h0 : 0 ≤ b) (h1 : b < 256) : 0 ≤ Builtin.bitXor b 128 ∧ Builtin.bitXor b 128 < 256 := by
  have key : ∀ n : Fin 256, 0 ≤ Builtin.bitXor (n.val : Int) 128 ∧ Builtin.bitXor (n.val : Int) 128 < 256 := by decide +kernel
  have := key ⟨b.toNat, by omega⟩
  rw [show ((⟨b.toNat, by omega⟩ : Fin 256).val : Int) = b from Int.toNat_of_nonneg h0] at this
  exact this
theorem cutT {bs : List Int} {k : Int} (h0 : 0 ≤ k) (h1 : k ≤ bs.length) : cutV (List.map V.int bs) none (some k) = List.map V.int (bs.take k.toNat) := by
  obtain ⟨kk, rfl⟩ : ∃ kk : Nat, k = (kk : Int) := ⟨k.toNat, by omega⟩
  unfold cutV
  rw [HT.sIx_none, HT.sIx_nat, List.length_map, Nat.min_eq_left (by omega), List.drop_zero, Nat.sub_zero, Int.toNat_natCast, List.map_take]
theorem cutD {bs : List Int} {k : Int} (h0 : 0 ≤ k) (h1 : k ≤ bs.length) : cutV (List.map V.int bs) (some k) none = List.map V.int (bs.drop k.toNat) := by
  obtain ⟨kk, rfl⟩ : ∃ kk : Nat, k = (kk : Int) := ⟨k.toNat, by omega⟩
  unfold cutV
  rw [HT.sIx_none, HT.sIx_nat, List.length_map, Nat.min_eq_left (by omega), Int.toNat_natCast, List.take_of_length_le (by rw [List.length_drop, List.length_map]; exact Nat.le_refl _), List.map_drop]
theorem cutI (bs : List Int) (lo hi : Option Int) : ∃ cs : List Int, cutV (List.map V.int bs) lo hi = List.map V.int cs := by
  unfold cutV
  rw [← List.map_drop, ← List.map_take]
  exact ⟨_, rfl⟩
theorem ixN_at {n : Nat} {k : Int} (h0 : 0 ≤ k) (h1 : k < n) : ixN n k = some k.toNat := by
  unfold ixN
  rw [if_pos h0, if_pos h1]
theorem ixN_last {n : Nat} (h : 1 ≤ n) : ixN n (-1) = some (n - 1) := by
  unfold ixN
  rw [if_neg (by decide), if_pos (by omega)]
  congr 1
  omega
theorem b8_set {bs : List Int} {j : Nat} {y : Int} (hb : B8 bs) (h0 : 0 ≤ y) (h1 : y < 256) : B8 (bs.set j y) := by
  intro n hn
  rcases List.mem_or_eq_of_mem_set hn with h | h
  · exact hb n h
  · rw [h]; exact ⟨h0, h1⟩
theorem b8_one {y : Int} (h0 : 0 ≤ y) (h1 : y < 256) : B8 [y] := fun n hn => by rw [List.mem_singleton.mp hn]; exact ⟨h0, h1⟩
theorem b8_take {bs : List Int} (hb : B8 bs) (k : Nat) : B8 (bs.take k) := fun n hn => hb n (List.mem_of_mem_take hn)
theorem b8_drop {bs : List Int} (hb : B8 bs) (k : Nat) : B8 (bs.drop k) := fun n hn => hb n (List.mem_of_mem_drop hn)
def Code7 (K : PySem.W.Frag) (a : Addr) (ns : List Int) (d PL : Addr) (H2 H' : Hp) (q : Addr) (bs : List Int) : Prop :=
  But d H2 H' ∧ Dice K a ns H' d ∧ LamX.Tabs [(PL, lamQ)] H' ∧ H2 q = none ∧ H' q = some (.lst (List.map V.int bs)) ∧ B8 bs ∧ bs.length ≤ 4100
section
variable {K : PySem.W.Frag} {a d PL q g : Addr} {ns bs bs' : List Int} {H2 H' H'' : Hp}
theorem c7_but (D2 : Dice K a ns H2 d) (c : Code7 K a ns d PL H2 H' q bs) (b : But d H' H'') (D : Dice K a ns H'' d) : Code7 K a ns d PL H2 H'' q bs := by
  obtain ⟨c1, c2, c3, c4, c5, c6, c7⟩ := c
  obtain ⟨_, e⟩ := c2.is
  exact ⟨c1.trans b, D, Tabs.but c3 e b, c4, b q _ (D2.ne c4) c5, c6, c7⟩
theorem c7_same (c : Code7 K a ns d PL H2 H' q bs) (s : Same H' H'') : Code7 K a ns d PL H2 H'' q bs := by
  obtain ⟨c1, c2, c3, c4, c5, c6, c7⟩ := c
  exact ⟨c1.trans (Same.but s), c2.same s, Tabs.same c3 s, c4, s _ _ c5, c6, c7⟩
theorem c7_new (D2 : Dice K a ns H2 d) (c : Code7 K a ns d PL H2 H' q bs) (hg : H' g = none) (hb : B8 bs') (hl : bs'.length ≤ 4100) : Code7 K a ns d PL H2 (upd H' g (.lst (List.map V.int bs'))) g bs' := by
  obtain ⟨c1, c2, c3, c4, c5, c6, c7⟩ := c
  exact ⟨c1.trans (But.new hg), c2.same (Same.new hg), Tabs.same c3 (Same.new hg), none_but D2 c2 c1 hg, upd_same, hb, hl⟩
theorem c7_put (D2 : Dice K a ns H2 d) (c : Code7 K a ns d PL H2 H' q bs) (hb : B8 bs') (hl : bs'.length ≤ 4100) : Code7 K a ns d PL H2 (upd H' q (.lst (List.map V.int bs'))) q bs' := by
  obtain ⟨c1, c2, c3, c4, c5, c6, c7⟩ := c
  exact ⟨But.fresh c1 c4, Dice.fresh D2 c1 c4 c2, Tabs.but c3 c5 But.put, c4, upd_same, hb, hl⟩
end
section
variable {P : Program} {w : World} {K : PySem.W.Frag} {mg : Str → Option Value} {base : Heap} {C fI CP fP : Addr}
theorem lawT_ok (T : All K mg) (O_BadPatch : N_BadPatch.OwnErr P K mg CP fP) (TCP : ToldC T CP 0) (O_BadCode : N_BadCode.OwnErr P K mg C fI) (TC : ToldC T C 3) {f cL PL : Addr} {kV doc pm ct oc : Value} {an od : Option Addr} {osl : Array (Option Value)}
    (lk : K.lookup f = some ⟨oc, od, .func (PySem.W.fnOf "law" "law" (defArgs s_law) (defBody s_law) (defScope s_law) .none kV doc pm an (.ref cL) ct), osl⟩) (hcd : PySem.W.codeIn K (.ref cL) "law" = true) (TB : LamX.TabB base mg cL PL) :
    FnOk P w K mg base CX0 11 f (PySem.W.fnOf "law" "law" (defArgs s_law) (defBody s_law) (defScope s_law) .none kV doc pm an (.ref cL) ct) ["_law_script"] (spLawT K PL) := by
  have G_law_dice : FnOk P w K mg base CX0 1 T.d_law_dice.f T.d_law_dice.fd ["_law_script"] (spDice K) := ok_law_dice T
  have G_law_next : FnOk P w K mg base CX0 1 T.d_law_next.f T.d_law_next.fd ["_law_dice_here", "_law_many"] (spNext K) := ok_law_next T
  have G_law_rows : FnOk P w K mg base CX0 2 T.d_law_rows.f T.d_law_rows.fd ["_law_d", "_law_count", "_law_most"] (spRows K) := ok_law_rows T
  have G_law_handed : FnOk P w K mg base CX0 3 T.d_law_handed.f T.d_law_handed.fd ["_law_rows_here"] spHanded := ok_law_handed T
  have G_law_code : FnOk P w K mg base CX0 2 T.d_law_code.f T.d_law_code.fd ["_law_rows_here"] spLCode := ok_law_code T
  have G_law_parsed : FnOk P w K mg base CX0 2 T.d_law_parsed.f T.d_law_parsed.fd ["_law_some"] spLParsed := ok_law_parsed T
  have G_law_is_patch : FnOk P w K mg base CX0 3 T.d_law_is_patch.f T.d_law_is_patch.fd ["_law_told_here", "_law_rows_here"] spIsPatch := ok_law_is_patch T
  have G_bytes_of : FnOk P w K mg base CX0 2 T.d_bytes_of.f T.d_bytes_of.fd ["numbers"] (spBytesOf K) := ok_bytes_of T
  have G_decoded : FnOk P w K mg base (L2.CX P w) 7 T.d_decoded.f T.d_decoded.fd ["some"] (spDecodedY C CP) := okxx_decoded T O_BadCode O_BadPatch
  have G_needs : FnOk P w K mg base (L2.CX P w) 4 T.d_needs.f T.d_needs.fd ["patch"] (spNeedsX CP) := okx_needs T O_BadPatch
  obtain ⟨ocT, odT, kVT, docT, pmT, anT, cdvT, ctT, oslT, efd, lkT, hcT⟩ := T.d_law_told.F.ex
  have bT := T.d_law_told.b
  rw [efd] at lkT bT
  refine fn_of lk hcd sc_law (fun vs H Q E h => ?_) (fun A outer s H vs Q E hr h => ?_)
  · obtain ⟨a, ns, rfl, _⟩ := h
    rfl
  · obtain ⟨a, ns, rfl, hS, hl, hP, k⟩ := h
    suffices z : ∃ t, PSs (cxOf CX0 P w K mg base _ "law" (defScope s_law) f (.ref cL) A outer s H E).nox (defBody s_law) t ∧ t { nx := fun _ H' => Q .non H', rt := Q } (start _ [.ref a]) H by
      obtain ⟨t, h, q⟩ := z
      exact ⟨t, h.nox, q⟩
    refine ⟨_, (pss_cons 
      (ps_set (i := 1) sc_law.nd rfl (Or.inl rfl) (pe_call G_law_dice (hr.mono (by decide)) rfl T.d_law_dice.m T.d_law_dice.F.kp T.d_law_dice.b .nil pass0 (pa_cons (pv 0) pa_nil))) (pss_cons 
      (ps_for PassesOwn.never rfl (pi_range1 (by rfl) T.b_range (pa_cons pe_int pa_nil)) (pg_name (i := 2) sc_law.nd rfl (Or.inl rfl)) (pss_cons 
      (ps_set (i := 3) sc_law.nd rfl (Or.inr rfl) (pe_call G_law_code (hr.mono (by decide)) rfl T.d_law_code.m T.d_law_code.F.kp T.d_law_code.b .nil pass0 (pa_cons (pe_call G_law_rows (hr.mono (by decide)) rfl T.d_law_rows.m T.d_law_rows.F.kp T.d_law_rows.b .nil pass0 (pa_cons (pv 1) (pa_cons pe_int (pa_cons (pe_ix ix_list (pe_lst (pa_cons pe_int (pa_cons pe_int pa_nil))) (pe_call G_law_next (hr.mono (by decide)) rfl T.d_law_next.m T.d_law_next.F.kp T.d_law_next.b .nil pass0 (pa_cons (pv 1) (pa_cons pe_int pa_nil))) (fun _ _ => rfl)) pa_nil)))) pa_nil))) (pss_cons (ps_join 
      (ps_if (pt_cmpR op_eq (pe_call G_law_next (hr.mono (by decide)) rfl T.d_law_next.m T.d_law_next.F.kp T.d_law_next.b .nil pass0 (pa_cons (pv 1) (pa_cons pe_int pa_nil))) pe_int (nomark _)) (pss_one 
      (ps_set (i := 3) sc_law.nd rfl (Or.inr rfl) (pe_call G_law_code (hr.mono (by decide)) rfl T.d_law_code.m T.d_law_code.F.kp T.d_law_code.b .nil pass0 (pa_cons (pe_lst (pa_cons (pe_tup (pa_cons pe_str (pa_cons pe_int (pa_cons pe_int pa_nil)))) (pa_cons (pe_tup (pa_cons pe_str (pa_cons pe_int (pa_cons (pe_op op_add pe_int (pe_call G_law_next (hr.mono (by decide)) rfl T.d_law_next.m T.d_law_next.F.kp T.d_law_next.b .nil pass0 (pa_cons (pv 1) (pa_cons pe_int pa_nil)))) pa_nil)))) pa_nil))) pa_nil)))) pss_nil)) (pss_cons 
      (ps_par (i := 4) (j := 5) (by rfl) sc_law.nd rfl rfl (by decide) rfl rfl (pa_cons (pe_call G_law_next (hr.mono (by decide)) rfl T.d_law_next.m T.d_law_next.F.kp T.d_law_next.b .nil pass0 (pa_cons (pv 1) (pa_cons (pe_callB call_len (by rfl) T.b_len PySem.boot_len (pa_cons (pv 3) pa_nil)) pa_nil))) (pa_cons (pe_call G_law_next (hr.mono (by decide)) rfl T.d_law_next.m T.d_law_next.F.kp T.d_law_next.b .nil pass0 (pa_cons (pv 1) (pa_cons pe_int pa_nil))) pa_nil)) (by rfl)) (pss_cons (ps_join 
      (ps_if (pt_cmpR op_eq (pv 5) pe_int (nomark _)) (pss_one 
      (ps_set (i := 3) sc_law.nd rfl (Or.inr rfl) (pe_op op_cat (pv 3) (pe_lst (pa_cons (pe_call G_law_next (hr.mono (by decide)) rfl T.d_law_next.m T.d_law_next.F.kp T.d_law_next.b .nil pass0 (pa_cons (pv 1) (pa_cons pe_int pa_nil))) pa_nil))))) pss_nil)) (pss_cons (ps_join 
      (ps_if (pt_cmpR op_lt (pv 5) pe_int (nomark _)) (pss_one 
      (ps_asg (pe_ix ix_list (pe_lst (pa_cons (pe_call G_law_next (hr.mono (by decide)) rfl T.d_law_next.m T.d_law_next.F.kp T.d_law_next.b .nil pass0 (pa_cons (pv 1) (pa_cons pe_int pa_nil))) (pa_cons (pe_op op_xor (pe_ix ix_list (pv 3) (pv 4) (fun _ _ => rfl)) pe_int) (pa_cons (pe_op op_mod (pe_op op_add (pe_ix ix_list (pv 3) (pv 4) (fun _ _ => rfl)) pe_int) pe_int) pa_nil)))) (pv 5) (fun _ _ => rfl)) (pg_sub (pv 3) (pv 4) set_list))) pss_nil)) (pss_cons (ps_join 
      (ps_if (pt_cmpR op_eq (pv 5) pe_int (nomark _)) (pss_one 
      (ps_set (i := 3) sc_law.nd rfl (Or.inr rfl) (pe_op op_cat (pe_slice sl_list (pv 3) po_none (po_some (pv 4))) (pe_slice sl_list (pv 3) (po_some (pe_op op_add (pv 4) pe_int)) po_none)))) pss_nil)) (pss_cons (ps_join 
      (ps_if (pt_cmpR op_eq (pv 5) pe_int (nomark _)) (pss_one 
      (ps_set (i := 3) sc_law.nd rfl (Or.inr rfl) (pe_op op_cat (pe_op op_cat (pe_slice sl_list (pv 3) po_none (po_some (pv 4))) (pe_lst (pa_cons (pe_call G_law_next (hr.mono (by decide)) rfl T.d_law_next.m T.d_law_next.F.kp T.d_law_next.b .nil pass0 (pa_cons (pv 1) (pa_cons pe_int pa_nil))) pa_nil))) (pe_slice sl_list (pv 3) (po_some (pv 4)) po_none)))) pss_nil)) (pss_cons (ps_join 
      (ps_if (pt_cmpR op_eq (pv 5) pe_int (nomark _)) (pss_one 
      (ps_set (i := 3) sc_law.nd rfl (Or.inr rfl) (pe_slice sl_list (pv 3) po_none (po_some (pv 4))))) pss_nil)) (pss_cons (ps_join 
      (ps_if (PW.pt (pw_and (pt_cmpR (op_neEmpty hr.units) (pv 3) (pe_lst pa_nil) (nomark _)) (pw_and (pt_cmpR op_lt (pv 5) pe_int (nomark _)) (pw_and1 (pt_cmpR op_eq (pe_call G_law_next (hr.mono (by decide)) rfl T.d_law_next.m T.d_law_next.F.kp T.d_law_next.b .nil pass0 (pa_cons (pv 1) (pa_cons pe_int pa_nil))) pe_int (nomark _)))))) (pss_one 
      (ps_asg (pe_op op_mod (pe_callB (cr_sum rfl) (by rfl) T.b_sum (by decide +kernel) (pa_cons (pe_slice sl_list (pv 3) po_none (po_some (pe_un un_neg pe_int))) pa_nil)) pe_int) (pg_sub (pv 3) (pe_un un_neg pe_int) set_list))) pss_nil)) (pss_cons 
      (ps_asg (pe_call G_law_parsed (hr.mono (by decide)) rfl T.d_law_parsed.m T.d_law_parsed.F.kp T.d_law_parsed.b .nil pass0 (pa_cons (pv 3) pa_nil)) (pg_tup rfl (pgs_cons (pg_name (i := 6) sc_law.nd rfl (Or.inl rfl)) (pgs_cons (pg_name (i := 7) sc_law.nd rfl (Or.inl rfl)) pgs_nil)))) (pss_cons 
      (ps_set (i := 8) sc_law.nd rfl (Or.inl rfl) (LamX.pe_lamcall (k := 7) (T := [(PL, lamQ)]) (TT := TToldG T) rfl T.d_law_told.m T.d_law_told.F.kp lkT hcT bT sc_law_told rfl (Or.inl rfl) (told_g (X := (cxOf CX0 P w K mg base _ "law" (defScope s_law) f (.ref cL) A outer s H E).nox) T) TB rfl (List.mem_singleton.mpr rfl) (fun p hp _ => by rw [List.mem_singleton.mp hp]; rfl) (hr.mono (by decide)) (LamX.lamS_by (show LamX.lamSB (defScope s_law) _ = true from by decide +kernel)) rfl (fun _ _ _ _ _ => rfl)
        (fun A outer s H E f c' hr' => pe_call G_decoded (hr'.mono (by decide)) rfl T.d_decoded.m T.d_decoded.F.kp T.d_decoded.b .nil (passes_call (takes_of rfl rfl rfl rfl) fun _ _ _ _ h => h) (pa_cons (pe_call G_bytes_of (hr'.mono (by decide)) rfl T.d_bytes_of.m T.d_bytes_of.F.kp T.d_bytes_of.b .nil pass0 (pa_cons (pv 3) pa_nil)) pa_nil)))) (pss_cons 
      (ps_if (PW.pt (pw_and (pt_cmpR op_notN (pv 6) pe_non (nomark _)) (pw_and1 (pt_cmpR (op_neD hr.units) (pv 8) (pe_tup (pa_cons pe_str (pa_cons pe_str (pa_cons (pv 6) pa_nil)))) (nomark _))))) (pss_one 
      (ps_ret pe_bl)) pss_nil) (pss_one 
      (ps_if (pt_cmpR op_isN (pv 6) pe_non (nomark _)) (pss_cons 
      (ps_set (i := 9) sc_law.nd rfl (Or.inr rfl) (pe_call G_law_handed (hr.mono (by decide)) rfl T.d_law_handed.m T.d_law_handed.F.kp T.d_law_handed.b .nil pass0 (pa_cons (pv 7) pa_nil))) (pss_cons 
      (ps_set (i := 10) sc_law.nd rfl (Or.inl rfl) (pe_lamcallDC (k := 7) (T := [(PL, lamQ)]) (TT := TToldG T) (la := "_law_a") (i := 0) rfl T.d_law_told.m T.d_law_told.F.kp lkT hcT bT sc_law_told rfl (Or.inl rfl) (told_g (X := (cxOf CX0 P w K mg base _ "law" (defScope s_law) f (.ref cL) A outer s H E).nox) T) TB rfl (List.mem_singleton.mpr rfl) (fun p hp _ => by rw [List.mem_singleton.mp hp]; rfl) (hr.mono (by decide)) (lamSD_by (show lamSDB (defScope s_law) _ _ = true from by decide +kernel)) (show ("_law_a" : Str) ∉ (["_law_script", "_law_d", "_law_turn", "_law_code_here", "_law_k", "_law_pick", "_law_place", "_law_rows_here", "_law_found", "_law_handed_here", "_law_due"] : List Str) from by decide +kernel) rfl rfl
        (fun ql clos T0 doc pm cv ctv tk0 s1 h => BindsTo.of_defaults rfl h rfl rfl rfl) (fun A outer s H E f c' hr' => pe_call G_needs (hr'.mono (by decide)) rfl T.d_needs.m T.d_needs.F.kp T.d_needs.b .nil (passes_call (takes_of rfl rfl rfl rfl) fun _ _ _ _ h => h) (pa_cons (pv 9) pa_nil)))) (pss_one 
      (ps_if (PW.pt (pw_or (PW.pt (pw_and (pt_val (pe_callB call_isi (by rfl) T.b_isinstance (by decide +kernel) (pa_cons (pv 10) (pa_cons (pe_bltn (v := .ty "tuple") (by rfl) T.b_tuple (by decide +kernel) rfl) pa_nil)))) (pw_and1 (pt_cmpR (op_neD hr.units) (pv 8) (pv 10) (nomark _))))) (pw_or1 (PW.pt (pw_and (pt_val (pe_callB call_isi (by rfl) T.b_isinstance (by decide +kernel) (pa_cons (pv 10) (pa_cons (pe_bltn (v := .ty "int") (by rfl) T.b_int (by decide +kernel) rfl) pa_nil)))) (pw_and1 (pt_not (pt_val (pe_call G_law_is_patch (hr.mono (by decide)) rfl T.d_law_is_patch.m T.d_law_is_patch.F.kp T.d_law_is_patch.b .nil pass0 (pa_cons (pv 8) (pa_cons (pv 7) pa_nil))))))))))) (pss_one 
      (ps_ret pe_bl)) pss_nil)))) pss_nil))))))))))))))) (pss_one 
      (ps_ret pe_bl)))), ?_⟩
    have tb0 : LamX.Tabs [(PL, lamQ)] H := fun p hp => by
      rw [List.mem_singleton.mp hp]
      exact LamX.TabS.nil hP
    refine ⟨_, rfl, a, ns, rfl, hS, hl, fun H1 d s1 hd D1 => ?_⟩
    refine ⟨5, rfl, by decide, by decide, for_range (lo := 0) (n := 5) (fun i σ H2 => ∃ v2 v3 v4 v5 v6 v7 v8 v9 v10 : Option V, σ = [some (.ref a), some (.ref d), v2, v3, v4, v5, v6, v7, v8, v9, v10] ∧ Dice K a ns H2 d ∧ LamX.Tabs [(PL, lamQ)] H2)
      ⟨none, none, none, none, none, none, none, none, none, rfl, D1, Tabs.same tb0 s1⟩ ?_ ?_⟩
    · rintro i σ H2 hi ⟨v2, v3, v4, v5, v6, v7, v8, v9, v10, rfl, D2, t2⟩
      obtain ⟨_, e2⟩ := D2.is
      refine ⟨_, rfl, sizeS (by show 2 ≤ 100000; decide), fun l hl => ⟨_, rfl, a, ns, d, 2, rfl, D2.same (Same.new hl), by decide, by decide, fun H3 r b3 D3 r0 r1 => ?_⟩⟩
      have hl3 : H3 l = some (.lst (List.map V.int [60, 200])) := ints_but (D2.same (Same.new hl)) b3 (by exact upd_same)
      obtain ⟨m, hm, m0, m1⟩ : ∃ m : Int, atI (List.map V.int [60, 200]) r = some (.int m) ∧ 0 ≤ m ∧ m ≤ 200 := by
        have : r = 0 ∨ r = 1 := by omega
        rcases this with rfl | rfl
        · exact ⟨60, rfl, by decide, by decide⟩
        · exact ⟨200, rfl, by decide, by decide⟩
      refine ⟨l, _, _, _, rfl, rfl, SqL.of hl3, hm, a, ns, d, 200, m, rfl, D3, by decide, by decide, m0, by omega, fun H4 p rows b4 D4 hp hR hok htot => ?_⟩
      have hG : Good rows := ⟨hok, by omega⟩
      refine ⟨p, rows, rfl, hR, hG.mid, fun H5 q0 s5 hq0 hq5 => ?_⟩
      have b24 : But d H2 H4 := ((But.new hl).trans b3).trans b4
      obtain ⟨_, e4⟩ := D4.is
      have t4 : LamX.Tabs [(PL, lamQ)] H4 := by
        obtain ⟨_, e3⟩ := D3.is
        exact Tabs.but (Tabs.but (Tabs.same t2 (Same.new hl)) (Same.new hl _ _ e2) b3) e3 b4
      have cm := mcode_len hG.mid
      have c5 : Code7 K a ns d PL H2 H5 q0 (codeOf rows) := ⟨b24.trans (Same.but s5), D4.same s5, Tabs.same t4 s5, none_but D2 D4 b24 hq0, hq5, mcode_b8 hG.mid, by omega⟩
      -- pieces that are too long, now and then
      refine ⟨fun σ' H' => ∃ (q : Addr) (bs : List Int) (v2 v4 v5 v6 v7 v8 v9 v10 : Option V), σ' = [some (.ref a), some (.ref d), v2, some (.ref q), v4, v5, v6, v7, v8, v9, v10] ∧ Code7 K a ns d PL H2 H' q bs ∧ 1 ≤ bs.length ∧ bs.length ≤ 4003, ?_, ?_⟩
      · have D5 := c5.2.1
        refine ⟨_, rfl, a, ns, d, 4, rfl, D5, by decide, by decide, fun H6 x b6 D6 x0 x1 => ⟨rfl, _, rfl, ite2 (fun _ => ?_) fun _ => ?_⟩⟩
        · have c6 := c7_but D2 c5 b6 D6
          refine ⟨sizeS (by show 3 ≤ 100000; decide), fun u1 hu1 => ⟨_, rfl, a, ns, d, 300, rfl, D6.same (Same.new hu1), by decide, by decide, fun H7 y b7 D7 y0 y1 => ⟨_, _, rfl, rfl, sizeS (by show 3 ≤ 100000; decide), fun u2 hu2 => ⟨sizeS (by show 2 ≤ 100000; decide), fun l2 hl2 => ?_⟩⟩⟩⟩
          have g1 : H7 u1 = some (.tup [.str "run", .int 7, .int 150]) := tup_but (D6.same (Same.new hu1)) b7 upd_same
          have c7 := c7_but D2 (c7_same c6 (Same.new (o := .tup [.str "run", .int 7, .int 150]) hu1)) b7 D7
          have c8 := c7_same (c7_same c7 (Same.new (o := .tup [.str "run", .int 7, .int (20 + y)]) hu2)) (Same.new (o := .lst [.ref u1, .ref u2]) hl2)
          have hM : Mid [Row.run 7 150, Row.run 7 (20 + y)] := by
            refine ⟨fun r hr => ?_, by show (150 : Int) + (20 + y + 0) ≤ 1000; omega⟩
            rcases List.mem_cons.mp hr with rfl | hr
            · exact ⟨by decide, by decide, by decide⟩
            · rw [List.mem_singleton.mp hr]; exact ⟨by decide, by decide, by omega⟩
          refine ⟨l2, [Row.run 7 150, Row.run 7 (20 + y)], rfl, ⟨_, upd_same, .cons ⟨u1, rfl, Same.new hl2 _ _ (Same.new hu2 _ _ g1)⟩ (.cons ⟨u2, rfl, Same.new hl2 _ _ upd_same⟩ .nil)⟩, hM, fun H8 q s8 hq hq8 => ?_⟩
          have cm2 := mcode_len hM
          obtain ⟨w1, w2, w3, w4, w5, w6, w7⟩ := c8
          exact ⟨q, _, _, _, _, _, _, _, _, _, rfl, ⟨w1.trans (Same.but s8), w2.same s8, Tabs.same w3 s8, none_but D2 w2 w1 hq, hq8, mcode_b8 hM, by omega⟩, cm2.1, cm2.2⟩
        · exact ⟨q0, _, _, _, _, _, _, _, _, _, rfl, c7_but D2 c5 b6 D6, cm.1, cm.2⟩
      clear c5
      rintro σ' H' ⟨q, bs, v2, v4, v5, v6, v7, v8, v9, v10, rfl, c, hlen, hbl⟩
      have Dc := c.2.1
      refine ⟨_, rfl, _, rfl, _, bs.length, rfl, .inl ⟨_, SqL.of c.2.2.2.2.1, by rw [List.length_map]⟩, a, ns, d, _, rfl, Dc, by omega, by have := c.2.2.2.2.2.2; omega, fun H6 k0 b6 D6 k1 k2 => ⟨_, rfl, a, ns, d, 7, rfl, D6, by decide, by decide, fun H7 pk b7 D7 p0 p1 => ⟨_, _, rfl, ?_⟩⟩⟩
      have c7 := c7_but D2 (c7_but D2 c b6 D6) b7 D7
      -- the code told otherwise
      have el : ∀ bs : List Int, (List.map V.int bs).length = bs.length := fun bs => List.length_map _
      refine ⟨fun σ' H' => ∃ (q : Addr) (bs : List Int) (v2 v6 v7 v8 v9 v10 : Option V), σ' = [some (.ref a), some (.ref d), v2, some (.ref q), some (.int k0), some (.int pk), v6, v7, v8, v9, v10] ∧ Code7 K a ns d PL H2 H' q bs ∧ (pk ≠ 6 → k0 < bs.length ∧ bs.length ≤ 4099), ?_, ?_⟩
      · refine ⟨_, rfl, rfl, _, rfl, ite2 (fun h => ?_) fun _ => ?_⟩
        · have h : pk = 6 := V.int.inj (of_decide_eq_true h)
          refine ⟨_, rfl, _, rfl, a, ns, d, 256, rfl, D7, by decide, by decide, fun H8 x b8 D8 x0 x1 => ⟨sizeS (by show 1 ≤ 100000; decide), fun l2 hl2 => ?_⟩⟩
          have c8 := c7_same (c7_but D2 c7 b8 D8) (Same.new (o := .lst [.int x]) hl2)
          refine ⟨q, l2, _, _, rfl, rfl, c8.2.2.2.2.1, upd_same, sizeS (by rw [el]; have := c8.2.2.2.2.2.2; show bs.length + 1 ≤ 100000; omega), fun g hg => ?_⟩
          refine ⟨g, bs ++ [x], _, _, _, _, _, _, rfl, ?_, fun n => absurd h n⟩
          have cn := c7_new D2 c8 hg (bs' := bs ++ [x]) (c8.2.2.2.2.2.1.app (b8_one x0 x1)) (by rw [List.length_append]; show bs.length + 1 ≤ 4100; omega)
          rw [List.map_append] at cn
          exact cn
        · exact ⟨q, bs, _, _, _, _, _, _, rfl, c7, fun _ => ⟨k2, by omega⟩⟩
      clear c7 D7 b7 c Dc
      rintro σ' H' ⟨q, bs, v2, v6, v7, v8, v9, v10, rfl, c, hk⟩
      -- a byte changed
      refine ⟨fun σ' H' => ∃ (q : Addr) (bs : List Int) (v2 v6 v7 v8 v9 v10 : Option V), σ' = [some (.ref a), some (.ref d), v2, some (.ref q), some (.int k0), some (.int pk), v6, v7, v8, v9, v10] ∧ Code7 K a ns d PL H2 H' q bs ∧ (pk ≠ 6 → k0 < bs.length ∧ bs.length ≤ 4099), ?_, ?_⟩
      · refine ⟨_, rfl, _, _, rfl, rfl, _, rfl, ite2 (fun h => ?_) fun _ => ⟨q, bs, _, _, _, _, _, _, rfl, c, hk⟩⟩
        have h : pk < 3 := of_decide_eq_true h
        obtain ⟨hk1, hk2⟩ := hk (by omega)
        obtain ⟨b, eb⟩ : ∃ b, bs[k0.toNat]? = some b := ⟨_, List.getElem?_eq_getElem (show k0.toNat < bs.length by omega)⟩
        have bb := c.2.2.2.2.2.1 b (List.mem_of_getElem? eb)
        have ib := atIb k1 eb
        refine ⟨_, rfl, a, ns, d, 256, rfl, c.2.1, by decide, by decide, fun H8 x b8 D8 x0 x1 => ?_⟩
        have c8 := c7_but D2 c b8 D8
        have hq8 := c8.2.2.2.2.1
        refine ⟨_, rfl, _, rfl, q, _, _, _, rfl, rfl, SqL.of hq8, ib, _, _, rfl, rfl, _, rfl, _, rfl, q, _, _, _, rfl, rfl, SqL.of hq8, ib, _, _, rfl, rfl, _, _, rfl, rfl, (by show (0 : Int) < 256; decide), sizeS (by show 3 ≤ 100000; decide), fun l2 hl2 => ?_⟩
        have c9 := c7_same c8 (Same.new (o := .lst [.int x, .int (Builtin.bitXor b 128), .int ((b + 1) % 256)]) hl2)
        have xb := xor128 bb.1 bb.2
        obtain ⟨y, hy, y0, y1⟩ : ∃ y : Int, atI [V.int x, V.int (Builtin.bitXor b 128), V.int ((b + 1) % 256)] pk = some (.int y) ∧ 0 ≤ y ∧ y < 256 := by
          have : pk = 0 ∨ pk = 1 ∨ pk = 2 := by omega
          rcases this with rfl | rfl | rfl
          · exact ⟨x, rfl, x0, x1⟩
          · exact ⟨_, rfl, xb.1, xb.2⟩
          · exact ⟨(b + 1) % 256, rfl, Int.emod_nonneg _ (by decide), Int.emod_lt_of_pos _ (by decide)⟩
        refine ⟨_, rfl, l2, _, _, _, rfl, rfl, SqL.of upd_same, hy, _, rfl, _, rfl, q, _, k0, k0.toNat, rfl, rfl, c9.2.2.2.2.1, ixN_at k1 (by rw [el]; exact hk1), ?_⟩
        have cn := c7_put D2 c9 (bs' := bs.set k0.toNat y) (b8_set c9.2.2.2.2.2.1 y0 y1) (by rw [List.length_set]; omega)
        rw [List.map_set] at cn
        exact ⟨q, bs.set k0.toNat y, _, _, _, _, _, _, rfl, cn, fun _ => by rw [List.length_set]; exact ⟨hk1, hk2⟩⟩
      clear c hk
      rintro σ' H' ⟨q, bs, v2, v6, v7, v8, v9, v10, rfl, c, hk⟩
      -- one left out
      refine ⟨fun σ' H' => ∃ (q : Addr) (bs : List Int) (v2 v6 v7 v8 v9 v10 : Option V), σ' = [some (.ref a), some (.ref d), v2, some (.ref q), some (.int k0), some (.int pk), v6, v7, v8, v9, v10] ∧ Code7 K a ns d PL H2 H' q bs ∧ (pk = 4 ∨ pk = 5 → k0 < bs.length ∧ bs.length ≤ 4099), ?_, ?_⟩
      · refine ⟨_, rfl, rfl, _, rfl, ite2 (fun h => ?_) fun _ => ⟨q, bs, _, _, _, _, _, _, rfl, c, fun z => hk (by omega)⟩⟩
        have h : pk = 3 := V.int.inj (of_decide_eq_true h)
        obtain ⟨hk1, hk2⟩ := hk (by omega)
        have hq8 := c.2.2.2.2.1
        refine ⟨_, rfl, _, rfl, _, rfl, q, _, rfl, SqL.of hq8, fun u hu => ?_⟩
        rw [cutT k1 (by omega)]
        have c9 := c7_same c (Same.new (o := .lst (List.map V.int (bs.take k0.toNat))) hu)
        refine ⟨_, rfl, _, rfl, _, _, rfl, rfl, _, rfl, q, _, rfl, SqL.of c9.2.2.2.2.1, fun u2 hu2 => ?_⟩
        rw [cutD (show 0 ≤ k0 + 1 by omega) (by omega)]
        have c10 := c7_same c9 (Same.new (o := .lst (List.map V.int (bs.drop (k0 + 1).toNat))) hu2)
        refine ⟨u, u2, _, _, rfl, rfl, Same.new hu2 _ _ upd_same, upd_same, sizeS (by rw [el, el, List.length_take, List.length_drop]; omega), fun g hg => ?_⟩
        have cn := c7_new D2 c10 hg (bs' := bs.take k0.toNat ++ bs.drop (k0 + 1).toNat) ((b8_take c.2.2.2.2.2.1 _).app (b8_drop c.2.2.2.2.2.1 _)) (by rw [List.length_append, List.length_take, List.length_drop]; omega)
        rw [List.map_append] at cn
        exact ⟨g, _, _, _, _, _, _, _, rfl, cn, fun z => by omega⟩
      clear c hk
      rintro σ' H' ⟨q, bs, v2, v6, v7, v8, v9, v10, rfl, c, hk⟩
      -- one put in
      refine ⟨fun σ' H' => ∃ (q : Addr) (bs : List Int) (v2 v6 v7 v8 v9 v10 : Option V), σ' = [some (.ref a), some (.ref d), v2, some (.ref q), some (.int k0), some (.int pk), v6, v7, v8, v9, v10] ∧ Code7 K a ns d PL H2 H' q bs ∧ (pk = 5 → k0 < bs.length ∧ bs.length ≤ 4099), ?_, ?_⟩
      · refine ⟨_, rfl, rfl, _, rfl, ite2 (fun h => ?_) fun _ => ⟨q, bs, _, _, _, _, _, _, rfl, c, fun z => hk (by omega)⟩⟩
        have h : pk = 4 := V.int.inj (of_decide_eq_true h)
        obtain ⟨hk1, hk2⟩ := hk (by omega)
        have hq8 := c.2.2.2.2.1
        refine ⟨_, rfl, _, rfl, _, rfl, q, _, rfl, SqL.of hq8, fun u hu => ?_⟩
        rw [cutT k1 (by omega)]
        have c9 := c7_same c (Same.new (o := .lst (List.map V.int (bs.take k0.toNat))) hu)
        refine ⟨_, rfl, a, ns, d, 256, rfl, c9.2.1, by decide, by decide, fun H8 x b8 D8 x0 x1 => ⟨sizeS (by show 1 ≤ 100000; decide), fun l2 hl2 => ?_⟩⟩
        have hu8 : H8 u = some (.lst (List.map V.int (bs.take k0.toNat))) := ints_but c9.2.1 b8 upd_same
        have c10 := c7_same (c7_but D2 c9 b8 D8) (Same.new (o := .lst [.int x]) hl2)
        refine ⟨u, l2, _, _, rfl, rfl, Same.new hl2 _ _ hu8, upd_same, sizeS (by rw [el, List.length_take]; show _ + 1 ≤ 100000; omega), fun g hg => ?_⟩
        have c11 := c7_same c10 (Same.new (o := .lst (List.map V.int (bs.take k0.toNat) ++ [V.int x])) hg)
        refine ⟨_, rfl, _, rfl, _, rfl, q, _, rfl, SqL.of c11.2.2.2.2.1, fun u2 hu2 => ?_⟩
        rw [cutD k1 (by omega)]
        have c12 := c7_same c11 (Same.new (o := .lst (List.map V.int (bs.drop k0.toNat))) hu2)
        refine ⟨g, u2, _, _, rfl, rfl, Same.new hu2 _ _ upd_same, upd_same, sizeS (by rw [List.length_append, el, el, List.length_take, List.length_drop]; show _ + 1 + _ ≤ 100000; omega), fun g2 hg2 => ?_⟩
        have cn := c7_new D2 c12 hg2 (bs' := bs.take k0.toNat ++ [x] ++ bs.drop k0.toNat) (((b8_take c.2.2.2.2.2.1 _).app (b8_one x0 x1)).app (b8_drop c.2.2.2.2.2.1 _)) (by rw [List.length_append, List.length_append, List.length_take, List.length_drop]; show _ + 1 + _ ≤ 4100; omega)
        rw [List.map_append, List.map_append] at cn
        exact ⟨g2, _, _, _, _, _, _, _, rfl, cn, fun z => by omega⟩
      clear c hk
      rintro σ' H' ⟨q, bs, v2, v6, v7, v8, v9, v10, rfl, c, hk⟩
      -- cut off
      refine ⟨fun σ' H' => ∃ (q : Addr) (bs : List Int) (v2 v6 v7 v8 v9 v10 : Option V), σ' = [some (.ref a), some (.ref d), v2, some (.ref q), some (.int k0), some (.int pk), v6, v7, v8, v9, v10] ∧ Code7 K a ns d PL H2 H' q bs, ?_, ?_⟩
      · refine ⟨_, rfl, rfl, _, rfl, ite2 (fun h => ?_) fun _ => ⟨q, bs, _, _, _, _, _, _, rfl, c⟩⟩
        have h : pk = 5 := V.int.inj (of_decide_eq_true h)
        obtain ⟨hk1, hk2⟩ := hk h
        refine ⟨_, rfl, _, rfl, _, rfl, q, _, rfl, SqL.of c.2.2.2.2.1, fun u hu => ?_⟩
        rw [cutT k1 (by omega)]
        exact ⟨u, _, _, _, _, _, _, _, rfl, c7_new D2 c hu (b8_take c.2.2.2.2.2.1 _) (by rw [List.length_take]; omega)⟩
      clear c hk
      rintro σ' H' ⟨q, bs, v2, v6, v7, v8, v9, v10, rfl, c⟩
      -- the check told anew
      refine ⟨fun σ' H' => ∃ (q : Addr) (bs : List Int) (v2 v6 v7 v8 v9 v10 : Option V), σ' = [some (.ref a), some (.ref d), v2, some (.ref q), some (.int k0), some (.int pk), v6, v7, v8, v9, v10] ∧ Code7 K a ns d PL H2 H' q bs, ?_, ?_⟩
      · refine ⟨_, rfl, sizeS (by show 0 ≤ 100000; decide), fun em hem => ⟨q, em, _, rfl, rfl, Same.new hem _ _ c.2.2.2.2.1, upd_same, _, rfl, ite2 (fun hne => ?_) fun _ => iteF ?_⟩⟩
        · have c8 := c7_same c (Same.new (o := .lst []) hem)
          have hpos : 1 ≤ bs.length := by
            cases bs with
            | nil => exact absurd hne (by decide)
            | cons b l => exact Nat.le_add_left _ _
          refine ⟨_, rfl, _, _, rfl, rfl, _, rfl, ite2 (fun _ => ?_) fun _ => iteF ⟨q, bs, _, _, _, _, _, _, rfl, c8⟩⟩
          refine ⟨_, rfl, a, ns, d, 2, rfl, c8.2.1, by decide, by decide, fun H8 x b8 D8 x0 x1 => ⟨rfl, _, rfl, ite2 (fun _ => ?_) fun _ => ⟨q, bs, _, _, _, _, _, _, rfl, c7_but D2 c8 b8 D8⟩⟩⟩
          have c9 := c7_but D2 c8 b8 D8
          obtain ⟨cs, ecs⟩ := cutI bs none (some (-1))
          refine ⟨_, rfl, _, rfl, _, rfl, q, _, rfl, SqL.of c9.2.2.2.2.1, fun u hu => ?_⟩
          rw [show (-1 : Int) = -1 from rfl] at ecs
          refine ⟨u, cs, rfl, SqL.of (by rw [upd_same]; exact congrArg some (congrArg HO.lst ecs)), _, _, rfl, rfl, (by show (0 : Int) < 251; decide), _, rfl, _, rfl, q, _, -1, bs.length - 1, rfl, rfl, Same.new hu _ _ c9.2.2.2.2.1, by rw [el]; exact ixN_last hpos, ?_⟩
          have c10 := c7_same c9 (Same.new hu (o := .lst (cutV (List.map V.int bs) none (some (-1)))))
          have cn := c7_put D2 c10 (bs' := bs.set (bs.length - 1) (cs.sum % 251)) (b8_set c9.2.2.2.2.2.1 (Int.emod_nonneg _ (by decide)) (by have := Int.emod_lt_of_pos cs.sum (show (0 : Int) < 251 by decide); omega)) (by rw [List.length_set]; exact c9.2.2.2.2.2.2)
          rw [List.map_set] at cn
          exact ⟨q, _, _, _, _, _, _, _, rfl, cn⟩
        · exact ⟨q, bs, _, _, _, _, _, _, rfl, c7_same c (Same.new (o := .lst []) hem)⟩
      clear c
      rintro σ' H' ⟨q, bs, v2, v6, v7, v8, v9, v10, rfl, c1, Dc, tc, c4, hq, hb, hl⟩
      -- the law's own reading, and the program's
      refine ⟨_, rfl, q, bs, rfl, hq, hb, by omega, fun e he Hp p sp hp => ?_, fun rs e he hlt Hp p sp hp => ?_, fun rs e he hge Hp p l sp hR hp => ?_⟩
      · -- the code can't be read
        refine ⟨p, _, rfl, SqT.of hp, rfl, _, _, rfl, _, _, rfl, rfl, ?_⟩
        refine ⟨Tabs.same tc sp, fun Ht et tt => ?_⟩
        have Dt := (Dc.same sp).ext et
        have hqt : Ht q = some (.lst (List.map V.int bs)) := et _ _ (sp _ _ hq) fun ps z => by cases z
        refine ⟨_, rfl, q, bs, rfl, SqL.of hqt, hb, bs, rfl, hb, by omega, fun rs x h => ?_, fun rs x h => ?_, fun x h Hx dd sx hdd => ?_⟩
        · rw [he] at h; cases h
        · rw [he] at h; cases h
        · rw [he] at h
          cases h
          refine ⟨3, C, rfl, by decide, TC, .inl ⟨"place", dd, _, rfl, O_BadCode.noN, rfl, upd_same, fun Hy pr sy _ hpr => ?_⟩⟩
          have sxy := sx.trans ((Same.new hdd).trans sy)
          have Dy := Dt.same sxy
          have Ty := Tabs.same tt sxy
          -- the place e is told: the code is refused there
          refine ⟨_, rfl, rfl, _, rfl, ite2 (fun _ => ?_) fun h => absurd (by simp) h⟩
          refine ⟨_, rfl, _, rfl, sizeS (by show 3 ≤ 100000; decide), fun tp htp => ?_⟩
          refine ⟨_, _, dp_ref3 (Same.new htp _ _ hpr), dp_ref3 upd_same, sh_ref3 "refused" "BadCode" _, sh_ref3 "refused" "BadCode" _, ?_⟩
          rw [show nameOf 3 = ("BadCode" : Str) from rfl, eqv_ref3 "refused" "BadCode"]
          refine ⟨_, rfl, iteF ?_⟩
          refine ⟨_, rfl, rfl, _, rfl, ite2 (fun h => absurd h ne_non) fun _ => ?_⟩
          exact ⟨_, _, _, _, _, _, _, _, _, rfl, Dy.same (Same.new htp), Tabs.same Ty (Same.new htp)⟩
      · -- a byte behind the check
        refine ⟨p, _, rfl, SqT.of hp, rfl, _, _, rfl, _, _, rfl, rfl, ?_⟩
        refine ⟨Tabs.same tc sp, fun Ht et tt => ?_⟩
        have Dt := (Dc.same sp).ext et
        have hqt : Ht q = some (.lst (List.map V.int bs)) := et _ _ (sp _ _ hq) fun ps z => by cases z
        refine ⟨_, rfl, q, bs, rfl, SqL.of hqt, hb, bs, rfl, hb, by omega, fun rs x h hx => ?_, fun rs x h _ Hx dd sx hdd => ?_, fun x h => ?_⟩
        · rw [he] at h; cases h; exact absurd hx (by omega)
        · rw [he] at h
          cases h
          refine ⟨3, C, rfl, by decide, TC, .inl ⟨"place", dd, _, rfl, O_BadCode.noN, rfl, upd_same, fun Hy pr sy _ hpr => ?_⟩⟩
          have sxy := sx.trans ((Same.new hdd).trans sy)
          have Dy := Dt.same sxy
          have Ty := Tabs.same tt sxy
          -- the place e is told: the code is refused there
          refine ⟨_, rfl, rfl, _, rfl, ite2 (fun _ => ?_) fun h => absurd (by simp) h⟩
          refine ⟨_, rfl, _, rfl, sizeS (by show 3 ≤ 100000; decide), fun tp htp => ?_⟩
          refine ⟨_, _, dp_ref3 (Same.new htp _ _ hpr), dp_ref3 upd_same, sh_ref3 "refused" "BadCode" _, sh_ref3 "refused" "BadCode" _, ?_⟩
          rw [show nameOf 3 = ("BadCode" : Str) from rfl, eqv_ref3 "refused" "BadCode"]
          refine ⟨_, rfl, iteF ?_⟩
          refine ⟨_, rfl, rfl, _, rfl, ite2 (fun h => absurd h ne_non) fun _ => ?_⟩
          exact ⟨_, _, _, _, _, _, _, _, _, rfl, Dy.same (Same.new htp), Tabs.same Ty (Same.new htp)⟩
        · rw [he] at h; cases h
      · -- it's read: the patch, or the piece that can't be
        have hfine := codeAt_fine hb (Int.le_refl _) he
        refine ⟨p, _, rfl, SqT.of hp, rfl, _, _, rfl, _, _, rfl, rfl, ?_⟩
        refine ⟨Tabs.same tc sp, fun Ht et tt => ?_⟩
        have Dt := (Dc.same sp).ext et
        have hqt : Ht q = some (.lst (List.map V.int bs)) := et _ _ (sp _ _ hq) fun ps z => by cases z
        have hRt : RowsAt Ht l rs := by
          obtain ⟨ws, hw, pw⟩ := hR
          exact ⟨ws, et _ _ hw fun ps z => (by cases z), pairedMap pw fun _ _ x => x.keep (Tups.ext et) fun q2 ns2 z => et _ _ z fun ps y => by cases y⟩
        have hok : ∀ r ∈ rs, r.ok 40000 := fun r hr => (hfine.1 r hr).1
        refine ⟨_, rfl, q, bs, rfl, SqL.of hqt, hb, bs, rfl, hb, by omega, fun rs2 x h _ => ?_, fun rs2 x h hx => ?_, fun x h => ?_⟩
        · rw [he] at h
          cases h
          refine ⟨fun hG Hx v sx hV => ?_, fun i0 hbad Hx dd sx hdd => ?_⟩
          · -- good
            refine ⟨_, rfl, rfl, _, rfl, ite2 (fun h => absurd h (by decide)) fun _ => iteF ?_⟩
            refine ⟨_, rfl, rfl, _, rfl, ite2 (fun _ => ?_) fun h => absurd (by decide) h⟩
            refine ⟨_, rfl, l, rs, 40000, rfl, hRt.same sx, hok, by omega, fun Hy w0 sy hW => ?_⟩
            refine ⟨Tabs.same (Tabs.same tt sx) sy, fun Hu eu tu => ?_⟩
            have Du := ((Dt.same sx).same sy).ext eu
            have hVu := (hV.tups (Same.tups sy)).tups (Tups.ext eu)
            have hRu : RowsAt Hu l rs := by
              obtain ⟨ws, hw, pw⟩ := (hRt.same sx).same sy
              exact ⟨ws, eu _ _ hw fun ps z => (by cases z), pairedMap pw fun _ _ x => x.keep (Tups.ext eu) fun q2 ns2 z => eu _ _ z fun ps y => by cases y⟩
            refine ⟨_, rfl, w0, rs, rfl, hW.tups (Tups.ext eu), hfine.1, by omega, fun _ Hz sz => ?_, fun i0 hbad => absurd hG hbad.not⟩
            refine ⟨_, rfl, _, _, _, _, false, rfl, .ty _, .base (.int _), kit_ty (by decide +kernel), false, rfl, iteF (iteF ?_)⟩
            refine ⟨_, rfl, _, _, _, _, true, rfl, .ty _, .base (.int _), kit_ty (by decide +kernel), true, rfl, iteT ?_⟩
            refine ⟨_, rfl, _, rfl, v, l, rs, 40000, rfl, hVu.tups (Same.tups sz), hRu.same sz, hok, by have := hG.2; omega, fun Hw sw => ⟨_, rfl, iteF ?_⟩⟩
            have DZ := (Du.same sz).same sw
            have TZ := Tabs.same (Tabs.same tu sz) sw
            exact ⟨_, _, _, _, _, _, _, _, _, rfl, DZ, TZ⟩
          · -- bad
            refine ⟨0, CP, rfl, by decide, TCP, .inl ⟨"piece", dd, _, rfl, O_BadPatch.noN, rfl, upd_same, fun Hy pr sy _ hpr => ?_⟩⟩
            have sxy := sx.trans ((Same.new hdd).trans sy)
            refine ⟨_, rfl, rfl, _, rfl, ite2 (fun h => absurd h (by decide)) fun _ => iteF ?_⟩
            refine ⟨_, rfl, rfl, _, rfl, ite2 (fun _ => ?_) fun h => absurd (by decide) h⟩
            refine ⟨_, rfl, l, rs, 40000, rfl, hRt.same sxy, hok, by omega, fun Hv w0 sv hW => ?_⟩
            refine ⟨Tabs.same (Tabs.same tt sxy) sv, fun Hu eu tu => ?_⟩
            have Du := ((Dt.same sxy).same sv).ext eu
            have hpru : Hu pr = some (.tup [.str "refused", .str (nameOf 0), .int (i0 : Nat)]) := Tups.ext eu _ _ (sv _ _ hpr)
            refine ⟨_, rfl, w0, rs, rfl, hW.tups (Tups.ext eu), hfine.1, by omega, fun hG => absurd hG hbad.not, fun i1 hbad1 Hz dd2 sz hdd2 => ?_⟩
            cases hbad.one hbad1
            refine ⟨0, CP, rfl, by decide, TCP, .inl ⟨"piece", dd2, _, rfl, O_BadPatch.noN, rfl, upd_same, fun Hw pr2 sw _ hpr2 => ?_⟩⟩
            have szw := sz.trans ((Same.new hdd2).trans sw)
            refine ⟨_, rfl, _, _, _, _, true, rfl, .ty _, .base (.tup hpr2), kit_ty (by decide +kernel), true, rfl, iteT ?_⟩
            refine ⟨_, rfl, _, rfl, _, _, dp_ref3 (szw _ _ hpru), dp_ref3 hpr2, sh_ref3 "refused" "BadPatch" _, sh_ref3 "refused" "BadPatch" _, ?_⟩
            rw [show nameOf 0 = ("BadPatch" : Str) from rfl, eqv_ref3 "refused" "BadPatch"]
            refine ⟨_, rfl, iteF ?_⟩
            refine ⟨_, rfl, _, _, _, _, false, rfl, .ty _, .base (.tup hpr2), kit_ty (by decide +kernel), false, rfl, iteF (iteF ?_)⟩
            have DZ := Du.same szw
            have TZ := Tabs.same tu szw
            exact ⟨_, _, _, _, _, _, _, _, _, rfl, DZ, TZ⟩
        · rw [he] at h; cases h; exact absurd hx (by omega)
        · rw [he] at h; cases h
    · rintro σ H2 ⟨v2, v3, v4, v5, v6, v7, v8, v9, v10, rfl, D2, _⟩
      exact k H2
end
theorem tab_at {K : PySem.W.Frag} {x : Str} {f c P : Addr} {oc : Value} {od : Option Addr} {fd : FuncData} {sl : Array (Option Value)} {cl : Value} {cd : Option Addr} {vs : Array Value} {cs : Array (Option Value)} (a : PySem.W.nsIn K mainGlobals x = some (some (.ref f))) (l : K.lookup f = some ⟨oc, od, .func fd, sl⟩)
    (hc : fd.code = .ref c) (lc : K.lookup c = some ⟨cl, cd, .fields vs, cs⟩) (hp : vs[11]? = some (.ref P)) : PySem.W.tabIn K x = some (c, P) := by
  unfold PySem.W.tabIn
  rw [a]; dsimp only; rw [l]; dsimp only; rw [hc]; dsimp only; rw [lc]; dsimp only; rw [hp]
theorem all_mk {l : PySem.W.OpenLaw} {w : World} {K : PySem.W.Frag} {h : Heap} {mg : Str → Option Value} {fa f0 f1 f2 f3 f4 f5 f6 f7 f8 f9 f10 f11 f12 f13 f14 f15 f16 f17 f18 f19 f20 f21 f22 f23 f24 f25 f26 f27 f28 k_PatchError k_BadEdition k_BadPatch k_Beyond k_BadCount k_BadMeet k_BadCode k_TooMany k_BadPieces k_BadOrder k_BadMarks k_Underway k_Asleep k_Awake k_BadCell cL PL : Addr} (X : K.In h) (G : h.Ns mainGlobals mg) (hfa : mg "law" = some (.ref fa))
    {od0 an0 od1 an1 od2 an2 od3 an3 od4 an4 od5 an5 od6 an6 od7 an7 od8 an8 od9 an9 od10 an10 od11 an11 od12 an12 od13 an13 od14 an14 od15 an15 od16 an16 od17 an17 od18 an18 od19 an19 od20 an20 od21 an21 od22 an22 od23 an23 od24 an24 od25 an25 od26 an26 od27 an27 od28 an28 : Option Addr} {sl0 sl1 sl2 sl3 sl4 sl5 sl6 sl7 sl8 sl9 sl10 sl11 sl12 sl13 sl14 sl15 sl16 sl17 sl18 sl19 sl20 sl21 sl22 sl23 sl24 sl25 sl26 sl27 sl28 : Array (Option Value)} {oc0 kV0 dc0 pm0 ct0 cd0 oc1 kV1 dc1 pm1 ct1 cd1 oc2 kV2 dc2 pm2 ct2 cd2 oc3 kV3 dc3 pm3 ct3 cd3 oc4 kV4 dc4 pm4 ct4 cd4 oc5 kV5 dc5 pm5 ct5 cd5 oc6 kV6 dc6 pm6 ct6 cd6 oc7 kV7 dc7 pm7 ct7 cd7 oc8 kV8 dc8 pm8 ct8 cd8 oc9 kV9 dc9 pm9 ct9 cd9 oc10 kV10 dc10 pm10 ct10 cd10 oc11 kV11 dc11 pm11 ct11 cd11 oc12 kV12 dc12 pm12 ct12 cd12 oc13 kV13 dc13 pm13 ct13 cd13 oc14 kV14 dc14 pm14 ct14 cd14 oc15 kV15 dc15 pm15 ct15 cd15 oc16 kV16 dc16 pm16 ct16 cd16 oc17 kV17 dc17 pm17 ct17 cd17 oc18 kV18 dc18 pm18 ct18 cd18 oc19 kV19 dc19 pm19 ct19 cd19 oc20 kV20 dc20 pm20 ct20 cd20 oc21 kV21 dc21 pm21 ct21 cd21 oc22 kV22 dc22 pm22 ct22 cd22 oc23 kV23 dc23 pm23 ct23 cd23 oc24 kV24 dc24 pm24 ct24 cd24 oc25 kV25 dc25 pm25 ct25 cd25 oc26 kV26 dc26 pm26 ct26 cd26 oc27 kV27 dc27 pm27 ct27 cd27 oc28 kV28 dc28 pm28 ct28 : Value}
    {clL : Value} {cdL : Option Addr} {csL : Array (Option Value)} {vsL : Array Value}
    (a0 : PySem.W.nsIn K mainGlobals "bytes_of" = some (some (.ref f0)))
    (l0 : K.lookup f0 = some ⟨oc0, od0, .func (PySem.W.fnOf "bytes_of" "bytes_of" (defArgs s_bytes_of) (defBody s_bytes_of) (defScope s_bytes_of) .none kV0 dc0 pm0 an0 cd0 ct0), sl0⟩)
    (c0 : PySem.W.codeIn K cd0 "bytes_of" = true) (k0 : PySem.W.keepIn K (.ref f0) = true)
    (a1 : PySem.W.nsIn K mainGlobals "numbers_of" = some (some (.ref f1)))
    (l1 : K.lookup f1 = some ⟨oc1, od1, .func (PySem.W.fnOf "numbers_of" "numbers_of" (defArgs s_numbers_of) (defBody s_numbers_of) (defScope s_numbers_of) .none kV1 dc1 pm1 an1 cd1 ct1), sl1⟩)
    (c1 : PySem.W.codeIn K cd1 "numbers_of" = true) (k1 : PySem.W.keepIn K (.ref f1) = true)
    (a2 : PySem.W.nsIn K mainGlobals "is_number" = some (some (.ref f2)))
    (l2 : K.lookup f2 = some ⟨oc2, od2, .func (PySem.W.fnOf "is_number" "is_number" (defArgs s_is_number) (defBody s_is_number) (defScope s_is_number) .none kV2 dc2 pm2 an2 cd2 ct2), sl2⟩)
    (c2 : PySem.W.codeIn K cd2 "is_number" = true) (k2 : PySem.W.keepIn K (.ref f2) = true)
    (a3 : PySem.W.nsIn K mainGlobals "can_be" = some (some (.ref f3)))
    (l3 : K.lookup f3 = some ⟨oc3, od3, .func (PySem.W.fnOf "can_be" "can_be" (defArgs s_can_be) (defBody s_can_be) (defScope s_can_be) .none kV3 dc3 pm3 an3 cd3 ct3), sl3⟩)
    (c3 : PySem.W.codeIn K cd3 "can_be" = true) (k3 : PySem.W.keepIn K (.ref f3) = true)
    (a4 : PySem.W.nsIn K mainGlobals "length_of" = some (some (.ref f4)))
    (l4 : K.lookup f4 = some ⟨oc4, od4, .func (PySem.W.fnOf "length_of" "length_of" (defArgs s_length_of) (defBody s_length_of) (defScope s_length_of) .none kV4 dc4 pm4 an4 cd4 ct4), sl4⟩)
    (c4 : PySem.W.codeIn K cd4 "length_of" = true) (k4 : PySem.W.keepIn K (.ref f4) = true)
    (a5 : PySem.W.nsIn K mainGlobals "check_patch" = some (some (.ref f5)))
    (l5 : K.lookup f5 = some ⟨oc5, od5, .func (PySem.W.fnOf "check_patch" "check_patch" (defArgs s_check_patch) (defBody s_check_patch) (defScope s_check_patch) .none kV5 dc5 pm5 an5 cd5 ct5), sl5⟩)
    (c5 : PySem.W.codeIn K cd5 "check_patch" = true) (k5 : PySem.W.keepIn K (.ref f5) = true)
    (a6 : PySem.W.nsIn K mainGlobals "decoded" = some (some (.ref f6)))
    (l6 : K.lookup f6 = some ⟨oc6, od6, .func (PySem.W.fnOf "decoded" "decoded" (defArgs s_decoded) (defBody s_decoded) (defScope s_decoded) .none kV6 dc6 pm6 an6 cd6 ct6), sl6⟩)
    (c6 : PySem.W.codeIn K cd6 "decoded" = true) (k6 : PySem.W.keepIn K (.ref f6) = true)
    (a7 : PySem.W.nsIn K mainGlobals "check_of" = some (some (.ref f7)))
    (l7 : K.lookup f7 = some ⟨oc7, od7, .func (PySem.W.fnOf "check_of" "check_of" (defArgs s_check_of) (defBody s_check_of) (defScope s_check_of) .none kV7 dc7 pm7 an7 cd7 ct7), sl7⟩)
    (c7 : PySem.W.codeIn K cd7 "check_of" = true) (k7 : PySem.W.keepIn K (.ref f7) = true)
    (a8 : PySem.W.nsIn K mainGlobals "code_at" = some (some (.ref f8)))
    (l8 : K.lookup f8 = some ⟨oc8, od8, .func (PySem.W.fnOf "code_at" "code_at" (defArgs s_code_at) (defBody s_code_at) (defScope s_code_at) .none kV8 dc8 pm8 an8 cd8 ct8), sl8⟩)
    (c8 : PySem.W.codeIn K cd8 "code_at" = true) (k8 : PySem.W.keepIn K (.ref f8) = true)
    (a9 : PySem.W.nsIn K mainGlobals "several_at" = some (some (.ref f9)))
    (l9 : K.lookup f9 = some ⟨oc9, od9, .func (PySem.W.fnOf "several_at" "several_at" (defArgs s_several_at) (defBody s_several_at) (defScope s_several_at) .none kV9 dc9 pm9 an9 cd9 ct9), sl9⟩)
    (c9 : PySem.W.codeIn K cd9 "several_at" = true) (k9 : PySem.W.keepIn K (.ref f9) = true)
    (a10 : PySem.W.nsIn K mainGlobals "check_at" = some (some (.ref f10)))
    (l10 : K.lookup f10 = some ⟨oc10, od10, .func (PySem.W.fnOf "check_at" "check_at" (defArgs s_check_at) (defBody s_check_at) (defScope s_check_at) .none kV10 dc10 pm10 an10 cd10 ct10), sl10⟩)
    (c10 : PySem.W.codeIn K cd10 "check_at" = true) (k10 : PySem.W.keepIn K (.ref f10) = true)
    (a11 : PySem.W.nsIn K mainGlobals "byte_at" = some (some (.ref f11)))
    (l11 : K.lookup f11 = some ⟨oc11, od11, .func (PySem.W.fnOf "byte_at" "byte_at" (defArgs s_byte_at) (defBody s_byte_at) (defScope s_byte_at) .none kV11 dc11 pm11 an11 cd11 ct11), sl11⟩)
    (c11 : PySem.W.codeIn K cd11 "byte_at" = true) (k11 : PySem.W.keepIn K (.ref f11) = true)
    (a12 : PySem.W.nsIn K mainGlobals "bytes_at" = some (some (.ref f12)))
    (l12 : K.lookup f12 = some ⟨oc12, od12, .func (PySem.W.fnOf "bytes_at" "bytes_at" (defArgs s_bytes_at) (defBody s_bytes_at) (defScope s_bytes_at) .none kV12 dc12 pm12 an12 cd12 ct12), sl12⟩)
    (c12 : PySem.W.codeIn K cd12 "bytes_at" = true) (k12 : PySem.W.keepIn K (.ref f12) = true)
    {dT13 : Addr} {itsD13 : Array Value} {nD13 : Nat} {slD13 : Array (Option Value)} {tD13_0 : Tok}
    (a13 : PySem.W.nsIn K mainGlobals "number_at" = some (some (.ref f13)))
    (l13 : K.lookup f13 = some ⟨oc13, od13, .func (PySem.W.fnOf "number_at" "number_at" (defArgs s_number_at) (defBody s_number_at) (defScope s_number_at) (.ref dT13) kV13 dc13 pm13 an13 cd13 ct13), sl13⟩)
    (c13 : PySem.W.codeIn K cd13 "number_at" = true) (k13 : PySem.W.keepIn K (.ref f13) = true)
    (yD13 : K.lookup dT13 = some ⟨.type "tuple", none, .seq itsD13 nD13, slD13⟩)
    (xD13 : itsD13 = #[.int 2 tD13_0])
    (a14 : PySem.W.nsIn K mainGlobals "piece_at" = some (some (.ref f14)))
    (l14 : K.lookup f14 = some ⟨oc14, od14, .func (PySem.W.fnOf "piece_at" "piece_at" (defArgs s_piece_at) (defBody s_piece_at) (defScope s_piece_at) .none kV14 dc14 pm14 an14 cd14 ct14), sl14⟩)
    (c14 : PySem.W.codeIn K cd14 "piece_at" = true) (k14 : PySem.W.keepIn K (.ref f14) = true)
    (a15 : PySem.W.nsIn K mainGlobals "needs" = some (some (.ref f15)))
    (l15 : K.lookup f15 = some ⟨oc15, od15, .func (PySem.W.fnOf "needs" "needs" (defArgs s_needs) (defBody s_needs) (defScope s_needs) .none kV15 dc15 pm15 an15 cd15 ct15), sl15⟩)
    (c15 : PySem.W.codeIn K cd15 "needs" = true) (k15 : PySem.W.keepIn K (.ref f15) = true)
    (a16 : PySem.W.nsIn K mainGlobals "_law_dice" = some (some (.ref f16)))
    (l16 : K.lookup f16 = some ⟨oc16, od16, .func (PySem.W.fnOf "_law_dice" "_law_dice" (defArgs s_law_dice) (defBody s_law_dice) (defScope s_law_dice) .none kV16 dc16 pm16 an16 cd16 ct16), sl16⟩)
    (c16 : PySem.W.codeIn K cd16 "_law_dice" = true) (k16 : PySem.W.keepIn K (.ref f16) = true)
    (a17 : PySem.W.nsIn K mainGlobals "_law_next" = some (some (.ref f17)))
    (l17 : K.lookup f17 = some ⟨oc17, od17, .func (PySem.W.fnOf "_law_next" "_law_next" (defArgs s_law_next) (defBody s_law_next) (defScope s_law_next) .none kV17 dc17 pm17 an17 cd17 ct17), sl17⟩)
    (c17 : PySem.W.codeIn K cd17 "_law_next" = true) (k17 : PySem.W.keepIn K (.ref f17) = true)
    (a18 : PySem.W.nsIn K mainGlobals "_law_like" = some (some (.ref f18)))
    (l18 : K.lookup f18 = some ⟨oc18, od18, .func (PySem.W.fnOf "_law_like" "_law_like" (defArgs s_law_like) (defBody s_law_like) (defScope s_law_like) .none kV18 dc18 pm18 an18 cd18 ct18), sl18⟩)
    (c18 : PySem.W.codeIn K cd18 "_law_like" = true) (k18 : PySem.W.keepIn K (.ref f18) = true)
    (a19 : PySem.W.nsIn K mainGlobals "_law_told" = some (some (.ref f19)))
    (l19 : K.lookup f19 = some ⟨oc19, od19, .func (PySem.W.fnOf "_law_told" "_law_told" (defArgs s_law_told) (defBody s_law_told) (defScope s_law_told) .none kV19 dc19 pm19 an19 cd19 ct19), sl19⟩)
    (c19 : PySem.W.codeIn K cd19 "_law_told" = true) (k19 : PySem.W.keepIn K (.ref f19) = true)
    (a20 : PySem.W.nsIn K mainGlobals "_law_rows" = some (some (.ref f20)))
    (l20 : K.lookup f20 = some ⟨oc20, od20, .func (PySem.W.fnOf "_law_rows" "_law_rows" (defArgs s_law_rows) (defBody s_law_rows) (defScope s_law_rows) .none kV20 dc20 pm20 an20 cd20 ct20), sl20⟩)
    (c20 : PySem.W.codeIn K cd20 "_law_rows" = true) (k20 : PySem.W.keepIn K (.ref f20) = true)
    (a21 : PySem.W.nsIn K mainGlobals "_law_handed" = some (some (.ref f21)))
    (l21 : K.lookup f21 = some ⟨oc21, od21, .func (PySem.W.fnOf "_law_handed" "_law_handed" (defArgs s_law_handed) (defBody s_law_handed) (defScope s_law_handed) .none kV21 dc21 pm21 an21 cd21 ct21), sl21⟩)
    (c21 : PySem.W.codeIn K cd21 "_law_handed" = true) (k21 : PySem.W.keepIn K (.ref f21) = true)
    (a22 : PySem.W.nsIn K mainGlobals "_law_size" = some (some (.ref f22)))
    (l22 : K.lookup f22 = some ⟨oc22, od22, .func (PySem.W.fnOf "_law_size" "_law_size" (defArgs s_law_size) (defBody s_law_size) (defScope s_law_size) .none kV22 dc22 pm22 an22 cd22 ct22), sl22⟩)
    (c22 : PySem.W.codeIn K cd22 "_law_size" = true) (k22 : PySem.W.keepIn K (.ref f22) = true)
    (a23 : PySem.W.nsIn K mainGlobals "_law_is_patch" = some (some (.ref f23)))
    (l23 : K.lookup f23 = some ⟨oc23, od23, .func (PySem.W.fnOf "_law_is_patch" "_law_is_patch" (defArgs s_law_is_patch) (defBody s_law_is_patch) (defScope s_law_is_patch) .none kV23 dc23 pm23 an23 cd23 ct23), sl23⟩)
    (c23 : PySem.W.codeIn K cd23 "_law_is_patch" = true) (k23 : PySem.W.keepIn K (.ref f23) = true)
    (a24 : PySem.W.nsIn K mainGlobals "_law_number" = some (some (.ref f24)))
    (l24 : K.lookup f24 = some ⟨oc24, od24, .func (PySem.W.fnOf "_law_number" "_law_number" (defArgs s_law_number) (defBody s_law_number) (defScope s_law_number) .none kV24 dc24 pm24 an24 cd24 ct24), sl24⟩)
    (c24 : PySem.W.codeIn K cd24 "_law_number" = true) (k24 : PySem.W.keepIn K (.ref f24) = true)
    (a25 : PySem.W.nsIn K mainGlobals "_law_code" = some (some (.ref f25)))
    (l25 : K.lookup f25 = some ⟨oc25, od25, .func (PySem.W.fnOf "_law_code" "_law_code" (defArgs s_law_code) (defBody s_law_code) (defScope s_law_code) .none kV25 dc25 pm25 an25 cd25 ct25), sl25⟩)
    (c25 : PySem.W.codeIn K cd25 "_law_code" = true) (k25 : PySem.W.keepIn K (.ref f25) = true)
    (a26 : PySem.W.nsIn K mainGlobals "_law_first" = some (some (.ref f26)))
    (l26 : K.lookup f26 = some ⟨oc26, od26, .func (PySem.W.fnOf "_law_first" "_law_first" (defArgs s_law_first) (defBody s_law_first) (defScope s_law_first) .none kV26 dc26 pm26 an26 cd26 ct26), sl26⟩)
    (c26 : PySem.W.codeIn K cd26 "_law_first" = true) (k26 : PySem.W.keepIn K (.ref f26) = true)
    (a27 : PySem.W.nsIn K mainGlobals "_law_parsed" = some (some (.ref f27)))
    (l27 : K.lookup f27 = some ⟨oc27, od27, .func (PySem.W.fnOf "_law_parsed" "_law_parsed" (defArgs s_law_parsed) (defBody s_law_parsed) (defScope s_law_parsed) .none kV27 dc27 pm27 an27 cd27 ct27), sl27⟩)
    (c27 : PySem.W.codeIn K cd27 "_law_parsed" = true) (k27 : PySem.W.keepIn K (.ref f27) = true)
    (a28 : PySem.W.nsIn K mainGlobals "law" = some (some (.ref f28)))
    (l28 : K.lookup f28 = some ⟨oc28, od28, .func (PySem.W.fnOf "law" "law" (defArgs s_law) (defBody s_law) (defScope s_law) .none kV28 dc28 pm28 an28 (.ref cL) ct28), sl28⟩)
    (c28 : PySem.W.codeIn K (.ref cL) "law" = true) (k28 : PySem.W.keepIn K (.ref f28) = true)
    {t0 : Tok} (z0 : PySem.W.nsIn K mainGlobals "MOST" = some (some (.int 200 t0)))
    {t1 : Tok} (z1 : PySem.W.nsIn K mainGlobals "LAST_BYTE" = some (some (.int 255 t1)))
    {a_2 : Addr} {its_2 : Array Value} {n_2 : Nat} {sl_2 : Array (Option Value)} {t2_0 t2_1 t2_2 : Tok}
    (z2 : PySem.W.nsIn K mainGlobals "WORDS" = some (some (.ref a_2)))
    (y2 : K.lookup a_2 = some ⟨.type "tuple", none, .seq its_2 n_2, sl_2⟩)
    (x2 : its_2 = #[.str "copy" t2_0, .str "bring" t2_1, .str "run" t2_2])
    {t3 : Tok} (z3 : PySem.W.nsIn K mainGlobals "NO_WORD" = some (some (.int 3 t3)))
    {t4 : Tok} (z4 : PySem.W.nsIn K mainGlobals "SEVENS" = some (some (.int 128 t4)))
    {t5 : Tok} (z5 : PySem.W.nsIn K mainGlobals "MOST_SEVENS" = some (some (.int 2 t5)))
    {t6 : Tok} (z6 : PySem.W.nsIn K mainGlobals "CHECK" = some (some (.int 251 t6)))
    (h_PatchError : PySem.W.nsIn K mainGlobals "PatchError" = some (some (.ref k_PatchError)))
    (h_BadEdition : PySem.W.nsIn K mainGlobals "BadEdition" = some (some (.ref k_BadEdition)))
    (h_BadPatch : PySem.W.nsIn K mainGlobals "BadPatch" = some (some (.ref k_BadPatch)))
    (h_Beyond : PySem.W.nsIn K mainGlobals "Beyond" = some (some (.ref k_Beyond)))
    (h_BadCount : PySem.W.nsIn K mainGlobals "BadCount" = some (some (.ref k_BadCount)))
    (h_BadMeet : PySem.W.nsIn K mainGlobals "BadMeet" = some (some (.ref k_BadMeet)))
    (h_BadCode : PySem.W.nsIn K mainGlobals "BadCode" = some (some (.ref k_BadCode)))
    (h_TooMany : PySem.W.nsIn K mainGlobals "TooMany" = some (some (.ref k_TooMany)))
    (h_BadPieces : PySem.W.nsIn K mainGlobals "BadPieces" = some (some (.ref k_BadPieces)))
    (h_BadOrder : PySem.W.nsIn K mainGlobals "BadOrder" = some (some (.ref k_BadOrder)))
    (h_BadMarks : PySem.W.nsIn K mainGlobals "BadMarks" = some (some (.ref k_BadMarks)))
    (h_Underway : PySem.W.nsIn K mainGlobals "Underway" = some (some (.ref k_Underway)))
    (h_Asleep : PySem.W.nsIn K mainGlobals "Asleep" = some (some (.ref k_Asleep)))
    (h_Awake : PySem.W.nsIn K mainGlobals "Awake" = some (some (.ref k_Awake)))
    (h_BadCell : PySem.W.nsIn K mainGlobals "BadCell" = some (some (.ref k_BadCell)))
    (y_bool : PySem.W.nsIn K mainGlobals "bool" = some none)
    (y_bytes : PySem.W.nsIn K mainGlobals "bytes" = some none)
    (y_enumerate : PySem.W.nsIn K mainGlobals "enumerate" = some none)
    (y_int : PySem.W.nsIn K mainGlobals "int" = some none)
    (y_isinstance : PySem.W.nsIn K mainGlobals "isinstance" = some none)
    (y_len : PySem.W.nsIn K mainGlobals "len" = some none)
    (y_list : PySem.W.nsIn K mainGlobals "list" = some none)
    (y_max : PySem.W.nsIn K mainGlobals "max" = some none)
    (y_min : PySem.W.nsIn K mainGlobals "min" = some none)
    (y_range : PySem.W.nsIn K mainGlobals "range" = some none)
    (y_str : PySem.W.nsIn K mainGlobals "str" = some none)
    (y_sum : PySem.W.nsIn K mainGlobals "sum" = some none)
    (y_tuple : PySem.W.nsIn K mainGlobals "tuple" = some none)
    (y_zip : PySem.W.nsIn K mainGlobals "zip" = some none)
    {fI_BadPatch cda_BadPatch ccI_BadPatch : Addr} {nmC_BadPatch qC_BadPatch : Str} {NC_BadPatch : Addr} {bsC_BadPatch bmC_BadPatch : List Value} {snC_BadPatch : List Str} {subC_BadPatch : List Value} {abC_BadPatch : Bool} {colC_BadPatch : Option Bool} {ddC_BadPatch : Option Addr} {m0_BadPatch m1_BadPatch m2_BadPatch m3_BadPatch m5_BadPatch : Option Value} {ocI_BadPatch dcI_BadPatch pmI_BadPatch ctI_BadPatch ccl_BadPatch clI_BadPatch : Value} {odI_BadPatch anI_BadPatch cdd_BadPatch cldI_BadPatch : Option Addr} {slI_BadPatch ccs_BadPatch cslI_BadPatch : Array (Option Value)} {vsI_BadPatch : Array Value} {file_BadPatch : Str} {tf_BadPatch : Tok}
    {fI_BadCode cda_BadCode ccI_BadCode : Addr} {nmC_BadCode qC_BadCode : Str} {NC_BadCode : Addr} {bsC_BadCode bmC_BadCode : List Value} {snC_BadCode : List Str} {subC_BadCode : List Value} {abC_BadCode : Bool} {colC_BadCode : Option Bool} {ddC_BadCode : Option Addr} {m0_BadCode m1_BadCode m2_BadCode m3_BadCode m5_BadCode : Option Value} {ocI_BadCode dcI_BadCode pmI_BadCode ctI_BadCode ccl_BadCode clI_BadCode : Value} {odI_BadCode anI_BadCode cdd_BadCode cldI_BadCode : Option Addr} {slI_BadCode ccs_BadCode cslI_BadCode : Array (Option Value)} {vsI_BadCode : Array Value} {file_BadCode : Str} {tf_BadCode : Tok}
    (o_cls_BadPatch : K.lookup k_BadPatch = some (excClassObj nmC_BadPatch qC_BadPatch k_BadPatch NC_BadPatch bsC_BadPatch bmC_BadPatch true snC_BadPatch subC_BadPatch abC_BadPatch colC_BadPatch ddC_BadPatch m0_BadPatch m1_BadPatch m2_BadPatch m3_BadPatch m5_BadPatch "ValueError.__new__"))
    (o_bm_BadPatch : PySem.HandSPX.refsVE bmC_BadPatch = true)
    (o_sa_BadPatch : PySem.W.findIn K (.ref k_BadPatch) "__setattr__" = some (some (.builtin "object.__setattr__")))
    (o_noN_BadPatch : PySem.W.findIn K (.ref k_BadPatch) "piece" = some none)
    (o_iC_BadPatch : PySem.W.findIn K (.ref k_BadPatch) "__init__" = some (some (.ref fI_BadPatch)))
    (o_tC_BadPatch : PySem.W.typeIn K (.ref fI_BadPatch) = some (.type "function"))
    (o_kC_BadPatch : PySem.W.keepIn K (.ref k_BadPatch) = true)
    (o_exC_BadPatch : PySem.W.subIn K (.ref k_BadPatch) (.type "BaseException") = some true)
    (o_tyC_BadPatch : PySem.W.typeIn K (.ref k_BadPatch) = some (.type "type"))
    (o_sup_BadPatch : PySem.W.ks_superIn K k_BadPatch k_BadPatch "__init__" = some (some (.builtin "ValueError.__init__")))
    (o_subV_BadPatch : PySem.W.subIn K (.ref k_BadPatch) (.type "ValueError") = some true)
    (o_mroC_BadPatch : PySem.W.mroIn K k_BadPatch (.ref k_BadPatch) = some true)
    (o_any_BadPatch : PySem.W.nsIn K cStatics "thirdparty.any" = some none)
    (o_mS_BadPatch : PySem.W.nsIn K mainGlobals "super" = some none)
    (o_fn_BadPatch : K.lookup fI_BadPatch = some ⟨ocI_BadPatch, odI_BadPatch, .func (PySem.W.ksFn "__init__" "BadPatch.__init__" (defArgs N_BadPatch.iniSt) (defBody N_BadPatch.iniSt) (defScope N_BadPatch.iniSt) .none .none dcI_BadPatch pmI_BadPatch anI_BadPatch (.ref cda_BadPatch) ctI_BadPatch ccI_BadPatch), slI_BadPatch⟩)
    (o_cI_BadPatch : PySem.W.codeIn K (.ref cda_BadPatch) "BadPatch.__init__" = true)
    (o_cd_BadPatch : K.lookup cda_BadPatch = some ⟨ccl_BadPatch, cdd_BadPatch, .fields vsI_BadPatch, ccs_BadPatch⟩)
    (o_vs_BadPatch : vsI_BadPatch[2]? = some (.str file_BadPatch tf_BadPatch))
    (o_file_BadPatch : ((l.prog.main.file : Str) == file_BadPatch) = true)
    (o_cc_BadPatch : K.lookup ccI_BadPatch = some ⟨clI_BadPatch, cldI_BadPatch, .cell (some (.ref k_BadPatch)), cslI_BadPatch⟩)
    (o_top_BadPatch : (l.prog.main.scope.names.lookup ("super" : Str)).isSome = false)
    (o_cls_BadCode : K.lookup k_BadCode = some (excClassObj nmC_BadCode qC_BadCode k_BadCode NC_BadCode bsC_BadCode bmC_BadCode true snC_BadCode subC_BadCode abC_BadCode colC_BadCode ddC_BadCode m0_BadCode m1_BadCode m2_BadCode m3_BadCode m5_BadCode "ValueError.__new__"))
    (o_bm_BadCode : PySem.HandSPX.refsVE bmC_BadCode = true)
    (o_sa_BadCode : PySem.W.findIn K (.ref k_BadCode) "__setattr__" = some (some (.builtin "object.__setattr__")))
    (o_noN_BadCode : PySem.W.findIn K (.ref k_BadCode) "place" = some none)
    (o_iC_BadCode : PySem.W.findIn K (.ref k_BadCode) "__init__" = some (some (.ref fI_BadCode)))
    (o_tC_BadCode : PySem.W.typeIn K (.ref fI_BadCode) = some (.type "function"))
    (o_kC_BadCode : PySem.W.keepIn K (.ref k_BadCode) = true)
    (o_exC_BadCode : PySem.W.subIn K (.ref k_BadCode) (.type "BaseException") = some true)
    (o_tyC_BadCode : PySem.W.typeIn K (.ref k_BadCode) = some (.type "type"))
    (o_sup_BadCode : PySem.W.ks_superIn K k_BadCode k_BadCode "__init__" = some (some (.builtin "ValueError.__init__")))
    (o_subV_BadCode : PySem.W.subIn K (.ref k_BadCode) (.type "ValueError") = some true)
    (o_mroC_BadCode : PySem.W.mroIn K k_BadCode (.ref k_BadCode) = some true)
    (o_any_BadCode : PySem.W.nsIn K cStatics "thirdparty.any" = some none)
    (o_mS_BadCode : PySem.W.nsIn K mainGlobals "super" = some none)
    (o_fn_BadCode : K.lookup fI_BadCode = some ⟨ocI_BadCode, odI_BadCode, .func (PySem.W.ksFn "__init__" "BadCode.__init__" (defArgs N_BadCode.iniSt) (defBody N_BadCode.iniSt) (defScope N_BadCode.iniSt) .none .none dcI_BadCode pmI_BadCode anI_BadCode (.ref cda_BadCode) ctI_BadCode ccI_BadCode), slI_BadCode⟩)
    (o_cI_BadCode : PySem.W.codeIn K (.ref cda_BadCode) "BadCode.__init__" = true)
    (o_cd_BadCode : K.lookup cda_BadCode = some ⟨ccl_BadCode, cdd_BadCode, .fields vsI_BadCode, ccs_BadCode⟩)
    (o_vs_BadCode : vsI_BadCode[2]? = some (.str file_BadCode tf_BadCode))
    (o_file_BadCode : ((l.prog.main.file : Str) == file_BadCode) = true)
    (o_cc_BadCode : K.lookup ccI_BadCode = some ⟨clI_BadCode, cldI_BadCode, .cell (some (.ref k_BadCode)), cslI_BadCode⟩)
    (o_top_BadCode : (l.prog.main.scope.names.lookup ("super" : Str)).isSome = false)
    (e_hn : PySem.W.specialIn K (.builtin "object.__class__") "__get__" = some (some (.builtin "getset_descriptor.__get__")))
    (e_ht : PySem.W.takesIn K (.builtin "object.__class__") = some true)
    (p_ex : PySem.W.subIn K (.ref k_PatchError) (.type "BaseException") = some true)
    (p_hd : PySem.W.hasDictIn K k_PatchError = true)
    (p_ty : PySem.W.typeIn K (.ref k_PatchError) = some (.type "type"))
    (o_ga_BadPatch : PySem.W.findIn K (.ref k_BadPatch) "__getattribute__" = some (some (.builtin "BaseException.__getattribute__")))
    (o_gg_BadPatch : PySem.W.findIn K (.ref k_BadPatch) "__getattr__" = some none)
    (o_hdC_BadPatch : PySem.W.hasDictIn K k_BadPatch = true)
    (e_ha_BadPatch : PySem.W.findIn K (.ref k_BadPatch) "__class__" = some (some (.builtin "object.__class__")))
    (o_mroO_BadPatch : PySem.W.mroIn K k_BadPatch (.type "object") = some true)
    (p_sub_BadPatch : PySem.W.subIn K (.ref k_BadPatch) (.ref k_PatchError) = some true)
    (i_BadPatch_BadPatch : PySem.W.kitOne K (.ref k_BadPatch) (.ref k_BadPatch) = some (decide (0 = 0)))
    (i_Beyond_BadPatch : PySem.W.kitOne K (.ref k_BadPatch) (.ref k_Beyond) = some (decide (0 = 1)))
    (i_BadMeet_BadPatch : PySem.W.kitOne K (.ref k_BadPatch) (.ref k_BadMeet) = some (decide (0 = 2)))
    (i_BadCode_BadPatch : PySem.W.kitOne K (.ref k_BadPatch) (.ref k_BadCode) = some (decide (0 = 3)))
    (i_BadOrder_BadPatch : PySem.W.kitOne K (.ref k_BadPatch) (.ref k_BadOrder) = some (decide (0 = 4)))
    (i_BadEdition_BadPatch : PySem.W.kitOne K (.ref k_BadPatch) (.ref k_BadEdition) = some (decide (0 = 5)))
    (i_BadCount_BadPatch : PySem.W.kitOne K (.ref k_BadPatch) (.ref k_BadCount) = some (decide (0 = 6)))
    (i_TooMany_BadPatch : PySem.W.kitOne K (.ref k_BadPatch) (.ref k_TooMany) = some (decide (0 = 7)))
    (i_BadPieces_BadPatch : PySem.W.kitOne K (.ref k_BadPatch) (.ref k_BadPieces) = some (decide (0 = 8)))
    (i_BadMarks_BadPatch : PySem.W.kitOne K (.ref k_BadPatch) (.ref k_BadMarks) = some (decide (0 = 9)))
    (i_Underway_BadPatch : PySem.W.kitOne K (.ref k_BadPatch) (.ref k_Underway) = some (decide (0 = 10)))
    (i_Asleep_BadPatch : PySem.W.kitOne K (.ref k_BadPatch) (.ref k_Asleep) = some (decide (0 = 11)))
    (i_Awake_BadPatch : PySem.W.kitOne K (.ref k_BadPatch) (.ref k_Awake) = some (decide (0 = 12)))
    (i_BadCell_BadPatch : PySem.W.kitOne K (.ref k_BadPatch) (.ref k_BadCell) = some (decide (0 = 13)))
    (o_ga_BadCode : PySem.W.findIn K (.ref k_BadCode) "__getattribute__" = some (some (.builtin "BaseException.__getattribute__")))
    (o_gg_BadCode : PySem.W.findIn K (.ref k_BadCode) "__getattr__" = some none)
    (o_hdC_BadCode : PySem.W.hasDictIn K k_BadCode = true)
    (e_ha_BadCode : PySem.W.findIn K (.ref k_BadCode) "__class__" = some (some (.builtin "object.__class__")))
    (o_mroO_BadCode : PySem.W.mroIn K k_BadCode (.type "object") = some true)
    (p_sub_BadCode : PySem.W.subIn K (.ref k_BadCode) (.ref k_PatchError) = some true)
    (i_BadPatch_BadCode : PySem.W.kitOne K (.ref k_BadCode) (.ref k_BadPatch) = some (decide (3 = 0)))
    (i_Beyond_BadCode : PySem.W.kitOne K (.ref k_BadCode) (.ref k_Beyond) = some (decide (3 = 1)))
    (i_BadMeet_BadCode : PySem.W.kitOne K (.ref k_BadCode) (.ref k_BadMeet) = some (decide (3 = 2)))
    (i_BadCode_BadCode : PySem.W.kitOne K (.ref k_BadCode) (.ref k_BadCode) = some (decide (3 = 3)))
    (i_BadOrder_BadCode : PySem.W.kitOne K (.ref k_BadCode) (.ref k_BadOrder) = some (decide (3 = 4)))
    (i_BadEdition_BadCode : PySem.W.kitOne K (.ref k_BadCode) (.ref k_BadEdition) = some (decide (3 = 5)))
    (i_BadCount_BadCode : PySem.W.kitOne K (.ref k_BadCode) (.ref k_BadCount) = some (decide (3 = 6)))
    (i_TooMany_BadCode : PySem.W.kitOne K (.ref k_BadCode) (.ref k_TooMany) = some (decide (3 = 7)))
    (i_BadPieces_BadCode : PySem.W.kitOne K (.ref k_BadCode) (.ref k_BadPieces) = some (decide (3 = 8)))
    (i_BadMarks_BadCode : PySem.W.kitOne K (.ref k_BadCode) (.ref k_BadMarks) = some (decide (3 = 9)))
    (i_Underway_BadCode : PySem.W.kitOne K (.ref k_BadCode) (.ref k_Underway) = some (decide (3 = 10)))
    (i_Asleep_BadCode : PySem.W.kitOne K (.ref k_BadCode) (.ref k_Asleep) = some (decide (3 = 11)))
    (i_Awake_BadCode : PySem.W.kitOne K (.ref k_BadCode) (.ref k_Awake) = some (decide (3 = 12)))
    (i_BadCell_BadCode : PySem.W.kitOne K (.ref k_BadCode) (.ref k_BadCell) = some (decide (3 = 13)))
    (t_cd : K.lookup cL = some ⟨clL, cdL, .fields vsL, csL⟩)
    (t_p : vsL[11]? = some (.ref PL))
    (t_n : K.lookup PL = none)
    : ∃ (fd : FuncData) (cL PL : Addr), PySem.W.tabIn K "law" = some (cL, PL) ∧ K.lookup PL = none ∧ (∀ (s : Shared) (v : Value), BindsTo s fd ⟨[v], []⟩ [("_law_script", v)]) ∧ ∀ base : Heap, K.In base → base.Ns mainGlobals mg → LamX.TabB base mg cL PL → FnOk l.prog w K mg base CX0 11 fa fd ["_law_script"] (spLawT K PL) := by
  have e := hfa.symm.trans (PySem.W.mg_of X G a28)
  cases e
  have F0 := fun_mk (st := s_bytes_of) l0 c0 k0
  have b0 := F0.binds (ps := ["numbers"]) fun _ _ _ _ _ _ us hl => match us, hl with | [_], _ => rfl
  have F1 := fun_mk (st := s_numbers_of) l1 c1 k1
  have b1 := F1.binds (ps := ["some"]) fun _ _ _ _ _ _ us hl => match us, hl with | [_], _ => rfl
  have F2 := fun_mk (st := s_is_number) l2 c2 k2
  have b2 := F2.binds (ps := ["what", "least", "most"]) fun _ _ _ _ _ _ us hl => match us, hl with | [_, _, _], _ => rfl
  have F3 := fun_mk (st := s_can_be) l3 c3 k3
  have b3 := F3.binds (ps := ["piece"]) fun _ _ _ _ _ _ us hl => match us, hl with | [_], _ => rfl
  have F4 := fun_mk (st := s_length_of) l4 c4 k4
  have b4 := F4.binds (ps := ["piece"]) fun _ _ _ _ _ _ us hl => match us, hl with | [_], _ => rfl
  have F5 := fun_mk (st := s_check_patch) l5 c5 k5
  have b5 := F5.binds (ps := ["patch"]) fun _ _ _ _ _ _ us hl => match us, hl with | [_], _ => rfl
  have F6 := fun_mk (st := s_decoded) l6 c6 k6
  have b6 := F6.binds (ps := ["some"]) fun _ _ _ _ _ _ us hl => match us, hl with | [_], _ => rfl
  have F7 := fun_mk (st := s_check_of) l7 c7 k7
  have b7 := F7.binds (ps := ["some"]) fun _ _ _ _ _ _ us hl => match us, hl with | [_], _ => rfl
  have F8 := fun_mk (st := s_code_at) l8 c8 k8
  have b8 := F8.binds (ps := ["some", "begin"]) fun _ _ _ _ _ _ us hl => match us, hl with | [_, _], _ => rfl
  have F9 := fun_mk (st := s_several_at) l9 c9 k9
  have b9 := F9.binds (ps := ["one_at", "some", "place", "many"]) fun _ _ _ _ _ _ us hl => match us, hl with | [_, _, _, _], _ => rfl
  have F10 := fun_mk (st := s_check_at) l10 c10 k10
  have b10 := F10.binds (ps := ["some", "begin", "place"]) fun _ _ _ _ _ _ us hl => match us, hl with | [_, _, _], _ => rfl
  have F11 := fun_mk (st := s_byte_at) l11 c11 k11
  have b11 := F11.binds (ps := ["some", "place"]) fun _ _ _ _ _ _ us hl => match us, hl with | [_, _], _ => rfl
  have F12 := fun_mk (st := s_bytes_at) l12 c12 k12
  have b12 := F12.binds (ps := ["some", "place", "many"]) fun _ _ _ _ _ _ us hl => match us, hl with | [_, _, _], _ => rfl
  have F13 : FunD K "number_at" "number_at" (defArgs s_number_at) (defBody s_number_at) (defScope s_number_at) [.int 2] [] f13 _ := ⟨⟨_, _, _, _, _, _, _, _, _, _, rfl, l13, c13, .inr ⟨by simp, _, _, [.int 2 tD13_0], _, rfl, yD13, (by rw [xD13]), (.cons ⟨_, rfl⟩ .nil)⟩, .inl rfl⟩, k13⟩
  have b13 := FunD.binds1 (ps := ["some", "begin", "most"]) F13 2 0 (by simp) rfl fun _ _ _ _ _ _ _ us its hl hi => match us, hl, its, hi with | [_, _], _, [_], _ => ⟨_, rfl, rfl⟩
  have F14 := fun_mk (st := s_piece_at) l14 c14 k14
  have b14 := F14.binds (ps := ["some", "place"]) fun _ _ _ _ _ _ us hl => match us, hl with | [_, _], _ => rfl
  have F15 := fun_mk (st := s_needs) l15 c15 k15
  have b15 := F15.binds (ps := ["patch"]) fun _ _ _ _ _ _ us hl => match us, hl with | [_], _ => rfl
  have F16 := fun_mk (st := s_law_dice) l16 c16 k16
  have b16 := F16.binds (ps := ["_law_script"]) fun _ _ _ _ _ _ us hl => match us, hl with | [_], _ => rfl
  have F17 := fun_mk (st := s_law_next) l17 c17 k17
  have b17 := F17.binds (ps := ["_law_dice_here", "_law_many"]) fun _ _ _ _ _ _ us hl => match us, hl with | [_, _], _ => rfl
  have F18 := fun_mk (st := s_law_like) l18 c18 k18
  have b18 := F18.binds (ps := ["_law_found", "_law_due"]) fun _ _ _ _ _ _ us hl => match us, hl with | [_, _], _ => rfl
  have F19 := fun_mk (st := s_law_told) l19 c19 k19
  have b19 := F19.binds (ps := ["_law_work"]) fun _ _ _ _ _ _ us hl => match us, hl with | [_], _ => rfl
  have F20 := fun_mk (st := s_law_rows) l20 c20 k20
  have b20 := F20.binds (ps := ["_law_d", "_law_count", "_law_most"]) fun _ _ _ _ _ _ us hl => match us, hl with | [_, _, _], _ => rfl
  have F21 := fun_mk (st := s_law_handed) l21 c21 k21
  have b21 := F21.binds (ps := ["_law_rows_here"]) fun _ _ _ _ _ _ us hl => match us, hl with | [_], _ => rfl
  have F22 := fun_mk (st := s_law_size) l22 c22 k22
  have b22 := F22.binds (ps := ["_law_row"]) fun _ _ _ _ _ _ us hl => match us, hl with | [_], _ => rfl
  have F23 := fun_mk (st := s_law_is_patch) l23 c23 k23
  have b23 := F23.binds (ps := ["_law_told_here", "_law_rows_here"]) fun _ _ _ _ _ _ us hl => match us, hl with | [_, _], _ => rfl
  have F24 := fun_mk (st := s_law_number) l24 c24 k24
  have b24 := F24.binds (ps := ["_law_n"]) fun _ _ _ _ _ _ us hl => match us, hl with | [_], _ => rfl
  have F25 := fun_mk (st := s_law_code) l25 c25 k25
  have b25 := F25.binds (ps := ["_law_rows_here"]) fun _ _ _ _ _ _ us hl => match us, hl with | [_], _ => rfl
  have F26 := fun_mk (st := s_law_first) l26 c26 k26
  have b26 := F26.binds (ps := ["_law_some", "_law_at"]) fun _ _ _ _ _ _ us hl => match us, hl with | [_, _], _ => rfl
  have F27 := fun_mk (st := s_law_parsed) l27 c27 k27
  have b27 := F27.binds (ps := ["_law_some"]) fun _ _ _ _ _ _ us hl => match us, hl with | [_], _ => rfl
  let T : All K mg := ⟨⟨f0, _, F0, PySem.W.mg_of X G a0, b0⟩, ⟨f1, _, F1, PySem.W.mg_of X G a1, b1⟩, ⟨f2, _, F2, PySem.W.mg_of X G a2, b2⟩, ⟨f3, _, F3, PySem.W.mg_of X G a3, b3⟩, ⟨f4, _, F4, PySem.W.mg_of X G a4, b4⟩, ⟨f5, _, F5, PySem.W.mg_of X G a5, b5⟩, ⟨f6, _, F6, PySem.W.mg_of X G a6, b6⟩, ⟨f7, _, F7, PySem.W.mg_of X G a7, b7⟩, ⟨f8, _, F8, PySem.W.mg_of X G a8, b8⟩, ⟨f9, _, F9, PySem.W.mg_of X G a9, b9⟩, ⟨f10, _, F10, PySem.W.mg_of X G a10, b10⟩, ⟨f11, _, F11, PySem.W.mg_of X G a11, b11⟩, ⟨f12, _, F12, PySem.W.mg_of X G a12, b12⟩, ⟨f13, _, F13, PySem.W.mg_of X G a13, b13⟩, ⟨f14, _, F14, PySem.W.mg_of X G a14, b14⟩, ⟨f15, _, F15, PySem.W.mg_of X G a15, b15⟩, ⟨f16, _, F16, PySem.W.mg_of X G a16, b16⟩, ⟨f17, _, F17, PySem.W.mg_of X G a17, b17⟩, ⟨f18, _, F18, PySem.W.mg_of X G a18, b18⟩, ⟨f19, _, F19, PySem.W.mg_of X G a19, b19⟩, ⟨f20, _, F20, PySem.W.mg_of X G a20, b20⟩, ⟨f21, _, F21, PySem.W.mg_of X G a21, b21⟩, ⟨f22, _, F22, PySem.W.mg_of X G a22, b22⟩, ⟨f23, _, F23, PySem.W.mg_of X G a23, b23⟩, ⟨f24, _, F24, PySem.W.mg_of X G a24, b24⟩, ⟨f25, _, F25, PySem.W.mg_of X G a25, b25⟩, ⟨f26, _, F26, PySem.W.mg_of X G a26, b26⟩, ⟨f27, _, F27, PySem.W.mg_of X G a27, b27⟩, t0, PySem.W.mg_of X G z0, t1, PySem.W.mg_of X G z1, a_2, PySem.W.mg_of X G z2, fun H => .inr ⟨_, its_2, n_2, y2, rfl, rfl, by subst x2; (show 3 ≤ sizeLine; rw [sizeLine_eq]; decide), by subst x2; exact (.cons ⟨_, rfl⟩ (.cons ⟨_, rfl⟩ (.cons ⟨_, rfl⟩ .nil)))⟩, ⟨_, y2, rfl, rfl⟩, t3, PySem.W.mg_of X G z3, t4, PySem.W.mg_of X G z4, t5, PySem.W.mg_of X G z5, t6, PySem.W.mg_of X G z6, k_PatchError, PySem.W.mg_of X G h_PatchError, k_BadEdition, PySem.W.mg_of X G h_BadEdition, k_BadPatch, PySem.W.mg_of X G h_BadPatch, k_Beyond, PySem.W.mg_of X G h_Beyond, k_BadCount, PySem.W.mg_of X G h_BadCount, k_BadMeet, PySem.W.mg_of X G h_BadMeet, k_BadCode, PySem.W.mg_of X G h_BadCode, k_TooMany, PySem.W.mg_of X G h_TooMany, k_BadPieces, PySem.W.mg_of X G h_BadPieces, k_BadOrder, PySem.W.mg_of X G h_BadOrder, k_BadMarks, PySem.W.mg_of X G h_BadMarks, k_Underway, PySem.W.mg_of X G h_Underway, k_Asleep, PySem.W.mg_of X G h_Asleep, k_Awake, PySem.W.mg_of X G h_Awake, k_BadCell, PySem.W.mg_of X G h_BadCell, PySem.W.mg_none_of X G y_bool, PySem.W.mg_none_of X G y_bytes, PySem.W.mg_none_of X G y_enumerate, PySem.W.mg_none_of X G y_int, PySem.W.mg_none_of X G y_isinstance, PySem.W.mg_none_of X G y_len, PySem.W.mg_none_of X G y_list, PySem.W.mg_none_of X G y_max, PySem.W.mg_none_of X G y_min, PySem.W.mg_none_of X G y_range, PySem.W.mg_none_of X G y_str, PySem.W.mg_none_of X G y_sum, PySem.W.mg_none_of X G y_tuple, PySem.W.mg_none_of X G y_zip⟩
  have O_BadPatch : N_BadPatch.OwnErr l.prog K mg k_BadPatch fI_BadPatch :=
    { gC := PySem.W.mg_of X G h_BadPatch, cls := ⟨_, _, _, _, _, _, _, _, _, _, _, _, _, _, _, o_cls_BadPatch, o_bm_BadPatch⟩, sa := o_sa_BadPatch, noN := o_noN_BadPatch, iC := o_iC_BadPatch, tC := o_tC_BadPatch, kC := o_kC_BadPatch, exC := o_exC_BadPatch, tyC := o_tyC_BadPatch, sup := o_sup_BadPatch, subV := o_subV_BadPatch, mroC := o_mroC_BadPatch, noAny := o_any_BadPatch, mS := PySem.W.mg_none_of X G o_mS_BadPatch, top := o_top_BadPatch,
      fn := ⟨_, _, _, _, _, _, _, _, _, o_fn_BadPatch, o_cI_BadPatch, ⟨_, _, _, _, _, _, o_cd_BadPatch, o_vs_BadPatch, o_file_BadPatch⟩, _, _, _, o_cc_BadPatch⟩ }
  have O_BadCode : N_BadCode.OwnErr l.prog K mg k_BadCode fI_BadCode :=
    { gC := PySem.W.mg_of X G h_BadCode, cls := ⟨_, _, _, _, _, _, _, _, _, _, _, _, _, _, _, o_cls_BadCode, o_bm_BadCode⟩, sa := o_sa_BadCode, noN := o_noN_BadCode, iC := o_iC_BadCode, tC := o_tC_BadCode, kC := o_kC_BadCode, exC := o_exC_BadCode, tyC := o_tyC_BadCode, sup := o_sup_BadCode, subV := o_subV_BadCode, mroC := o_mroC_BadCode, noAny := o_any_BadCode, mS := PySem.W.mg_none_of X G o_mS_BadCode, top := o_top_BadCode,
      fn := ⟨_, _, _, _, _, _, _, _, _, o_fn_BadCode, o_cI_BadCode, ⟨_, _, _, _, _, _, o_cd_BadCode, o_vs_BadCode, o_file_BadCode⟩, _, _, _, o_cc_BadCode⟩ }
  have TC_BadPatch : ToldC T k_BadPatch 0 :=
    { ec := ⟨o_ga_BadPatch, o_gg_BadPatch, o_exC_BadPatch, o_hdC_BadPatch, e_ha_BadPatch, e_hn, e_ht, o_mroO_BadPatch⟩, xf := ⟨o_ga_BadPatch, o_gg_BadPatch, o_exC_BadPatch, o_hdC_BadPatch⟩, exm := PySem.W.exm_ref p_ex p_hd p_ty p_sub_BadPatch, i_BadPatch := i_BadPatch_BadPatch, i_Beyond := i_Beyond_BadPatch, i_BadMeet := i_BadMeet_BadPatch, i_BadCode := i_BadCode_BadPatch, i_BadOrder := i_BadOrder_BadPatch, i_BadEdition := i_BadEdition_BadPatch, i_BadCount := i_BadCount_BadPatch, i_TooMany := i_TooMany_BadPatch, i_BadPieces := i_BadPieces_BadPatch, i_BadMarks := i_BadMarks_BadPatch, i_Underway := i_Underway_BadPatch, i_Asleep := i_Asleep_BadPatch, i_Awake := i_Awake_BadPatch, i_BadCell := i_BadCell_BadPatch }
  have TC_BadCode : ToldC T k_BadCode 3 :=
    { ec := ⟨o_ga_BadCode, o_gg_BadCode, o_exC_BadCode, o_hdC_BadCode, e_ha_BadCode, e_hn, e_ht, o_mroO_BadCode⟩, xf := ⟨o_ga_BadCode, o_gg_BadCode, o_exC_BadCode, o_hdC_BadCode⟩, exm := PySem.W.exm_ref p_ex p_hd p_ty p_sub_BadCode, i_BadPatch := i_BadPatch_BadCode, i_Beyond := i_Beyond_BadCode, i_BadMeet := i_BadMeet_BadCode, i_BadCode := i_BadCode_BadCode, i_BadOrder := i_BadOrder_BadCode, i_BadEdition := i_BadEdition_BadCode, i_BadCount := i_BadCount_BadCode, i_TooMany := i_TooMany_BadCode, i_BadPieces := i_BadPieces_BadCode, i_BadMarks := i_BadMarks_BadCode, i_Underway := i_Underway_BadCode, i_Asleep := i_Asleep_BadCode, i_Awake := i_Awake_BadCode, i_BadCell := i_BadCell_BadCode }
  exact ⟨_, cL, PL, tab_at a28 l28 rfl t_cd t_p, t_n, fun s v => .of_eq rfl, fun base _ _ TB => lawT_ok T O_BadPatch TC_BadPatch O_BadCode TC_BadCode l28 c28 TB⟩
theorem walk {l : PySem.W.OpenLaw} {q : Program} {loose : List Str} {XP : (Str → Option Value) → Heap → Prop} {YP : World → Heap → Prop} {d : DefRec} {K : Params → PySem.W.Frag} (hn : l.most = some 63) (hdf : d.params.defaults = [])
    (hY : ∀ (w : World) (h : Heap), YP w h → (K w.params).In h) (hrec : (recsOf q).find? (fun e => e.name == ("law" : Str)) = some d)
    (F : ∀ (w : World) (mg : Str → Option Value) (fa : Addr) (h : Heap), (K w.params).In h → h.Ns mainGlobals mg → mg d.name = some (.ref fa) →
      ∃ (fd : FuncData) (cL PL : Addr), PySem.W.tabIn (K w.params) "law" = some (cL, PL) ∧ (K w.params).lookup PL = none ∧ (∀ (s : Shared) (u : Value), BindsTo s fd ⟨[u], []⟩ [("_law_script", u)]) ∧
        ∀ base : Heap, (K w.params).In base → base.Ns mainGlobals mg → LamX.TabB base mg cL PL → FnOk l.prog w (K w.params) mg base CX0 11 fa fd ["_law_script"] (spLawT (K w.params) PL)) :
    PySem.W.WalkO q loose XP YP l.row.toRowW d [] (fun f vs => PySem.call f vs) := by
  refine Att.attach_callB hn hdf fun w s₀ s₁ mg mb fa o pm cd doc a vs ns G Y ho hd hcd hmg hobj hints hlen hbits hg => ?_
  have KX := hY w _ Y
  obtain ⟨fd, cL, PL, ht, nT, hb, hF⟩ := F w mg fa _ KX G.T.g hmg
  obtain ⟨C, hP⟩ := PySem.W.tab_of G.T KX hrec ht
  have one : ∀ {Pq : Addr × Addr → Prop}, Pq (cL, PL) → ∀ p ∈ [(cL, PL)], Pq p := fun {Pq} hq p hp => by rw [List.mem_singleton.mp hp]; exact hq
  exact LamX.law_callTs (CX := CX0) (k := 11) (x := "_law_script") (cs := [(cL, PL)]) (fd := fd) (sp := spLawT (K w.params) PL) KX G.T.g G.T.b G.T.builtins G.T.nolimit hg (one (Pq := fun p => s₁.heap.get? p.2 = _) hP) (one (Pq := fun p => (K w.params).lookup p.2 = none) nT) (one (Pq := fun p => PySem.W.CodeHd s₁.heap p.1 p.2) C) G.T.bmain hobj hints (Nat.le_trans hlen (by decide)) ⟨rfl, by decide, by decide⟩
    (fun base h1 h2 h3 => hF base h1 h2 (h3 _ (List.mem_singleton.mpr rfl))) hb (fun H hH hS => ⟨a, ns, rfl, hS, hlen, hH _ (List.mem_singleton.mpr rfl), fun _ => rfl⟩) fun H e s' z => z
end My
open PySem PySem.W PyProof.Rows
set_option maxRecDepth 100000 in
set_option maxHeartbeats 0 in
theorem PySem.Challenge.cw_patchover_k07_codes_refused_holds : PySem.Challenge.rw_patchover_k07_codes_refused.Holds := by
  w_on; o_law; k_head; (case hw => w_witness2)
  k_fill
  first | refine My.walk (l := PySem.Challenge.rw_patchover_k07_codes_refused) rfl rfl (fun w h Y => PySem.W.km_in_of Y) (by first | rfl | kernel_rfl | decide +kernel) ?F | refine My.walk (l := PySem.Challenge.rw_patchover_k07_codes_refused) rfl rfl (fun w h Y => PySem.W.kIn_of Y) (by first | rfl | kernel_rfl | decide +kernel) ?F
  case F =>
    intro w mg fa h KX G hmg
    refine' My.all_mk KX G hmg ?a0 ?l0 ?c0 ?k0 ?a1 ?l1 ?c1 ?k1 ?a2 ?l2 ?c2 ?k2 ?a3 ?l3 ?c3 ?k3 ?a4 ?l4 ?c4 ?k4 ?a5 ?l5 ?c5 ?k5 ?a6 ?l6 ?c6 ?k6 ?a7 ?l7 ?c7 ?k7 ?a8 ?l8 ?c8 ?k8 ?a9 ?l9 ?c9 ?k9 ?a10 ?l10 ?c10 ?k10 ?a11 ?l11 ?c11 ?k11 ?a12 ?l12 ?c12 ?k12 ?a13 ?l13 ?c13 ?k13 ?yD13 ?xD13 ?a14 ?l14 ?c14 ?k14 ?a15 ?l15 ?c15 ?k15 ?a16 ?l16 ?c16 ?k16 ?a17 ?l17 ?c17 ?k17 ?a18 ?l18 ?c18 ?k18 ?a19 ?l19 ?c19 ?k19 ?a20 ?l20 ?c20 ?k20 ?a21 ?l21 ?c21 ?k21 ?a22 ?l22 ?c22 ?k22 ?a23 ?l23 ?c23 ?k23 ?a24 ?l24 ?c24 ?k24 ?a25 ?l25 ?c25 ?k25 ?a26 ?l26 ?c26 ?k26 ?a27 ?l27 ?c27 ?k27 ?a28 ?l28 ?c28 ?k28 ?z0 ?z1 ?z2 ?y2 ?x2 ?z3 ?z4 ?z5 ?z6 ?h_PatchError ?h_BadEdition ?h_BadPatch ?h_Beyond ?h_BadCount ?h_BadMeet ?h_BadCode ?h_TooMany ?h_BadPieces ?h_BadOrder ?h_BadMarks ?h_Underway ?h_Asleep ?h_Awake ?h_BadCell ?y_bool ?y_bytes ?y_enumerate ?y_int ?y_isinstance ?y_len ?y_list ?y_max ?y_min ?y_range ?y_str ?y_sum ?y_tuple ?y_zip ?o_cls_BadPatch ?o_bm_BadPatch ?o_sa_BadPatch ?o_noN_BadPatch ?o_iC_BadPatch ?o_tC_BadPatch ?o_kC_BadPatch ?o_exC_BadPatch ?o_tyC_BadPatch ?o_sup_BadPatch ?o_subV_BadPatch ?o_mroC_BadPatch ?o_any_BadPatch ?o_mS_BadPatch ?o_fn_BadPatch ?o_cI_BadPatch ?o_cd_BadPatch ?o_vs_BadPatch ?o_file_BadPatch ?o_cc_BadPatch ?o_top_BadPatch ?o_cls_BadCode ?o_bm_BadCode ?o_sa_BadCode ?o_noN_BadCode ?o_iC_BadCode ?o_tC_BadCode ?o_kC_BadCode ?o_exC_BadCode ?o_tyC_BadCode ?o_sup_BadCode ?o_subV_BadCode ?o_mroC_BadCode ?o_any_BadCode ?o_mS_BadCode ?o_fn_BadCode ?o_cI_BadCode ?o_cd_BadCode ?o_vs_BadCode ?o_file_BadCode ?o_cc_BadCode ?o_top_BadCode ?e_hn ?e_ht ?p_ex ?p_hd ?p_ty ?o_ga_BadPatch ?o_gg_BadPatch ?o_hdC_BadPatch ?e_ha_BadPatch ?o_mroO_BadPatch ?p_sub_BadPatch ?i_BadPatch_BadPatch ?i_Beyond_BadPatch ?i_BadMeet_BadPatch ?i_BadCode_BadPatch ?i_BadOrder_BadPatch ?i_BadEdition_BadPatch ?i_BadCount_BadPatch ?i_TooMany_BadPatch ?i_BadPieces_BadPatch ?i_BadMarks_BadPatch ?i_Underway_BadPatch ?i_Asleep_BadPatch ?i_Awake_BadPatch ?i_BadCell_BadPatch ?o_ga_BadCode ?o_gg_BadCode ?o_hdC_BadCode ?e_ha_BadCode ?o_mroO_BadCode ?p_sub_BadCode ?i_BadPatch_BadCode ?i_Beyond_BadCode ?i_BadMeet_BadCode ?i_BadCode_BadCode ?i_BadOrder_BadCode ?i_BadEdition_BadCode ?i_BadCount_BadCode ?i_TooMany_BadCode ?i_BadPieces_BadCode ?i_BadMarks_BadCode ?i_Underway_BadCode ?i_Asleep_BadCode ?i_Awake_BadCode ?i_BadCell_BadCode ?t_cd ?t_p ?t_n
    (case a0 => k_is)
    (case l0 => k_is)
    (case c0 => k_is)
    (case k0 => k_is)
    (case a1 => k_is)
    (case l1 => k_is)
    (case c1 => k_is)
    (case k1 => k_is)
    (case a2 => k_is)
    (case l2 => k_is)
    (case c2 => k_is)
    (case k2 => k_is)
    (case a3 => k_is)
    (case l3 => k_is)
    (case c3 => k_is)
    (case k3 => k_is)
    (case a4 => k_is)
    (case l4 => k_is)
    (case c4 => k_is)
    (case k4 => k_is)
    (case a5 => k_is)
    (case l5 => k_is)
    (case c5 => k_is)
    (case k5 => k_is)
    (case a6 => k_is)
    (case l6 => k_is)
    (case c6 => k_is)
    (case k6 => k_is)
    (case a7 => k_is)
    (case l7 => k_is)
    (case c7 => k_is)
    (case k7 => k_is)
    (case a8 => k_is)
    (case l8 => k_is)
    (case c8 => k_is)
    (case k8 => k_is)
    (case a9 => k_is)
    (case l9 => k_is)
    (case c9 => k_is)
    (case k9 => k_is)
    (case a10 => k_is)
    (case l10 => k_is)
    (case c10 => k_is)
    (case k10 => k_is)
    (case a11 => k_is)
    (case l11 => k_is)
    (case c11 => k_is)
    (case k11 => k_is)
    (case a12 => k_is)
    (case l12 => k_is)
    (case c12 => k_is)
    (case k12 => k_is)
    (case a13 => k_is)
    (case l13 => k_is)
    (case c13 => k_is)
    (case k13 => k_is)
    (case yD13 => k_is)
    (case xD13 => first | rfl | kernel_rfl)
    (case a14 => k_is)
    (case l14 => k_is)
    (case c14 => k_is)
    (case k14 => k_is)
    (case a15 => k_is)
    (case l15 => k_is)
    (case c15 => k_is)
    (case k15 => k_is)
    (case a16 => k_is)
    (case l16 => k_is)
    (case c16 => k_is)
    (case k16 => k_is)
    (case a17 => k_is)
    (case l17 => k_is)
    (case c17 => k_is)
    (case k17 => k_is)
    (case a18 => k_is)
    (case l18 => k_is)
    (case c18 => k_is)
    (case k18 => k_is)
    (case a19 => k_is)
    (case l19 => k_is)
    (case c19 => k_is)
    (case k19 => k_is)
    (case a20 => k_is)
    (case l20 => k_is)
    (case c20 => k_is)
    (case k20 => k_is)
    (case a21 => k_is)
    (case l21 => k_is)
    (case c21 => k_is)
    (case k21 => k_is)
    (case a22 => k_is)
    (case l22 => k_is)
    (case c22 => k_is)
    (case k22 => k_is)
    (case a23 => k_is)
    (case l23 => k_is)
    (case c23 => k_is)
    (case k23 => k_is)
    (case a24 => k_is)
    (case l24 => k_is)
    (case c24 => k_is)
    (case k24 => k_is)
    (case a25 => k_is)
    (case l25 => k_is)
    (case c25 => k_is)
    (case k25 => k_is)
    (case a26 => k_is)
    (case l26 => k_is)
    (case c26 => k_is)
    (case k26 => k_is)
    (case a27 => k_is)
    (case l27 => k_is)
    (case c27 => k_is)
    (case k27 => k_is)
    (case a28 => k_is)
    (case l28 => k_is)
    (case c28 => k_is)
    (case k28 => k_is)
    (case z0 => k_is)
    (case z1 => k_is)
    (case z2 => k_is)
    (case y2 => k_is)
    (case x2 => first | rfl | kernel_rfl)
    (case z3 => k_is)
    (case z4 => k_is)
    (case z5 => k_is)
    (case z6 => k_is)
    (case h_PatchError => k_is)
    (case h_BadEdition => k_is)
    (case h_BadPatch => k_is)
    (case h_Beyond => k_is)
    (case h_BadCount => k_is)
    (case h_BadMeet => k_is)
    (case h_BadCode => k_is)
    (case h_TooMany => k_is)
    (case h_BadPieces => k_is)
    (case h_BadOrder => k_is)
    (case h_BadMarks => k_is)
    (case h_Underway => k_is)
    (case h_Asleep => k_is)
    (case h_Awake => k_is)
    (case h_BadCell => k_is)
    (case y_bool => k_is)
    (case y_bytes => k_is)
    (case y_enumerate => k_is)
    (case y_int => k_is)
    (case y_isinstance => k_is)
    (case y_len => k_is)
    (case y_list => k_is)
    (case y_max => k_is)
    (case y_min => k_is)
    (case y_range => k_is)
    (case y_str => k_is)
    (case y_sum => k_is)
    (case y_tuple => k_is)
    (case y_zip => k_is)
    (case o_cls_BadPatch => k_is)
    (case o_bm_BadPatch => first | rfl | decide +kernel | kernel_rfl)
    (case o_sa_BadPatch => k_is)
    (case o_noN_BadPatch => k_is)
    (case o_iC_BadPatch => k_is)
    (case o_tC_BadPatch => k_is)
    (case o_kC_BadPatch => k_is)
    (case o_exC_BadPatch => k_is)
    (case o_tyC_BadPatch => k_is)
    (case o_sup_BadPatch => ks_is)
    (case o_subV_BadPatch => k_is)
    (case o_mroC_BadPatch => k_is)
    (case o_any_BadPatch => k_is)
    (case o_mS_BadPatch => k_is)
    (case o_fn_BadPatch => k_is)
    (case o_cI_BadPatch => k_is)
    (case o_cd_BadPatch => k_is)
    (case o_vs_BadPatch => first | rfl | kernel_rfl)
    (case o_file_BadPatch => first | rfl | decide +kernel | kernel_rfl)
    (case o_cc_BadPatch => k_is)
    (case o_top_BadPatch => first | rfl | decide +kernel | kernel_rfl)
    (case o_cls_BadCode => k_is)
    (case o_bm_BadCode => first | rfl | decide +kernel | kernel_rfl)
    (case o_sa_BadCode => k_is)
    (case o_noN_BadCode => k_is)
    (case o_iC_BadCode => k_is)
    (case o_tC_BadCode => k_is)
    (case o_kC_BadCode => k_is)
    (case o_exC_BadCode => k_is)
    (case o_tyC_BadCode => k_is)
    (case o_sup_BadCode => ks_is)
    (case o_subV_BadCode => k_is)
    (case o_mroC_BadCode => k_is)
    (case o_any_BadCode => k_is)
    (case o_mS_BadCode => k_is)
    (case o_fn_BadCode => k_is)
    (case o_cI_BadCode => k_is)
    (case o_cd_BadCode => k_is)
    (case o_vs_BadCode => first | rfl | kernel_rfl)
    (case o_file_BadCode => first | rfl | decide +kernel | kernel_rfl)
    (case o_cc_BadCode => k_is)
    (case o_top_BadCode => first | rfl | decide +kernel | kernel_rfl)
    (case e_hn => k_is)
    (case e_ht => k_is)
    (case p_ex => k_is)
    (case p_hd => k_is)
    (case p_ty => k_is)
    (case o_ga_BadPatch => k_is)
    (case o_gg_BadPatch => k_is)
    (case o_hdC_BadPatch => k_is)
    (case e_ha_BadPatch => k_is)
    (case o_mroO_BadPatch => k_is)
    (case p_sub_BadPatch => k_is)
    (case i_BadPatch_BadPatch => first | kit_is | kernel_rfl)
    (case i_Beyond_BadPatch => first | kit_is | kernel_rfl)
    (case i_BadMeet_BadPatch => first | kit_is | kernel_rfl)
    (case i_BadCode_BadPatch => first | kit_is | kernel_rfl)
    (case i_BadOrder_BadPatch => first | kit_is | kernel_rfl)
    (case i_BadEdition_BadPatch => first | kit_is | kernel_rfl)
    (case i_BadCount_BadPatch => first | kit_is | kernel_rfl)
    (case i_TooMany_BadPatch => first | kit_is | kernel_rfl)
    (case i_BadPieces_BadPatch => first | kit_is | kernel_rfl)
    (case i_BadMarks_BadPatch => first | kit_is | kernel_rfl)
    (case i_Underway_BadPatch => first | kit_is | kernel_rfl)
    (case i_Asleep_BadPatch => first | kit_is | kernel_rfl)
    (case i_Awake_BadPatch => first | kit_is | kernel_rfl)
    (case i_BadCell_BadPatch => first | kit_is | kernel_rfl)
    (case o_ga_BadCode => k_is)
    (case o_gg_BadCode => k_is)
    (case o_hdC_BadCode => k_is)
    (case e_ha_BadCode => k_is)
    (case o_mroO_BadCode => k_is)
    (case p_sub_BadCode => k_is)
    (case i_BadPatch_BadCode => first | kit_is | kernel_rfl)
    (case i_Beyond_BadCode => first | kit_is | kernel_rfl)
    (case i_BadMeet_BadCode => first | kit_is | kernel_rfl)
    (case i_BadCode_BadCode => first | kit_is | kernel_rfl)
    (case i_BadOrder_BadCode => first | kit_is | kernel_rfl)
    (case i_BadEdition_BadCode => first | kit_is | kernel_rfl)
    (case i_BadCount_BadCode => first | kit_is | kernel_rfl)
    (case i_TooMany_BadCode => first | kit_is | kernel_rfl)
    (case i_BadPieces_BadCode => first | kit_is | kernel_rfl)
    (case i_BadMarks_BadCode => first | kit_is | kernel_rfl)
    (case i_Underway_BadCode => first | kit_is | kernel_rfl)
    (case i_Asleep_BadCode => first | kit_is | kernel_rfl)
    (case i_Awake_BadCode => first | kit_is | kernel_rfl)
    (case i_BadCell_BadCode => first | kit_is | kernel_rfl)
    (case t_cd => k_is)
    (case t_p => first | rfl | kernel_rfl)
    (case t_n => first | k_is | kernel_rfl)
