import PyProof.Rows.All
import Wide.All
import OpenK.AllK
import Wide.FinOn
import HandS.ForMost
import HandS.More
import HandS.IsInst
import HandS.Bytes
import HandS.Walk
import HandS.TupAny
import HandS.Style
import HandS.SortKw
import KE.GoesEnum
import KE.KMinKey
import PySem.Challenge.RW_patchover_k04_plain_told
set_option Elab.async false
set_option linter.all false
set_option maxRecDepth 100000
set_option maxHeartbeats 4000000
namespace My
open PySem PySem.Spec PyProof.Rows L2
/-! ### the text by places -/
def top (i : Nat) : Stmt := PySem.Challenge.pw_patchover_k04_plain_told.main.body.getD i (.Pass ⟨0, 0, 0, 0⟩)
abbrev s_bytes_of : Stmt := top 7
theorem sc_bytes_of : FnScope ["numbers", "number"] ["numbers"] (defScope s_bytes_of) := ⟨rfl, rfl, rfl, by decide +kernel, rfl, by decide +kernel, by decide +kernel⟩
abbrev s_numbers_of : Stmt := top 8
theorem sc_numbers_of : FnScope ["some"] ["some"] (defScope s_numbers_of) := ⟨rfl, rfl, rfl, by decide +kernel, rfl, by decide +kernel, by decide +kernel⟩
abbrev s_is_number : Stmt := top 9
theorem sc_is_number : FnScope ["what", "least", "most"] ["what", "least", "most"] (defScope s_is_number) := ⟨rfl, rfl, rfl, by decide +kernel, rfl, by decide +kernel, by decide +kernel⟩
abbrev s_can_be : Stmt := top 10
theorem sc_can_be : FnScope ["piece", "word", "some", "first", "many"] ["piece"] (defScope s_can_be) := ⟨rfl, rfl, rfl, by decide +kernel, rfl, by decide +kernel, by decide +kernel⟩
abbrev s_length_of : Stmt := top 11
theorem sc_length_of : FnScope ["piece"] ["piece"] (defScope s_length_of) := ⟨rfl, rfl, rfl, by decide +kernel, rfl, by decide +kernel, by decide +kernel⟩
abbrev s_cells_of : Stmt := top 12
theorem sc_cells_of : FnScope ["piece", "number", "byte"] ["piece"] (defScope s_cells_of) := ⟨rfl, rfl, rfl, by decide +kernel, rfl, by decide +kernel, by decide +kernel⟩
abbrev s_check_patch : Stmt := top 13
theorem sc_check_patch : FnScope ["patch", "total", "at", "piece"] ["patch"] (defScope s_check_patch) := ⟨rfl, rfl, rfl, by decide +kernel, rfl, by decide +kernel, by decide +kernel⟩
abbrev s_cells : Stmt := top 16
theorem sc_cells : FnScope ["patch", "told", "piece"] ["patch"] (defScope s_cells) := ⟨rfl, rfl, rfl, by decide +kernel, rfl, by decide +kernel, by decide +kernel⟩
abbrev s_plain : Stmt := top 17
theorem sc_plain : FnScope ["patch"] ["patch"] (defScope s_plain) := ⟨rfl, rfl, rfl, by decide +kernel, rfl, by decide +kernel, by decide +kernel⟩
abbrev s_plain_of : Stmt := top 18
theorem sc_plain_of : FnScope ["told", "patch", "cell", "many", "piece"] ["told"] (defScope s_plain_of) := ⟨rfl, rfl, rfl, by decide +kernel, rfl, by decide +kernel, by decide +kernel⟩
abbrev s_stretches : Stmt := top 19
theorem sc_stretches : FnScope ["told", "found", "cell", "first", "many"] ["told"] (defScope s_stretches) := ⟨rfl, rfl, rfl, by decide +kernel, rfl, by decide +kernel, by decide +kernel⟩
abbrev s_goes_on : Stmt := top 20
theorem sc_goes_on : FnScope ["stretch", "cell", "word", "worth", "many"] ["stretch", "cell"] (defScope s_goes_on) := ⟨rfl, rfl, rfl, by decide +kernel, rfl, by decide +kernel, by decide +kernel⟩
abbrev s_plain_piece : Stmt := top 21
theorem sc_plain_piece : FnScope ["cell", "many", "word", "worth"] ["cell", "many"] (defScope s_plain_piece) := ⟨rfl, rfl, rfl, by decide +kernel, rfl, by decide +kernel, by decide +kernel⟩
abbrev s_law_dice : Stmt := top 23
theorem sc_law_dice : FnScope ["_law_script", "_law_mixed", "_law_cell"] ["_law_script"] (defScope s_law_dice) := ⟨rfl, rfl, rfl, by decide +kernel, rfl, by decide +kernel, by decide +kernel⟩
abbrev s_law_next : Stmt := top 24
theorem sc_law_next : FnScope ["_law_dice_here", "_law_many", "_law_found", "_law_cell"] ["_law_dice_here", "_law_many"] (defScope s_law_next) := ⟨rfl, rfl, rfl, by decide +kernel, rfl, by decide +kernel, by decide +kernel⟩
abbrev s_law_like : Stmt := top 25
theorem sc_law_like : FnScope ["_law_found", "_law_due", "_law_k"] ["_law_found", "_law_due"] (defScope s_law_like) := ⟨rfl, rfl, rfl, by decide +kernel, rfl, by decide +kernel, by decide +kernel⟩
abbrev s_law_rows : Stmt := top 26
theorem sc_law_rows : FnScope ["_law_d", "_law_count", "_law_most", "_law_rows_here", "_law_left", "_law_turn", "_law_n", "_law_pick", "_law_k"] ["_law_d", "_law_count", "_law_most"] (defScope s_law_rows) := ⟨rfl, rfl, rfl, by decide +kernel, rfl, by decide +kernel, by decide +kernel⟩
abbrev s_law_handed : Stmt := top 27
theorem sc_law_handed : FnScope ["_law_rows_here", "_law_found", "_law_row"] ["_law_rows_here"] (defScope s_law_handed) := ⟨rfl, rfl, rfl, by decide +kernel, rfl, by decide +kernel, by decide +kernel⟩
abbrev s_law_size : Stmt := top 28
theorem sc_law_size : FnScope ["_law_row"] ["_law_row"] (defScope s_law_size) := ⟨rfl, rfl, rfl, by decide +kernel, rfl, by decide +kernel, by decide +kernel⟩
abbrev s_law_cells : Stmt := top 29
theorem sc_law_cells : FnScope ["_law_rows_here", "_law_found", "_law_row", "_law_k", "_law_byte"] ["_law_rows_here"] (defScope s_law_cells) := ⟨rfl, rfl, rfl, by decide +kernel, rfl, by decide +kernel, by decide +kernel⟩
abbrev s_law_is_patch : Stmt := top 30
theorem sc_law_is_patch : FnScope ["_law_told", "_law_rows_here", "_law_one", "_law_row"] ["_law_told", "_law_rows_here"] (defScope s_law_is_patch) := ⟨rfl, rfl, rfl, by decide +kernel, rfl, by decide +kernel, by decide +kernel⟩
abbrev s_law_plainly : Stmt := top 31
theorem sc_law_plainly : FnScope ["_law_some", "_law_rows_here", "_law_k", "_law_word", "_law_byte", "_law_n"] ["_law_some"] (defScope s_law_plainly) := ⟨rfl, rfl, rfl, by decide +kernel, rfl, by decide +kernel, by decide +kernel⟩
abbrev s_law : Stmt := top 32
theorem sc_law : FnScope ["_law_script", "_law_d", "_law_turn", "_law_rows_here", "_law_row", "_law_n", "_law_k"] ["_law_script"] (defScope s_law) := ⟨rfl, rfl, rfl, by decide +kernel, rfl, by decide +kernel, by decide +kernel⟩
structure Df (K : PySem.W.Frag) (mg : Str → Option Value) (x : Str) (st : Stmt) (ps : List Str) where
  f : Addr
  fd : FuncData
  F : Fun K x x st f fd
  m : mg x = some (.ref f)
  b : Binds K fd ps []
structure All (K : PySem.W.Frag) (mg : Str → Option Value) where
  d_bytes_of : Df K mg "bytes_of" s_bytes_of ["numbers"]
  d_numbers_of : Df K mg "numbers_of" s_numbers_of ["some"]
  d_is_number : Df K mg "is_number" s_is_number ["what", "least", "most"]
  d_can_be : Df K mg "can_be" s_can_be ["piece"]
  d_length_of : Df K mg "length_of" s_length_of ["piece"]
  d_cells_of : Df K mg "cells_of" s_cells_of ["piece"]
  d_check_patch : Df K mg "check_patch" s_check_patch ["patch"]
  d_cells : Df K mg "cells" s_cells ["patch"]
  d_plain : Df K mg "plain" s_plain ["patch"]
  d_plain_of : Df K mg "plain_of" s_plain_of ["told"]
  d_stretches : Df K mg "stretches" s_stretches ["told"]
  d_goes_on : Df K mg "goes_on" s_goes_on ["stretch", "cell"]
  d_plain_piece : Df K mg "plain_piece" s_plain_piece ["cell", "many"]
  d_law_dice : Df K mg "_law_dice" s_law_dice ["_law_script"]
  d_law_next : Df K mg "_law_next" s_law_next ["_law_dice_here", "_law_many"]
  d_law_like : Df K mg "_law_like" s_law_like ["_law_found", "_law_due"]
  d_law_rows : Df K mg "_law_rows" s_law_rows ["_law_d", "_law_count", "_law_most"]
  d_law_handed : Df K mg "_law_handed" s_law_handed ["_law_rows_here"]
  d_law_size : Df K mg "_law_size" s_law_size ["_law_row"]
  d_law_cells : Df K mg "_law_cells" s_law_cells ["_law_rows_here"]
  d_law_is_patch : Df K mg "_law_is_patch" s_law_is_patch ["_law_told", "_law_rows_here"]
  d_law_plainly : Df K mg "_law_plainly" s_law_plainly ["_law_some"]
  t_MOST : Tok
  c_MOST : mg "MOST" = some (.int 200 t_MOST)
  t_LAST_BYTE : Tok
  c_LAST_BYTE : mg "LAST_BYTE" = some (.int 255 t_LAST_BYTE)
  t_LEAST_RUN : Tok
  c_LEAST_RUN : mg "LEAST_RUN" = some (.int 3 t_LEAST_RUN)
  b_bool : mg "bool" = none
  b_bytes : mg "bytes" = none
  b_enumerate : mg "enumerate" = none
  b_int : mg "int" = none
  b_isinstance : mg "isinstance" = none
  b_len : mg "len" = none
  b_list : mg "list" = none
  b_min : mg "min" = none
  b_range : mg "range" = none
  b_str : mg "str" = none
  b_tuple : mg "tuple" = none
  b_zip : mg "zip" = none
/-! ### rules within a comprehension's block -/
theorem ixlK {X : Cx} {K : PySem.W.Frag} (h : X.K = K) : IxR X (rIxL K) := by subst h; exact ix_list
theorem ixtK {X : Cx} {K : PySem.W.Frag} (h : X.K = K) : IxR X (rIxT K) := by subst h; exact ix_tup
theorem ixsK {X : Cx} {K : PySem.W.Frag} (h : X.K = K) : IxR X (rIx K) := by subst h; exact ix_seq
theorem lenK {X : Cx} {K : PySem.W.Frag} (h : X.K = K) : CallR X (.builtin "len") (fun xs H Q => ∃ x n, xs = [x] ∧ LenV K x H n ∧ Q (.int n) H) := by subst h; exact call_len
theorem pg_tupK {X : Cx} {K : PySem.W.Frag} {es : List Expr} {k : Nat} {t : TGs} {n : Nat} {pos : Pos} (hK : X.K = K) (hc : X.calm = true) (h : PGs X es t)
    (hn : (assignEach es X.env).length = n := by rfl) (hst : (assignEach es X.env).findIdx? (·.1) = none := by rfl) : PG X (.Tuple es k pos) (gTup K n t) := by subst hK; exact pg_tup hc h hn hst
/-! ### heaps -/
/-- all but d is as it was -/
def But (d : Addr) (H H' : Hp) : Prop := ∀ b o, b ≠ d → H b = some o → H' b = some o
theorem But.refl (d : Addr) (H : Hp) : But d H H := fun _ _ _ h => h
theorem But.trans {d : Addr} {H H1 H2 : Hp} (a : But d H H1) (b : But d H1 H2) : But d H H2 := fun c o n h => b c o n (a c o n h)
theorem Same.but {d : Addr} {H H' : Hp} (a : Same H H') : But d H H' := fun c o _ h => a c o h
theorem But.put {d : Addr} {H : Hp} {o : HO} : But d H (upd H d o) := fun c u n h => by rw [upd_ne n]; exact h
theorem Same.new {p : Addr} {H : Hp} {o : HO} (n : H p = none) : Same H (upd H p o) := fun c u h => by rw [upd_ne (ne_of_none h n)]; exact h
theorem But.new {d p : Addr} {H : Hp} {o : HO} (n : H p = none) : But d H (upd H p o) := Same.but (Same.new n)
theorem But.at {d p : Addr} {H H' : Hp} {o u : HO} (b : But d H H') (hd : H d = some u) (h : H p = some o) (hn : o ≠ u) : H' p = some o := b p o (ne_of h hd hn) h
theorem But.free {d p : Addr} {H H' : Hp} {u : HO} (b : But d H H') (hd : H d = some u) (h : H' d = some u ∨ ∃ u', H' d = some u') (n : H' p = none) : H p = none := by
  cases e : H p with
  | none => rfl
  | some o =>
    by_cases hp : p = d
    · subst hp
      rcases h with h | ⟨_, h⟩ <;> (rw [n] at h; cases h)
    · rw [b p o hp e] at n; cases n
theorem tup_lst {xs ys : List V} : HO.tup xs ≠ HO.lst ys := by intro z; cases z
theorem sizeS {n : Nat} (h : n ≤ 100000) : n ≤ sizeLine := by rw [sizeLine_eq]; omega
theorem sizeL {n : Nat} (h : n ≤ 100000) : n < sizeLine := by rw [sizeLine_eq]; omega
/-! ### the dice -/
structure Dice (K : PySem.W.Frag) (a : Addr) (ns : List Int) (H : Hp) (d : Addr) : Prop where
  sq : SqL K H a (ns.map V.int)
  len : ns.length ≤ 63
  ex : ∃ p m g : Int, 0 ≤ p ∧ H d = some (.lst [.ref a, .int p, .int m, .int g])
theorem sq_but {K : PySem.W.Frag} {H H' : Hp} {a d : Addr} {ns : List Int} {x : Addr} {xs : List V} (b : But d H H') (hd : H d = some (.lst (.ref x :: xs))) (h : SqL K H a (ns.map V.int)) : SqL K H' a (ns.map V.int) := by
  rcases h with (h | ⟨o, h⟩) | h
  · refine .inl (.inl (b.at hd h ?_))
    intro z
    cases ns with
    | nil => cases z
    | cons n r => cases z
  · exact .inl (.inr ⟨o, b.at hd h (by intro z; cases z)⟩)
  · exact .inr h
section
variable {K : PySem.W.Frag} {a : Addr} {ns : List Int} {d : Addr}
theorem Dice.same {H H' : Hp} (D : Dice K a ns H d) (s : Same H H') : Dice K a ns H' d := by
  obtain ⟨h1, h2, p, m, g, h3, h4⟩ := D
  exact ⟨s.seq h1, h2, p, m, g, h3, s _ _ h4⟩
/-- the dice's list is no tuple, no list of ints -/
theorem Dice.is {H : Hp} (D : Dice K a ns H d) : ∃ xs, H d = some (.lst (.ref a :: xs)) := by
  obtain ⟨h1, h2, p, m, g, h3, h4⟩ := D
  exact ⟨_, h4⟩
theorem Dice.put {H : Hp} {p m g p' m' g' : Int} (h1 : SqL K H a (ns.map V.int)) (h2 : ns.length ≤ 63) (h3 : 0 ≤ p') (h4 : H d = some (.lst [.ref a, .int p, .int m, .int g])) :
    Dice K a ns (upd H d (.lst [.ref a, .int p', .int m', .int g'])) d :=
  ⟨sq_but But.put h4 h1, h2, p', m', g', h3, upd_same⟩
theorem tup_but {H H' : Hp} {p : Addr} {xs : List V} (D : Dice K a ns H d) (b : But d H H') (h : H p = some (.tup xs)) : H' p = some (.tup xs) := by
  obtain ⟨ys, e⟩ := D.is
  exact b.at e h tup_lst
theorem ints_but {H H' : Hp} {p : Addr} {ms : List Int} (D : Dice K a ns H d) (b : But d H H') (h : H p = some (.lst (ms.map V.int))) : H' p = some (.lst (ms.map V.int)) := by
  obtain ⟨ys, e⟩ := D.is
  refine b.at e h ?_
  intro z
  cases ms with
  | nil => cases z
  | cons n r => cases z
theorem none_but {H H' : Hp} {p : Addr} (D : Dice K a ns H d) (D' : Dice K a ns H' d) (b : But d H H') (h : H' p = none) : H p = none := by
  obtain ⟨ys, e⟩ := D.is
  obtain ⟨ys', e'⟩ := D'.is
  exact b.free e (.inr ⟨_, e'⟩) h
theorem Dice.ne {H : Hp} {p : Addr} (D : Dice K a ns H d) (h : H p = none) : p ≠ d := by
  obtain ⟨ys, e⟩ := D.is
  exact (ne_of_none e h).symm
/-- what was made since H0 may be changed -/
theorem But.fresh {H0 H : Hp} {p : Addr} {o : HO} (b : But d H0 H) (h : H0 p = none) : But d H0 (upd H p o) := fun c u n e => by rw [upd_ne (ne_of_none e h)]; exact b c u n e
theorem Dice.fresh {H0 H : Hp} {p : Addr} {o : HO} (D0 : Dice K a ns H0 d) (b : But d H0 H) (h : H0 p = none) (D : Dice K a ns H d) : Dice K a ns (upd H p o) d := by
  obtain ⟨ys, e⟩ := D0.is
  obtain ⟨h1, h2, q, m, g, h3, h4⟩ := D
  exact ⟨sq_but (But.fresh b h) e D0.sq, h2, q, m, g, h3, by rw [upd_ne (D0.ne h).symm]; exact h4⟩
end
/-- _law_dice(script) -/
def spDice (K : PySem.W.Frag) : Sp := fun vs H Q _ => ∃ (a : Addr) (ns : List Int), vs = [.ref a] ∧ SqL K H a (ns.map V.int) ∧ ns.length ≤ 63 ∧ ∀ H' d, Same H H' → H d = none → Dice K a ns H' d → Q (.ref d) H'
/-- _law_next(d, n): any number below n -/
def spNext (K : PySem.W.Frag) : Sp := fun vs H Q _ => ∃ (a : Addr) (ns : List Int) (d : Addr) (n : Int), vs = [.ref d, .int n] ∧ Dice K a ns H d ∧ 1 ≤ n ∧ n < 1073741824 ∧ ∀ H' r, But d H H' → Dice K a ns H' d → 0 ≤ r → r < n → Q (.int r) H'
section
variable {P : Program} {w : World} {K : PySem.W.Frag} {mg : Str → Option Value} {base : Heap}
theorem at_map {ns : List Int} {i : Nat} {x : V} (h : (ns.map V.int)[i]? = some x) : ∃ z, x = V.int z ∧ ns[i]? = some z := by
  rw [List.getElem?_map] at h
  cases e : ns[i]? with
  | none => rw [e] at h; cases h
  | some z => rw [e] at h; exact ⟨z, (Option.some.inj h).symm, rfl⟩
theorem ok_law_dice (T : All K mg) : FnOk P w K mg base CX0 1 T.d_law_dice.f T.d_law_dice.fd ["_law_script"] (spDice K) := by
  refine T.d_law_dice.F.ok sc_law_dice (fun vs H Q E h => ?_) (fun cdv A outer s H vs Q E hr h => ?_)
  · obtain ⟨a, ns, rfl, _⟩ := h
    rfl
  · obtain ⟨a, ns, rfl, hS, hl, k⟩ := h
    refine ⟨_, (pss_cons 
      (ps_set (i := 1) sc_law_dice.nd rfl (Or.inl rfl) pe_int) (pss_cons 
      (ps_for PassesOwn.never rfl (pi_list (pv 0)) (pg_name (i := 2) sc_law_dice.nd rfl (Or.inl rfl)) (pss_one 
      (ps_set (i := 1) sc_law_dice.nd rfl (Or.inl rfl) (pe_op op_mod (pe_op op_add (pe_op op_add (pe_op op_mul (pv 1) pe_int) (pe_op op_mul (pe_op op_mod (pe_callTy call_int1 (by rfl) T.b_int PyProof.Rows.boot_int (pa_cons (pv 2) pa_nil)) pe_int) pe_int)) pe_int) pe_int)))) (pss_one 
      (ps_ret (pe_lst (pa_cons (pv 0) (pa_cons pe_int (pa_cons (pe_op op_mul (pv 1) (pe_callTy call_int1 (by rfl) T.b_int PyProof.Rows.boot_int (pa_cons (pe_cmpR op_gt (pe_callB call_len (by rfl) T.b_len PySem.boot_len (pa_cons (pv 0) pa_nil)) pe_int (nomark _)) pa_nil))) (pa_cons pe_int pa_nil))))))))), ?_⟩
    refine ⟨_, rfl, a, rfl, ⟨_, hS⟩, for_list (K := K) (a := a) (xs := ns.map V.int) (fun i σ H' => ∃ (m : Int) (v : Option V), σ = [some (.ref a), some (.int m), v] ∧ H' = H ∧ 0 ≤ m ∧ m < 2147483647)
      ⟨0, none, rfl, rfl, by decide, by decide⟩ (fun i σ H' _ ⟨_, _, _, e, _⟩ => by rw [e]; exact hS) ?_ ?_⟩
    · rintro i y σ H' hi ⟨m, v, rfl, rfl, h0, h1⟩
      obtain ⟨z, rfl, _⟩ := at_map hi
      refine ⟨_, rfl, _, _, rfl, rfl, .inl ⟨by omega, by omega⟩, _, rfl, .inl ⟨_, rfl, _, _, rfl, rfl, (by show (0 : Int) < 2147483647; decide), ?_⟩⟩
      have b0 : 0 ≤ z % 2147483647 := Int.emod_nonneg _ (by decide)
      have b1 : z % 2147483647 < 2147483647 := Int.emod_lt_of_pos _ (by decide)
      refine ⟨_, _, rfl, rfl, .inl ⟨by omega, by omega⟩, _, _, rfl, rfl, _, _, rfl, rfl, _, _, rfl, rfl, (by show (0 : Int) < 2147483647; decide), ?_⟩
      exact ⟨_, _, rfl, rfl, Int.emod_nonneg _ (by decide), Int.emod_lt_of_pos _ (by decide)⟩
    · rintro σ H' ⟨m, v, rfl, rfl, h0, h1⟩
      refine ⟨_, rfl, _, rfl, _, rfl, _, ns.length, rfl, .inl ⟨_, hS, by rw [List.length_map]⟩, _, _, rfl, rfl, .inr ⟨_, rfl, _, _, rfl, rfl, .inl ⟨by omega, by omega⟩, sizeS (by show 4 ≤ 100000; decide), fun d hd => ?_⟩⟩
      exact k _ d (Same.new hd) hd ⟨(Same.new hd).seq hS, hl, 0, _, 0, by decide, upd_same⟩
theorem ok_law_next (T : All K mg) : FnOk P w K mg base CX0 1 T.d_law_next.f T.d_law_next.fd ["_law_dice_here", "_law_many"] (spNext K) := by
  refine T.d_law_next.F.ok sc_law_next (fun vs H Q E h => ?_) (fun cdv A outer s H vs Q E hr h => ?_)
  · obtain ⟨_, _, d, n, rfl, _⟩ := h
    rfl
  · obtain ⟨a, ns, d, n, rfl, ⟨hS, hl, p, m, g, hp, hd⟩, n1, n2, k⟩ := h
    refine ⟨_, (pss_cons 
      (ps_if (pt_cmpR op_gt (pe_ix ix_list (pv 0) pe_int (fun _ _ => rfl)) pe_int (nomark _)) (pss_cons 
      (ps_set (i := 2) sc_law_next.nd rfl (Or.inl rfl) (pe_op op_mod (pe_callTy call_int1 (by rfl) T.b_int PyProof.Rows.boot_int (pa_cons (pe_ix ix_list (pv 0) pe_int (fun _ _ => rfl)) pa_nil)) (pv 1))) (pss_cons 
      (ps_asg (pe_op op_fdiv (pe_ix ix_list (pv 0) pe_int (fun _ _ => rfl)) (pv 1)) (pg_sub (pv 0) pe_int set_list)) (pss_one 
      (ps_ret (pv 2))))) pss_nil) (pss_cons 
      (ps_asg (pe_op op_add (pe_ix ix_list (pv 0) pe_int (fun _ _ => rfl)) pe_int) (pg_sub (pv 0) pe_int set_list)) (pss_cons 
      (ps_if (pt_cmpR op_le (pe_ix ix_list (pv 0) pe_int (fun _ _ => rfl)) (pe_callB call_len (by rfl) T.b_len PySem.boot_len (pa_cons (pe_ix ix_list (pv 0) pe_int (fun _ _ => rfl)) pa_nil)) (nomark _)) (pss_cons 
      (ps_set (i := 3) sc_law_next.nd rfl (Or.inl rfl) (pe_ix ix_list (pe_ix ix_list (pv 0) pe_int (fun _ _ => rfl)) (pe_op op_sub (pe_ix ix_list (pv 0) pe_int (fun _ _ => rfl)) pe_int) (fun _ _ => rfl))) (pss_cons 
      (ps_asg (pe_ifExp (pt_cmpR op_ge (pv 3) (pe_op op_pow pe_int pe_int) (nomark _)) (pe_op op_fdiv (pv 3) (pv 1)) pe_int) (pg_sub (pv 0) pe_int set_list)) (pss_one 
      (ps_ret (pe_op op_mod (pe_callTy call_int1 (by rfl) T.b_int PyProof.Rows.boot_int (pa_cons (pv 3) pa_nil)) (pv 1)))))) pss_nil) (pss_cons 
      (ps_asg (pe_op op_mod (pe_callTy call_int1 (by rfl) T.b_int PyProof.Rows.boot_int (pa_cons (pe_op op_mul (pe_ix ix_list (pv 0) pe_int (fun _ _ => rfl)) pe_int) pa_nil)) pe_int) (pg_sub (pv 0) pe_int set_list)) (pss_one 
      (ps_ret (pe_op op_mod (pe_op op_fdiv (pe_ix ix_list (pv 0) pe_int (fun _ _ => rfl)) pe_int) (pv 1)))))))), ?_⟩
    have i0 : ∀ {x0 x1 x2 x3 : V}, atI [x0, x1, x2, x3] 0 = some x0 := rfl
    have i1 : ∀ {x0 x1 x2 x3 : V}, atI [x0, x1, x2, x3] 1 = some x1 := rfl
    have i2 : ∀ {x0 x1 x2 x3 : V}, atI [x0, x1, x2, x3] 2 = some x2 := rfl
    have i3 : ∀ {x0 x1 x2 x3 : V}, atI [x0, x1, x2, x3] 3 = some x3 := rfl
    have npos : 0 < n := by omega
    refine ⟨_, rfl, d, _, _, _, rfl, rfl, SqL.of hd, i3, _, _, rfl, rfl, _, rfl, ite2 (fun hg => ?_) fun hg => ?_⟩
    · refine ⟨_, rfl, d, _, _, _, rfl, rfl, SqL.of hd, i3, .inl ⟨_, rfl, _, rfl, _, _, rfl, rfl, npos, ?_⟩⟩
      refine ⟨_, rfl, d, _, _, _, rfl, rfl, SqL.of hd, i3, _, rfl, _, _, rfl, rfl, ⟨npos, n2⟩, _, rfl, d, _, _, _, rfl, rfl, hd, rfl, _, rfl, ?_⟩
      exact k _ _ But.put (Dice.put hS hl hp hd) (Int.emod_nonneg _ (by omega)) (Int.emod_lt_of_pos _ npos)
    · refine ⟨_, rfl, d, _, _, _, rfl, rfl, SqL.of hd, i1, _, _, rfl, rfl, _, rfl, d, _, _, _, rfl, rfl, hd, rfl, ?_⟩
      have hd1 : (upd H d (.lst [V.ref a, V.int (p + 1), V.int m, V.int g])) d = some (.lst [V.ref a, V.int (p + 1), V.int m, V.int g]) := upd_same
      have hS1 : SqL K (upd H d (.lst [V.ref a, V.int (p + 1), V.int m, V.int g])) a (ns.map V.int) := sq_but But.put hd hS
      refine ⟨_, rfl, d, _, _, _, rfl, rfl, SqL.of hd1, i1, _, rfl, d, _, _, _, rfl, rfl, SqL.of hd1, i0, _, _, rfl, .inl ⟨_, hS1, rfl⟩, _, _, rfl, rfl, _, rfl, ite2 (fun hc => ?_) fun hc => ?_⟩
      · have hc' : p + 1 ≤ (ns.length : Int) := by
          have := of_decide_eq_true hc
          rw [List.length_map] at this
          exact this
        obtain ⟨j, hj⟩ : ∃ j : Nat, p = (j : Int) := ⟨p.toNat, by omega⟩
        have hlt : j < ns.length := by omega
        have hat : atI (ns.map V.int) (p + 1 - 1) = some (V.int ns[j]) := at_of (j := j) (by omega) (by rw [List.getElem?_map, List.getElem?_eq_getElem hlt]; rfl)
        refine ⟨_, rfl, d, _, _, _, rfl, rfl, SqL.of hd1, i0, _, rfl, d, _, _, _, rfl, rfl, SqL.of hd1, i1, _, _, rfl, rfl, a, _, _, _, rfl, rfl, hS1, hat, ?_⟩
        refine ⟨_, rfl, _, _, rfl, rfl, ⟨by decide, by decide, by decide⟩, _, _, rfl, rfl, _, rfl, ite2 (fun hb => ?_) fun hb => ?_⟩
        · refine ⟨_, rfl, _, rfl, _, _, rfl, rfl, ⟨npos, n2⟩, _, rfl, d, _, _, _, rfl, rfl, hd1, rfl, ?_⟩
          refine ⟨_, rfl, .inl ⟨_, rfl, _, rfl, _, _, rfl, rfl, npos, ?_⟩⟩
          exact k _ _ (But.put.trans But.put) (Dice.put hS1 hl (by omega) hd1) (Int.emod_nonneg _ (by omega)) (Int.emod_lt_of_pos _ npos)
        · refine ⟨_, rfl, d, _, _, _, rfl, rfl, hd1, rfl, ?_⟩
          refine ⟨_, rfl, .inl ⟨_, rfl, _, rfl, _, _, rfl, rfl, npos, ?_⟩⟩
          exact k _ _ (But.put.trans But.put) (Dice.put hS1 hl (by omega) hd1) (Int.emod_nonneg _ (by omega)) (Int.emod_lt_of_pos _ npos)
      · refine ⟨_, rfl, d, _, _, _, rfl, rfl, SqL.of hd1, i2, _, _, rfl, rfl, .inr ⟨by decide, by decide⟩, .inl ⟨_, rfl, _, _, rfl, rfl, (by show (0 : Int) < 2147483647; decide), _, rfl, d, _, _, _, rfl, rfl, hd1, rfl, ?_⟩⟩
        have hd2 : (upd (upd H d (.lst [V.ref a, V.int (p + 1), V.int m, V.int g])) d (.lst [V.ref a, V.int (p + 1), V.int (m * 48271 % 2147483647), V.int g])) d = some (.lst [V.ref a, V.int (p + 1), V.int (m * 48271 % 2147483647), V.int g]) := upd_same
        refine ⟨_, rfl, d, _, _, _, rfl, rfl, SqL.of hd2, i2, _, _, rfl, rfl, ⟨by decide, by decide⟩, _, rfl, _, _, rfl, rfl, npos, ?_⟩
        exact k _ _ (But.put.trans But.put) (Dice.put hS1 hl (by omega) hd1) (Int.emod_nonneg _ (by omega)) (Int.emod_lt_of_pos _ npos)
end
/-! ### enumerate(tuple) -/
open AutoSeq1 (wpAny_loadPart') in
set_option maxHeartbeats 1000000 in
theorem meets_enumT (t : Addr) (items : Array Value) :
    Meets (Builtin.«enumerate.__new__» ⟨[.type "enumerate", .ref t], []⟩) (fun _ R s => s.heap.IsTuple t items ∧
      R (.ok (.ret (.ref (s.heap.push { cls := .type "tuple_iterator", data := .fields #[.ref t, .int 0 0] }).objs.size)))
        { s with heap := (s.heap.push { cls := .type "tuple_iterator", data := .fields #[.ref t, .int 0 0] }).push { cls := .type "enumerate", data := .fields #[.none, .bool false, .ref s.heap.objs.size, rawInt 0, .none, .none] } }) :=
  .of_wp fun prog w A R s h => by
    obtain ⟨hp, g, d, tk, os⟩ := s; obtain ⟨hl, h⟩ := h
    have hsub := sub_enumerate
    have q1 : ∀ {A' : Around} {E : Value → Shared → Prop} {Q : Value → Shared → Prop}, Q (.ref hp.objs.size) ⟨hp.push { cls := .type "tuple_iterator", data := .fields #[.ref t, .int 0 0] }, g, d, tk, os⟩ → wpAny (model prog w) A' (pyIter (.ref t)) Q E ⟨hp, g, d, tk, os⟩ :=
      fun q => (begins_tuple t items).iter prog w _ _ ⟨hp, g, d, tk, os⟩ _ hl q
    wp_walk using q1
    refine wpAny_stack_any fun st => wpAny_pure ?_
    split
    · rename_i c _ _ _ _ _
      cases (c == Value.type "enumerate")
      · wp_walk using q1
        exact ⟨_, rfl, h⟩
      · wp_walk using q1
        exact ⟨_, rfl, h⟩
    · wp_walk using q1
      exact ⟨_, rfl, h⟩
theorem call_enumT {prog : Program} {w : World} {A : Around} {E : Value → Shared → Prop} {s : Shared} {t : Addr} {items : Array Value} {Q : Value → Shared → Prop} (ht : s.heap.IsTuple t items)
    (h : ∀ h', IsEnum h' (s.heap.objs.size + 1) s.heap.objs.size 0 .none → h'.IsTupleIter s.heap.objs.size t 0 → h'.objs.size = s.heap.objs.size + 2 →
      (∀ b o, s.heap.get? b = some o → h'.get? b = some o) → Q (.ref (s.heap.objs.size + 1)) { s with heap := h' }) :
    wpAny (model prog w) A (call (.type "enumerate") [.ref t]) Q E s := by
  refine callType_new F.called_enumerate (by decide) (F.typeCall_enumerate_1 _) (F.newCall_enumerate_1 _) (fun obj => F.args_object_init_2 obj _) F.entry_enumerate_new
    (meets_enumT t items) ⟨ht, ?_⟩
  have hz : (s.heap.push { cls := .type "tuple_iterator", data := .fields #[.ref t, .int 0 0] }).objs.size = s.heap.objs.size + 1 := Heap.size_push ..
  show _ ∧ _
  rw [hz]
  have he : IsEnum ((s.heap.push { cls := .type "tuple_iterator", data := .fields #[.ref t, .int 0 0] }).push
      { cls := .type "enumerate", data := .fields #[.none, .bool false, .ref s.heap.objs.size, rawInt 0, .none, .none] }) (s.heap.objs.size + 1) s.heap.objs.size 0 .none := by
    have := Heap.get?_push_size (s.heap.push { cls := .type "tuple_iterator", data := .fields #[.ref t, .int 0 0] })
      (o := { cls := .type "enumerate", data := .fields #[.none, .bool false, .ref s.heap.objs.size, rawInt 0, .none, .none] }) rfl
    rw [hz] at this; exact this
  refine ⟨⟨_, he, rfl⟩, h _ he ⟨_, Heap.get?_push_of_some _ (Heap.get?_push_size _ rfl), rfl, rfl⟩ (by rw [Heap.size_push, hz]) fun b o x => Heap.get?_push_of_some _ (Heap.get?_push_of_some _ x)⟩
theorem pyNext_enumT_end {prog : Program} {w : World} {A : Around} {E : Value → Shared → Prop} {s : Shared} {e it t : Addr} {i : Nat} {c : Int} {items : Array Value} {old : Value} {Q : Option Value → Shared → Prop} (hh : A.handled = none)
    (he : IsEnum s.heap e it c old) (hit : s.heap.IsTupleIter it t i) (ht : s.heap.IsTuple t items) (hx : items[i]? = none)
    (hQ : ∀ h', Heap.ExtBut it s.heap h' → Q none { s with heap := h' }) : wpAny (model prog w) A (pyNext (.ref e)) Q E s := by
  have hT : s.TypeIs (.ref e) "enumerate" := ⟨_, he, rfl⟩
  unfold pyNext
  refine wpAny_bind (wpAny_attempt (wpAny_callSpecial?_slot (name := Str.ofString "__next__") hT F.slot_enumerate_next
    (wpAny_call_entry F.slot_enumerate_next hT F.entry_enumerate_next ?_ (F.args_enumerate_next_1 _))))
  show wpAny _ _ (field (.ref e) 2 >>= _) _ _ _
  refine wpAny_bind (wpAny_field he rfl (x := .ref it) rfl ?_)
  refine wpAny_bind (wpAny_nextOf_tuple_end (by exact hh) hit ht hx fun h' x he' hx' => ?_)
  obtain ⟨o, ho, hc⟩ := hx'
  refine wpAny_bind (wpAny_isInstance (T := "StopIteration") (b := true) ⟨o, ho, hc⟩ isSubtype_stop ?_)
  exact wpAny_pure (hQ _ he')
/-- the tuple at a, each item in a new pair -/
def Itet (K : PySem.W.Frag) (a : Addr) : It :=
  ⟨fun i H => ∃ (xs : List V) (x : V), SqT K H a xs ∧ xs[i]? = some x, fun i H v H' => ∃ T x, v = .ref T ∧ H T = none ∧ H' = upd H T (.tup [.int (i : Nat), x]) ∧ ∀ xs, SqT K H a xs → xs[i]? = some x, fun i H => ∃ xs : List V, SqT K H a xs ∧ xs.length ≤ i⟩
theorem turn_enumT {P : Program} {w : World} {K : PySem.W.Frag} {elts : List Expr} {kk : Nat} {tpos : Pos} (a e it : Addr) :
    Turn P w K (.Tuple elts kk tpos) (Itet K a) [e, it] e (fun i h => (∃ old, IsEnum h e it ((i : Nat) : Int) old) ∧ h.IsTupleIter it a i ∧ e ≠ it ∧ a ≠ it ∧ e ≠ a) where
  mem := by simp
  obj := fun i h st b hb => by
    obtain ⟨⟨old, he⟩, ⟨o, ho, hc, hd⟩, _⟩ := st
    have e' : b = e ∨ b = it := by simpa using hb
    rcases e' with z | z
    · rw [z]; exact ⟨_, he, fun v q => nomatch q⟩
    · rw [z]; exact ⟨o, ho, fun v q => by rw [hd] at q; cases q⟩
  keep := fun i h h' st k => let ⟨⟨old, he⟩, hi, hne⟩ := st; ⟨⟨old, k e (by simp) _ he⟩, hi.at fun o q => k it (by simp) o q, hne⟩
  item := by
    intro X hP hw hK hc i pins s σ H E I hf st hg
    subst hP hw hK
    obtain ⟨⟨old, he⟩, hit, hne, hne2, hne3⟩ := st
    obtain ⟨xs, x, hq, hx⟩ := hg
    obtain ⟨its, rv, p, hz⟩ := I.tuple hq
    obtain ⟨u, hu, ru⟩ := rv.get hx
    have hel : e < s.heap.objs.size := Heap.lt_size he
    have hil : it < s.heap.objs.size := by obtain ⟨_, q, _⟩ := hit; exact Heap.lt_size q
    have ht : s.heap.IsTuple a its.toArray := p
    have hlt : i < its.toArray.size := by
      have := (List.getElem?_eq_some_iff.mp hu).1
      simpa using this
    refine wpAny_pyNext_enum_itemD (Draws.tuple (A := X.A.in1) (by exact I.ok.hd hc) it a hne2 its.toArray) he ⟨hit, ht⟩ hlt hne (by simp; exact ⟨hne, hne3⟩) fun y h' tk hPy ho hst' hT hsz hk => ?_
    have ey : y = u := by
      have z : its[i]? = some y := by simpa using hPy
      rw [hu] at z; exact (Option.some.inj z).symm
    subst ey
    refine ⟨_, rfl, wpAny_letOwnedTupleGo_enum (s := { s with heap := h', toks := tk + 1 }) ho fun h'' he' sb => ?_⟩
    have hT2 : h''.get? s.heap.objs.size = some { cls := .type "tuple", data := .seq #[.int i tk, y] } := (sb.2 _ (Nat.ne_of_gt hel)).trans hT
    have new : ObjOk X.prog X.w (upd H s.heap.objs.size (.tup [.int (i : Nat), x])) h'' s.heap.objs.size (.tup [.int (i : Nat), x]) :=
      ⟨by show 2 ≤ sizeLine; decide, [.int i tk, y], .cons ⟨_, rfl⟩ (.cons ru .nil), ⟨_, hT2, rfl, _, rfl⟩⟩
    have I1 : Inv X pins σ (upd H s.heap.objs.size (.tup [.int (i : Nat), x])) { s with heap := h'', toks := tk + 1 } :=
      I.turnedNew (ch := [e, it]) (fun b ob hb q => (sb.2 b (fun z => hb (by simp [z]))).trans (hk b ob (fun z => hb (by simp [z])) (fun z => hb (by simp [z])) q)) hf (Nat.le_refl _) new
    refine ⟨.ref s.heap.objs.size, _, I1, rfl, ⟨_, x, rfl, I.hok.fresh (Nat.le_refl _), rfl, fun ys hy => by rw [I.tuple_inj hy hq]; exact hx⟩, ⟨⟨y, ?_⟩, hst'.1.at fun o q => (sb.2 it (Ne.symm hne)).trans q, hne, hne2, hne3⟩, fun b hb => ?_⟩
    · have e1 : ((i + 1 : Nat) : Int) = (i : Int) + 1 := by omega
      rw [e1]; exact he'
    · have hb' : b < s.heap.objs.size := by
        have e' : b = e ∨ b = it := by simpa using hb
        rcases e' with z | z
        · rw [z]; exact hel
        · rw [z]; exact hil
      rw [upd_ne (Nat.ne_of_lt hb')]
      exact (hf b hb).1
  done := by
    intro X hP hw hK hc i pins s σ H E I hf st hg
    subst hP hw hK
    obtain ⟨⟨old, he⟩, hit, hne, hne2, hne3⟩ := st
    obtain ⟨xs, hq, hx⟩ := hg
    obtain ⟨its, rv, p, hz⟩ := I.tuple hq
    obtain ⟨f0, f1, f2, f3, f4, f5⟩ := hf it (by simp)
    have hl := rv.length
    have ht : s.heap.IsTuple a its.toArray := p
    exact pyNext_enumT_end (I.ok.hd hc) he hit ht (by simp; omega) fun h' eb => ⟨rfl, I.turned (t' := s.toks) (fun b o hb q => eb b o hb q) f0 f1 f3 f4 f5⟩
  self := fun A i s Q E st h => let ⟨⟨_, he⟩, _⟩ := st; wpAny_pyIter_enum he h
def iEnumT (K : PySem.W.Frag) (ta : TA) : TI := fun σ H R => ta σ H fun vs H1 => ∃ a xs, vs = [.ref a] ∧ SqT K H1 a xs ∧ R (Itet K a) H1
theorem pi_enumT {X : Cx} {e : Expr} {ta : TA} {p pos tpos : Pos} {elts : List Expr} {kk : Nat} (hg : Gl X "enumerate") (hm : X.mg "enumerate" = none) (ha : PA X [e] ta) (hs : starEach [e] X.env = [(false, eval e X.env)] := by rfl) :
    PI X (.Tuple elts kk tpos) (.Call (.Name "enumerate" p) [e] [] pos) (iEnumT X.K ta) := by
  refine ⟨fun pins s σ H R I h => ?_⟩
  refine Call_ (ld_blt I hg hm boot_enumerate (PyProof.Rows.callWith_type1 (thn (ha.run pos pins s σ H _ I h) fun us s1 ⟨vs, H1, I1, r1, q1⟩ => ?_) hs rfl))
  obtain ⟨a, xs, ex, hq, q⟩ := q1
  subst ex
  cases r1 with
  | cons r rr =>
    cases rr
    cases r
    obtain ⟨its, rv, p', hz⟩ := I1.tuple hq
    have ht : s1.heap.IsTuple a its.toArray := p'
    have hal : a < s1.heap.objs.size := by obtain ⟨_, q', _⟩ := id ht; exact Heap.lt_size q'
    refine call_enumT ht fun h' he hit hsz hk => wpAny_pyIter_enum he ?_
    have I2 : Inv X pins σ H1 { s1 with heap := h' } := I1.kept (t' := s1.toks) hk
    refine ⟨s1.heap.objs.size + 1, [s1.heap.objs.size + 1, s1.heap.objs.size], _, _, H1, rfl, I2, turn_enumT a (s1.heap.objs.size + 1) s1.heap.objs.size, ⟨⟨.none, he⟩, hit, Nat.succ_ne_self _, Nat.ne_of_lt hal, Nat.ne_of_gt (Nat.lt_succ_of_lt hal)⟩, fun b hb => ?_, q⟩
    have e' : b = s1.heap.objs.size + 1 ∨ b = s1.heap.objs.size := by simpa using hb
    have hle : s1.heap.objs.size ≤ b := by
      rcases e' with z | z
      · rw [z]; exact Nat.le_add_right _ _
      · rw [z]; exact Nat.le_refl _
    exact I1.fpOk hle (I1.hok.fresh hle)
theorem walk_enumT {K : PySem.W.Frag} {a : Addr} {xs : List V} : Walk (Itet K a) xs.length (fun H => SqT K H a xs) (YPair (fun i => some (.int (i : Nat))) (fun i => xs[i]?)) := by
  refine ⟨fun i _ hi q => ⟨xs, xs[i], q, by simp [hi]⟩, fun _ q => ⟨xs, q, Nat.le_refl _⟩, fun i H v H' _ q y => ?_⟩
  obtain ⟨T, x, h1, h2, h3, h4⟩ := y
  exact ⟨T, .int (i : Nat), x, h1, h2, h3, rfl, h4 xs q⟩
theorem walk_byt {x : Array UInt8} : Walk (Itb x) x.size (fun _ => True) (fun i H v H' => H' = H ∧ ∃ c, x[i]? = some c ∧ v = .int ((c.toNat : Nat) : Int)) :=
  ⟨fun _ _ hi _ => hi, fun _ _ => Nat.le_refl _, fun _ _ _ _ _ _ y => y⟩
/-- the i-th byte -/
theorem byt_at {bs : List Int} {i : Nat} {c : UInt8} (hb : B8 bs) (h : (byteArr bs)[i]? = some c) : bs[i]? = some ((c.toNat : Nat) : Int) := by
  have h1 : (bs.map fun n : Int => n.toNat.toUInt8)[i]? = some c := by
    have : (byteArr bs)[i]? = (bs.map fun n : Int => n.toNat.toUInt8)[i]? := by unfold byteArr; simp
    rw [← this]; exact h
  have hl : i < bs.length := by
    have := (List.getElem?_eq_some_iff.mp h1).1
    simpa using this
  have h2 := byte_at (j := i) hb (List.getElem?_eq_getElem hl)
  rw [List.getD_eq_getElem?_getD, h1] at h2
  rw [List.getElem?_eq_getElem hl, ← h2]
  rfl
/-! ### max(list of ints, default=int) -/
theorem args_maxD (a v : Value) : argsOk "max" ⟨[a], [(Str.ofString "default", v)]⟩ := by unfold argsOk; kernel_rfl
section
variable {prog : Program} {w : World} {A : Around} {R : Result → Shared → Prop} {I S : Addr} {fp wr : List Addr} {n : Nat} {P : Nat → Value → Prop} {St : Nat → Heap → Prop} {f : Nat → Int} {kw : List (Str × Value)}
theorem maxD_turns (W : Walks prog w A.in1 I fp wr n P St) (num : ∀ i v, P i v → ∃ t, v = Value.int (f i) t) (apart : S ∉ fp) : ∀ (left j b : Nat) (s : Shared) (best : Value) (c : Nat), n = j + 1 + left → St (j + 1) s.heap → P b best → b ≤ j → (∀ i, i ≤ j → f i ≤ f b) →
    s.heap.get? S = some { cls := .type "list", dict := none, data := .seq #[best, best] c, slots := #[] } →
    (∀ b v h' tk, b < n → P b v → (∀ i, i < n → f i ≤ f b) → (∀ a o, a ∉ wr → a ≠ S → s.heap.get? a = some o → h'.get? a = some o) → R (.ok (.ret v)) { s with heap := h', toks := tk }) →
    codeAny (model prog w) A (.builtin "max.loop" ⟨[.ref I, .none, .ref S], kw⟩) R s := by
  have outside : S ∉ wr := fun z => apart (W.sub _ z)
  have nm : (toString "max" ++ toString ".loop" : String) = "max.loop" := by decide
  intro left
  induction left with
  | zero =>
    intro j b s best c en st hb bj top hS fin
    refine codeAny_builtin F.entry_max_loop ?_
    rw [Around.under_plainId F.plain_max_loop _]
    refine wpAny_bind (wpAny_seqItems hS rfl (wpAny_bind (wpAny_tryCatch (W.done s _ _ (by rw [en]; exact st) fun h' tk kept => ?_))))
    refine wpAny_bind (wpAny_updateSeq (kept S _ outside hS) rfl (wpAny_bind (wpAny_letGo (wpAny_pure ?_))))
    exact fin b best _ tk (by omega) hb (fun i hi => top i (by omega)) fun a o ha hs e => (Heap.get?_update_other _ _ (Ne.symm hs)).trans (kept a o ha e)
  | succ left ih =>
    intro j b s best c en st hb bj top hS fin
    refine codeAny_builtin F.entry_max_loop ?_
    rw [Around.under_plainId F.plain_max_loop _]
    refine wpAny_bind (wpAny_seqItems hS rfl (wpAny_bind (wpAny_tryCatch (W.item (j + 1) s _ _ (by omega) st fun v h' tk hv st' kept => ?_))))
    have hS1 := kept S _ outside hS
    refine wpAny_bind (wpAny_pure ?_)
    refine wpAny_bind (wpAny_tryCatch (wpAny_holding (wpAny_bind (CmpOf.ints_gt f num (j + 1) b v best _ _ _ hv hb ?_))))
    refine wpAny_bind (wpAny_holding (wpAny_truthy_bool (wpAny_bind (wpAny_letGo (wpAny_pure ?_)))))
    by_cases gt : f (j + 1) > f b
    · rw [if_pos (by exact decide_eq_true gt)]
      refine wpAny_bind ?_
      refine wpAny_updateSeq hS1 rfl (wpAny_bind (wpAny_letGo ?_))
      rw [nm]
      refine wpAny_pure ⟨plainId_quiet F.plain_max_loop _, ?_⟩
      refine ih (j + 1) (j + 1) _ v c (by omega) (W.frame _ _ _ st' fun a ha o e => ?_) hv (Nat.le_refl _) (fun i hi => ?_) (Heap.get?_update_self _ hS1 rfl) fun b' v' h2 tk2 lt hv' top' kept' => ?_
      · exact (Heap.get?_update_other _ _ (fun z : S = a => apart (by rw [z]; exact ha))).trans e
      · by_cases e : i = j + 1
        · rw [e]; omega
        · have := top i (by omega)
          omega
      · exact fin b' v' h2 tk2 lt hv' top' fun a o ha hs e => kept' a o ha hs ((Heap.get?_update_other _ _ (Ne.symm hs)).trans (kept a o ha e))
    · rw [if_neg (by intro z; exact gt (of_decide_eq_true z))]
      refine wpAny_bind (wpAny_letGo ?_)
      rw [nm]
      refine wpAny_pure ⟨plainId_quiet F.plain_max_loop _, ?_⟩
      refine ih (j + 1) b _ best c (by omega) st' hb (by omega) (fun i hi => ?_) hS1 fun b' v' h2 tk2 lt hv' top' kept' => ?_
      · by_cases e : i = j + 1
        · rw [e]; omega
        · exact top i (by omega)
      · exact fin b' v' h2 tk2 lt hv' top' fun a o ha hs e => kept' a o ha hs (kept a o ha e)
end
theorem call_maxD {prog : Program} {w : World} {A : Around} {E : Value → Shared → Prop} {s : Shared} {l : Addr} {its : List Value} {ns : List Int} {d : Value} {Q : Value → Shared → Prop} (hh : A.handled = none) (hl : s.heap.IsList l its.toArray) (hi : ∀ i v, its[i]? = some v → ∃ t, v = Value.int (ns.getD i 0) t) (len : its.length = ns.length)
    (h0 : ns = [] → ∀ h' tk, (∀ b o, s.heap.get? b = some o → h'.get? b = some o) → Q d { s with heap := h', toks := tk })
    (h1 : ∀ m t h' tk, m ∈ ns → (∀ y, y ∈ ns → y ≤ m) → (∀ b o, s.heap.get? b = some o → h'.get? b = some o) → Q (Value.int m t) { s with heap := h', toks := tk }) :
    wpAny (model prog w) A (call (.builtin "max") [.ref l] [(Str.ofString "default", d)]) Q E s := by
  have nm : (toString "max" ++ toString ".loop" : String) = "max.loop" := by decide
  have below : l < s.heap.objs.size := by obtain ⟨_, q, _⟩ := id hl; exact Heap.lt_size q
  refine PyProof.Rows.kmk_tree F.kind_max F.plain_max F.entry_max (args_maxD _ _) ?_
  refine wpAny_bind (wpAny_of_eq (show Builtin.Builtins.bindParams "max" ["key", "default"] 0 ⟨[], [(Str.ofString "default", d)]⟩ = pure [none, some d] from rfl) (wpAny_bind (wpAny_pure ?_)))
  refine wpAny_bind (wpAny_pyIter_list hl (wpAny_bind (wpAny_newList ?_ (Nat.zero_le _))))
  rw [nm]
  have sz : (s.heap.push { cls := .type "list_iterator", data := .fields #[.ref l, .int 0 0] }).objs.size = s.heap.objs.size + 1 := Heap.size_push ..
  refine wpAny_pure ⟨plainId_quiet F.plain_max_loop _, ?_⟩
  have W := Walks.list (prog := prog) (w := w) (A := A.in1) hh s.heap.objs.size l (Nat.ne_of_lt below) its.toArray
  have hn : its.toArray.size = ns.length := by rw [List.size_toArray]; exact len
  have gI : ((s.heap.push { cls := .type "list_iterator", data := .fields #[.ref l, .int 0 0] }).push (PyProof.Rows.seqObj "list" #[] 0)).IsListIter s.heap.objs.size l 0 := ⟨_, Heap.get?_push_of_some _ (Heap.get?_push_size _ rfl), rfl, rfl⟩
  have gS : ((s.heap.push { cls := .type "list_iterator", data := .fields #[.ref l, .int 0 0] }).push (PyProof.Rows.seqObj "list" #[] 0)).get? (s.heap.push { cls := .type "list_iterator", data := .fields #[.ref l, .int 0 0] }).objs.size = some (PyProof.Rows.seqObj "list" #[] 0) := Heap.get?_push_size _ rfl
  have nS : (s.heap.push { cls := .type "list_iterator", data := .fields #[.ref l, .int 0 0] }).objs.size ≠ s.heap.objs.size := by rw [sz]; exact Nat.succ_ne_self _
  have old : ∀ b o, s.heap.get? b = some o → ((s.heap.push { cls := .type "list_iterator", data := .fields #[.ref l, .int 0 0] }).push (PyProof.Rows.seqObj "list" #[] 0)).get? b = some o := fun b o e => Heap.get?_push_of_some _ (Heap.get?_push_of_some _ e)
  have gl := hl.at fun o e => old l o e
  have away : ∀ b o, s.heap.get? b = some o → b ∉ [s.heap.objs.size] ∧ b ≠ (s.heap.push { cls := .type "list_iterator", data := .fields #[.ref l, .int 0 0] }).objs.size := fun b o e => by
    have := Heap.lt_size e
    constructor
    · intro hm; rw [List.mem_singleton.mp hm] at this; exact Nat.lt_irrefl _ this
    · rw [sz]; exact Nat.ne_of_lt (Nat.lt_succ_of_lt this)
  refine codeAny_builtin F.entry_max_loop ?_
  rw [Around.under_plainId F.plain_max_loop _]
  refine wpAny_bind (wpAny_seqItems gS rfl ?_)
  cases e : ns with
  | nil =>
    have z : its.toArray.size = 0 := by rw [hn, e]; rfl
    refine wpAny_bind (wpAny_tryCatch (W.done _ _ _ (by rw [z]; exact ⟨gI, gl⟩) fun h' tk kept => ?_))
    refine wpAny_bind (wpAny_rule (wpAny_pure ?_))
    exact h0 e _ tk fun b o q => kept b o (away b o q).1 (old b o q)
  | cons y r =>
    have pos : 0 < its.toArray.size := by rw [hn, e]; exact Nat.succ_pos _
    refine wpAny_bind (wpAny_tryCatch (W.item 0 _ _ _ pos ⟨gI, gl⟩ fun v h' tk hv st' kept => ?_))
    have hS1 := kept _ _ (by simpa using nS) gS
    refine wpAny_bind (wpAny_pure ?_)
    refine wpAny_bind ?_
    refine wpAny_updateSeq hS1 rfl ?_
    rw [nm]
    refine wpAny_pure ⟨plainId_quiet F.plain_max_loop _, ?_⟩
    have ap : (s.heap.push { cls := .type "list_iterator", data := .fields #[.ref l, .int 0 0] }).objs.size ∉ [s.heap.objs.size, l] := by
      intro hm
      rcases List.mem_cons.mp hm with hm | hm
      · exact nS hm
      · have q := List.mem_singleton.mp hm
        rw [sz] at q
        rw [← q] at below
        exact absurd below (by simp [Nat.not_lt])
    refine maxD_turns (f := fun i => ns.getD i 0) W (fun i v h => hi i v (by simpa using h)) ap (its.toArray.size - 1) 0 0 _ v _ (by omega) (W.frame _ _ _ st' fun a ha o q => ?_) hv (Nat.le_refl _) (fun i hi => by rw [Nat.le_zero.mp hi]; exact Int.le_refl _) (Heap.get?_update_self _ hS1 rfl) fun b v' h2 tk2 lt hv' top kept' => ?_
    · exact (Heap.get?_update_other _ _ (fun z => ap (by rw [z]; exact ha))).trans q
    · obtain ⟨t, ev⟩ := hi b v' (by simpa using hv')
      subst ev
      refine h1 _ t h2 tk2 ?_ (fun x hx => ?_) fun a o q => kept' a o (away a o q).1 (away a o q).2 ((Heap.get?_update_other _ _ (Ne.symm (away a o q).2)).trans (kept a o (away a o q).1 (old a o q)))
      · have lb : b < ns.length := by rw [← hn]; exact lt
        show ns.getD b 0 ∈ ns
        rw [List.getD_eq_getElem?_getD, List.getElem?_eq_getElem lb]
        exact List.getElem_mem lb
      · obtain ⟨i, hi', rfl⟩ := List.mem_iff_getElem.mp hx
        have := top i (by rw [hn]; exact hi')
        rw [List.getD_eq_getElem?_getD, List.getElem?_eq_getElem hi'] at this
        exact this
/-- max(xs, default=z) of a list of ints -/
def rMaxDf (K : PySem.W.Frag) : List V → List V → Hp → VK → Prop := fun vs zs H Q => ∃ (a : Addr) (ns : List Int) (z : Int), vs = [.ref a] ∧ zs = [.int z] ∧ SqL K H a (ns.map V.int) ∧ (ns = [] → Q (.int z) H) ∧ ∀ m, m ∈ ns → (∀ y, y ∈ ns → y ≤ m) → Q (.int m) H
theorem cr_maxDf {X : Cx} (hc : X.calm = true) : CallRK X (.builtin "max") [Str.ofString "default"] (rMaxDf X.K) := by
  intro pins s σ H vs zs us ws Q I r rz h
  obtain ⟨a, ns, z, rfl, rfl, hs, q0, q1⟩ := h
  obtain ⟨its, rv, hl, _⟩ := I.list hs
  obtain rfl := Vals.ref1 r
  obtain ⟨w1, rfl, e1⟩ := vals1 rz
  have len : its.length = ns.length := by rw [← rv.length, List.length_map]
  refine call_maxD (ns := ns) (I.ok.hd hc) hl.isList (fun i v hv => ?_) len (fun e h' tk hk => ⟨.int z, H, I.kept hk, e1, q0 e⟩) fun m t h' tk hm top hk => ⟨.int m, H, I.kept hk, ⟨t, rfl⟩, q1 m hm top⟩
  have lt : i < ns.length := by rw [← len]; exact (List.getElem?_eq_some_iff.mp hv).1
  obtain ⟨u, hu, ru⟩ := rv.get (i := i) (x := V.int ns[i]) (by rw [List.getElem?_map, List.getElem?_eq_getElem lt]; rfl)
  rw [hv] at hu
  cases hu
  obtain ⟨t, rfl⟩ := ru
  exact ⟨t, by rw [List.getD_eq_getElem?_getD, List.getElem?_eq_getElem lt]; rfl⟩
/-! ### zip(tuple, list) -/
def Itzm (K : PySem.W.Frag) (a b : Addr) : It :=
  ⟨fun i H => ∃ (xs ys : List V) (x y : V), SqT K H a xs ∧ SqL K H b ys ∧ xs[i]? = some x ∧ ys[i]? = some y,
    fun i H v H' => ∃ T x y, v = .ref T ∧ H T = none ∧ H' = upd H T (.tup [x, y]) ∧ (∀ xs, SqT K H a xs → xs[i]? = some x) ∧ ∀ ys, SqL K H b ys → ys[i]? = some y,
    fun i H => ∃ xs ys : List V, SqT K H a xs ∧ SqL K H b ys ∧ i ≤ xs.length ∧ i ≤ ys.length ∧ (i = xs.length ∨ i = ys.length)⟩
theorem turn_zipM {P : Program} {w : World} {K : PySem.W.Frag} {elts : List Expr} {kk : Nat} {tpos : Pos} {a b z TI TO i1 i2 : Addr} (D : ZipSep2 z TI TO i1 i2 [i1, a] [i2, b]) :
    Turn P w K (.Tuple elts kk tpos) (Itzm K a b) [z, TI, TO, i1, i2] z (fun i h => IsZip h z TI TO .none ∧ IsTupOf2 h TI (.ref i1) (.ref i2) ∧ (∃ x y, IsTupOf2 h TO x y) ∧ h.IsTupleIter i1 a i ∧ h.IsListIter i2 b i) where
  mem := by simp
  obj := fun i h st c hc => by
    obtain ⟨hz, hTI, ⟨x, y, hTO⟩, ⟨o1, e1, _, d1⟩, ⟨o2, e2, _, d2⟩⟩ := st
    have which : c = z ∨ c = TI ∨ c = TO ∨ c = i1 ∨ c = i2 := by simpa using hc
    rcases which with rfl | rfl | rfl | rfl | rfl
    · exact ⟨_, hz, fun v q => nomatch q⟩
    · exact ⟨_, hTI, fun v q => nomatch q⟩
    · exact ⟨_, hTO, fun v q => nomatch q⟩
    · exact ⟨o1, e1, fun v q => by rw [d1] at q; cases q⟩
    · exact ⟨o2, e2, fun v q => by rw [d2] at q; cases q⟩
  keep := fun i h h' ⟨hz, hTI, ⟨x, y, hTO⟩, h1, h2⟩ k =>
    ⟨k z (by simp) _ hz, k TI (by simp) _ hTI, ⟨x, y, k TO (by simp) _ hTO⟩, h1.at fun o q => k i1 (by simp) o q, h2.at fun o q => k i2 (by simp) o q⟩
  item := by
    intro X hP hw hK hc i pins s σ H E I hf st hg
    subst hP hw hK
    obtain ⟨hz, hTI, ⟨x0, y0, hTO⟩, h1, h2⟩ := st
    obtain ⟨xs, ys, x, y, hqx, hqy, hx, hy⟩ := hg
    obtain ⟨its, rv, p, _⟩ := I.tuple hqx
    obtain ⟨its2, rv2, p2, _⟩ := I.list hqy
    obtain ⟨u, hu, ru⟩ := rv.get hx
    obtain ⟨u2, hu2, ru2⟩ := rv2.get hy
    have l1 : i < its.toArray.size := by have := (List.getElem?_eq_some_iff.mp hu).1; simpa using this
    have l2 : i < its2.toArray.size := by have := (List.getElem?_eq_some_iff.mp hu2).1; simpa using this
    have hzl : z < s.heap.objs.size := Heap.lt_size hz
    have ht : s.heap.IsTuple a its.toArray := p
    have a1 : a ≠ i1 := by
      intro e; subst e
      obtain ⟨o, ho, c1, _⟩ := ht
      obtain ⟨o', ho', c2, _⟩ := h1
      rw [ho] at ho'; cases ho'
      rw [c1] at c2; exact absurd c2 (by simp)
    have b2 : b ≠ i2 := by
      intro e; subst e
      obtain ⟨o, ho, c1, _⟩ := p2.isList
      obtain ⟨o', ho', c2, _⟩ := h2
      rw [ho] at ho'; cases ho'
      rw [c1] at c2; exact absurd c2 (by simp)
    refine wpAny_pyNext_zipD2_item D (Draws.tuple (A := X.A.in1) (by exact I.ok.hd hc) i1 a a1 its.toArray) (Draws.list (A := X.A.in1) (by exact I.ok.hd hc) i2 b b2 its2.toArray) hz hTI hTO ⟨h1, ht⟩ ⟨h2, p2.isList⟩ l1 l2 fun y1 y2 h' tk e1 e2 z' TO' st1 st2 hT hsz hk => ?_
    have eq1 : y1 = u := by have q : its[i]? = some y1 := by simpa using e1
                            rw [hu] at q; exact (Option.some.inj q).symm
    have eq2 : y2 = u2 := by have q : its2[i]? = some y2 := by simpa using e2
                             rw [hu2] at q; exact (Option.some.inj q).symm
    subst eq1 eq2
    have n1 : i1 ≠ z := fun q => D.zf1 (by rw [← q]; exact D.mem1)
    have n2 : i2 ≠ z := fun q => D.zf2 (by rw [← q]; exact D.mem2)
    refine ⟨_, rfl, wpAny_letOwnedTupleGo_zip (s := { s with heap := h', toks := tk }) z' fun h'' z'' sb => ?_⟩
    have hT2 : h''.get? s.heap.objs.size = some { cls := .type "tuple", data := .seq #[y1, y2] } := (sb.2 _ (Nat.ne_of_gt hzl)).trans hT
    have new : ObjOk X.prog X.w (upd H s.heap.objs.size (.tup [x, y])) h'' s.heap.objs.size (.tup [x, y]) :=
      ⟨by show 2 ≤ sizeLine; decide, [y1, y2], .cons ru (.cons ru2 .nil), ⟨_, hT2, rfl, _, rfl⟩⟩
    have I1 : Inv X pins σ (upd H s.heap.objs.size (.tup [x, y])) { s with heap := h'', toks := tk } :=
      I.turnedNew (ch := [z, TI, TO, i1, i2]) (fun c o hb q => (sb.2 c (fun q' => hb (by simp [q']))).trans (hk c o (fun q' => hb (by simp [q'])) (fun q' => hb (by simp [q'])) (fun q' => hb (by simp [q'])) (fun q' => hb (by simp [q'])) q)) hf (Nat.le_refl _) new
    refine ⟨.ref s.heap.objs.size, _, I1, rfl, ⟨_, x, y, rfl, I.hok.fresh (Nat.le_refl _), rfl, fun l hl => by rw [I.tuple_inj hl hqx]; exact hx, fun l hl => by rw [I.list_inj hl hqy]; exact hy⟩, ⟨z'', ?_, ⟨y1, y2, ?_⟩, ?_, ?_⟩, fun c hcm => ?_⟩
    · exact (sb.2 _ D.TIz).trans (hk _ _ D.TIz D.TITO D.TIi1 D.TIi2 hTI)
    · exact (sb.2 _ D.TOz).trans TO'
    · exact st1.1.at fun o q => (sb.2 _ n1).trans q
    · exact st2.1.at fun o q => (sb.2 _ n2).trans q
    · have hlt : c < s.heap.objs.size := by
        have which : c = z ∨ c = TI ∨ c = TO ∨ c = i1 ∨ c = i2 := by simpa using hcm
        rcases which with rfl | rfl | rfl | rfl | rfl
        · exact hzl
        · exact Heap.lt_size hTI
        · exact Heap.lt_size hTO
        · obtain ⟨_, e1, _⟩ := h1; exact Heap.lt_size e1
        · obtain ⟨_, e2, _⟩ := h2; exact Heap.lt_size e2
      rw [upd_ne (Nat.ne_of_lt hlt)]
      exact (hf c hcm).1
  done := by
    intro X hP hw hK hc i pins s σ H E I hf st hg
    subst hP hw hK
    obtain ⟨hz, hTI, ⟨x0, y0, hTO⟩, h1, h2⟩ := st
    obtain ⟨xs, ys, hqx, hqy, le1, le2, hend⟩ := hg
    obtain ⟨its, rv, p, _⟩ := I.tuple hqx
    obtain ⟨its2, rv2, p2, _⟩ := I.list hqy
    have q1 := rv.length
    have q2 := rv2.length
    have ht : s.heap.IsTuple a its.toArray := p
    have a1 : a ≠ i1 := by
      intro e; subst e
      obtain ⟨o, ho, c1, _⟩ := ht
      obtain ⟨o', ho', c2, _⟩ := h1
      rw [ho] at ho'; cases ho'
      rw [c1] at c2; exact absurd c2 (by simp)
    have b2 : b ≠ i2 := by
      intro e; subst e
      obtain ⟨o, ho, c1, _⟩ := p2.isList
      obtain ⟨o', ho', c2, _⟩ := h2
      rw [ho] at ho'; cases ho'
      rw [c1] at c2; exact absurd c2 (by simp)
    refine wpAny_pyNext_zipD2_end D (Draws.tuple (A := X.A.in1) (by exact I.ok.hd hc) i1 a a1 its.toArray) (Draws.list (A := X.A.in1) (by exact I.ok.hd hc) i2 b b2 its2.toArray) hz hTI hTO ⟨h1, ht⟩ ⟨h2, p2.isList⟩ (by simp; omega) (by simp; omega) (by simp; omega) fun h' tk hk => ⟨rfl, I.turnedL (ch := [z, TI, TO, i1, i2]) (fun c o hb q =>
      hk c o (fun q' => hb (by simp [q'])) (fun q' => hb (by simp [q'])) (fun q' => hb (by simp [q'])) (fun q' => hb (by simp [q'])) q) hf⟩
  self := fun A i s Q E st h => wpAny_pyIter_zip st.1 h
def iZipM (K : PySem.W.Frag) (ta : TA) : TI := fun σ H R => ta σ H fun vs H1 => ∃ a b xs ys, vs = [.ref a, .ref b] ∧ SqT K H1 a xs ∧ SqL K H1 b ys ∧ R (Itzm K a b) H1
theorem pi_zipM {X : Cx} {e e2 : Expr} {ta : TA} {p pos tpos : Pos} {elts : List Expr} {kk : Nat} (hg : Gl X "zip") (hm : X.mg "zip" = none) (ha : PA X [e, e2] ta)
    (hs : starEach [e, e2] X.env = (false, eval e X.env) :: starEach [e2] X.env := by rfl) (hpl : (backTo pos (starEach [e2] X.env)).any (·.1) = false := by rfl) :
    PI X (.Tuple elts kk tpos) (.Call (.Name "zip" p) [e, e2] [] pos) (iZipM X.K ta) := by
  refine ⟨fun pins s σ H R I h => ?_⟩
  refine Call_ (ld_blt I hg hm PyProof.Rows.boot_zip (PyProof.Rows.callWith_type1 (thn (ha.run pos pins s σ H _ I h) fun us s1 ⟨vs, H1, I1, r1, q1⟩ => ?_) hs hpl))
  obtain ⟨a, b, xs, ys, ex, hqx, hqy, q⟩ := q1
  subst ex
  cases r1 with
  | cons r rr =>
    cases rr with
    | cons r' rr =>
      cases rr
      cases r
      cases r'
      obtain ⟨its, rv, p1, _⟩ := I1.tuple hqx
      obtain ⟨its2, rv2, p2, _⟩ := I1.list hqy
      have ht : s1.heap.IsTuple a its.toArray := p1
      have la : a < s1.heap.objs.size := by obtain ⟨_, z, _⟩ := id ht; exact Heap.lt_size z
      have lb : b < s1.heap.objs.size := p2.lt
      refine zip_begins2 (begins_tuple a its.toArray) (begins_list b its2.toArray) ht p2.isList fun h' hz hTI hTO g1 g2 hsz hk => wpAny_pyIter_zip hz ?_
      have I2 : Inv X pins σ H1 { s1 with heap := h' } := I1.kept (t' := s1.toks) hk
      refine ⟨s1.heap.objs.size + 4, [s1.heap.objs.size + 4, s1.heap.objs.size + 2, s1.heap.objs.size + 3, s1.heap.objs.size, s1.heap.objs.size + 1], _, _, H1, rfl, I2,
        turn_zipM (zip_sep2 (N := s1.heap.objs.size) (fp1 := [a]) (fp2 := [b]) (fun c hc => by rw [List.mem_singleton.mp hc]; exact la) (fun c hc => by rw [List.mem_singleton.mp hc]; exact lb)), ⟨hz, hTI, ⟨_, _, hTO⟩, ⟨_, g1, rfl, rfl⟩, ⟨_, g2, rfl, rfl⟩⟩, fun c hcm => ?_, q⟩
      have which : c = s1.heap.objs.size + 4 ∨ c = s1.heap.objs.size + 2 ∨ c = s1.heap.objs.size + 3 ∨ c = s1.heap.objs.size ∨ c = s1.heap.objs.size + 1 := by simpa using hcm
      have hle : s1.heap.objs.size ≤ c := by
        rcases which with z | z | z | z | z <;> (rw [z]; first | exact Nat.le_add_right _ _ | exact Nat.le_refl _)
      exact I1.fpOk hle (I1.hok.fresh hle)
theorem walk_zipM {K : PySem.W.Frag} {a b : Addr} {xs ys : List V} (hl : xs.length = ys.length) : Walk (Itzm K a b) xs.length (fun H => SqT K H a xs ∧ SqL K H b ys) (YPair (fun i => xs[i]?) (fun i => ys[i]?)) := by
  refine ⟨fun i _ hi q => ?_, fun _ q => ⟨xs, ys, q.1, q.2, Nat.le_refl _, by omega, .inl rfl⟩, fun i H v H' _ q y => ?_⟩
  · have h2 : i < ys.length := by omega
    exact ⟨xs, ys, xs[i], ys[i], q.1, q.2, by simp [hi], by simp [h2]⟩
  · obtain ⟨T, x, z, h1, h2, h3, h4, h5⟩ := y
    exact ⟨T, x, z, h1, h2, h3, h4 xs q.1, h5 ys q.2⟩
/-! ### rows, pieces, cells -/
inductive Cell where
  | old (k : Int) | new (b : Int)
  deriving DecidableEq
inductive Row where
  | copy (b n : Int) | run (b n : Int) | bring (bs : List Int)
  deriving DecidableEq
def Cell.tup : Cell → List V
  | .old k => [.str "old", .int k]
  | .new b => [.str "new", .int b]
def Row.tup : Row → List V
  | .copy b n => [.str "copy", .int b, .int n]
  | .run b n => [.str "run", .int b, .int n]
  | .bring bs => [.str "bring", .byt (byteArr bs)]
def Row.len : Row → Int
  | .copy _ n => n
  | .run _ n => n
  | .bring bs => bs.length
def Row.ok (c : Int) : Row → Prop
  | .copy b n => 0 ≤ b ∧ 1 ≤ n ∧ b + n ≤ c
  | .run b n => 0 ≤ b ∧ b < 256 ∧ 1 ≤ n
  | .bring bs => 1 ≤ (bs.length : Int) ∧ B8 bs
def total : List Row → Int
  | [] => 0
  | r :: l => r.len + total l
theorem total_app : ∀ (a b : List Row), total (a ++ b) = total a + total b
  | [], b => by show total b = 0 + total b; omega
  | r :: a, b => by
    have := total_app a b
    show r.len + total (a ++ b) = r.len + total a + total b
    omega
theorem Row.len_pos {c : Int} : ∀ {r : Row}, r.ok c → 1 ≤ r.len
  | .copy _ _, h => h.2.1
  | .run _ _, h => h.2.2
  | .bring _, h => h.1
theorem total_nn {c : Int} : ∀ {l : List Row}, (∀ r ∈ l, r.ok c) → 0 ≤ total l
  | [], _ => by show (0 : Int) ≤ 0; decide
  | r :: l, h => by
    have a := Row.len_pos (h r List.mem_cons_self)
    have b := total_nn (l := l) fun x hx => h x (List.mem_cons_of_mem _ hx)
    show 0 ≤ r.len + total l
    omega
theorem len_le_total {c : Int} : ∀ {l : List Row}, (∀ r ∈ l, r.ok c) → (l.length : Int) ≤ total l
  | [], _ => by show (0 : Int) ≤ 0; decide
  | r :: l, h => by
    have a := Row.len_pos (h r List.mem_cons_self)
    have b := len_le_total (l := l) fun x hx => h x (List.mem_cons_of_mem _ hx)
    show ((l.length + 1 : Nat) : Int) ≤ r.len + total l
    omega
def CellV (H : Hp) (v : V) (c : Cell) : Prop := ∃ p, v = .ref p ∧ H p = some (.tup c.tup)
def PieceV (H : Hp) (v : V) (r : Row) : Prop := ∃ p, v = .ref p ∧ H p = some (.tup r.tup)
def RowV (H : Hp) (v : V) : Row → Prop
  | .bring bs => ∃ p q, v = .ref p ∧ H p = some (.tup [.str "bring", .ref q]) ∧ H q = some (.lst (bs.map V.int))
  | r => ∃ p, v = .ref p ∧ H p = some (.tup r.tup)
/-- the tuples stay -/
def Tups (H H' : Hp) : Prop := ∀ p xs, H p = some (.tup xs) → H' p = some (.tup xs)
theorem Same.tups {H H' : Hp} (s : Same H H') : Tups H H' := fun p xs h => s p _ h
theorem But.tups {K : PySem.W.Frag} {a : Addr} {ns : List Int} {d : Addr} {H H' : Hp} (b : But d H H') (D : Dice K a ns H d) : Tups H H' := fun p xs h => tup_but D b h
theorem Tups.lst {H : Hp} {p : Addr} {xs : List V} {o : HO} (h : H p = some (.lst xs)) : Tups H (upd H p o) := fun q ys e => by rw [upd_ne (ne_of e h tup_lst)]; exact e
theorem Tups.trans {H H1 H2 : Hp} (a : Tups H H1) (b : Tups H1 H2) : Tups H H2 := fun p xs h => b p xs (a p xs h)
theorem CellV.tups {H H' : Hp} {v : V} {c : Cell} (t : Tups H H') (h : CellV H v c) : CellV H' v c := let ⟨p, e, x⟩ := h; ⟨p, e, t _ _ x⟩
theorem PieceV.tups {H H' : Hp} {v : V} {c : Row} (t : Tups H H') (h : PieceV H v c) : PieceV H' v c := let ⟨p, e, x⟩ := h; ⟨p, e, t _ _ x⟩
theorem RowV.keep {H H' : Hp} {v : V} : ∀ {r : Row}, Tups H H' → (∀ q ns, H q = some (.lst (List.map V.int ns)) → H' q = some (.lst (List.map V.int ns))) → RowV H v r → RowV H' v r
  | .copy _ _, t, _, ⟨p, e, x⟩ => ⟨p, e, t _ _ x⟩
  | .run _ _, t, _, ⟨p, e, x⟩ => ⟨p, e, t _ _ x⟩
  | .bring _, t, l, ⟨p, q, e, x, y⟩ => ⟨p, q, e, t _ _ x, l _ _ y⟩
theorem RowV.same {H H' : Hp} {v : V} {r : Row} (s : Same H H') (h : RowV H v r) : RowV H' v r := h.keep (Same.tups s) (fun q ns e => s _ _ e)
theorem RowV.but {K : PySem.W.Frag} {a : Addr} {ns : List Int} {H H' : Hp} {d : Addr} {v : V} {r : Row} (D : Dice K a ns H d) (b : But d H H') (h : RowV H v r) : RowV H' v r := h.keep (But.tups b D) (fun q ns e => ints_but D b e)
theorem RowV.isRef {H : Hp} {v : V} : ∀ {r : Row}, RowV H v r → ∃ p, v = .ref p
  | .copy _ _, ⟨p, e, _⟩ => ⟨p, e⟩
  | .run _ _, ⟨p, e, _⟩ => ⟨p, e⟩
  | .bring _, ⟨p, _, e, _⟩ => ⟨p, e⟩
theorem pairedMem {α β : Type} {F G : α → β → Prop} : ∀ {l : List α} {m : List β}, Paired F l m → (∀ a ∈ l, ∀ b ∈ m, F a b → G a b) → Paired G l m
  | _, _, .nil, _ => .nil
  | _, _, .cons r t, f => .cons (f _ List.mem_cons_self _ List.mem_cons_self r) (pairedMem t fun a ha b hb => f a (List.mem_cons_of_mem _ ha) b (List.mem_cons_of_mem _ hb))
theorem pairedMap {α β : Type} {F G : α → β → Prop} {l : List α} {m : List β} (h : Paired F l m) (f : ∀ a b, F a b → G a b) : Paired G l m := pairedMem h fun a _ b _ => f a b
theorem pairedApp {α β : Type} {F : α → β → Prop} : ∀ {l l' : List α} {m m' : List β}, Paired F l m → Paired F l' m' → Paired F (l ++ l') (m ++ m')
  | _, _, _, _, .nil, s => s
  | _, _, _, _, .cons r t, s => .cons r (pairedApp t s)
theorem pairedAt {α β : Type} {F : α → β → Prop} : ∀ {l : List α} {m : List β} {i : Nat} {x : α}, Paired F l m → l[i]? = some x → ∃ y, m[i]? = some y ∧ F x y
  | _, _, _, _, .nil, e => by simp at e
  | _, _, 0, _, .cons r _, e => by simp at e; subst e; exact ⟨_, rfl, r⟩
  | _, _, i + 1, x, .cons _ t, e => by
    obtain ⟨y, h1, h2⟩ := pairedAt (i := i) (x := x) t (by simpa using e)
    exact ⟨y, by simpa using h1, h2⟩
theorem pairedAt' {α β : Type} {F : α → β → Prop} : ∀ {l : List α} {m : List β} {i : Nat} {y : β}, Paired F l m → m[i]? = some y → ∃ x, l[i]? = some x ∧ F x y
  | _, _, _, _, .nil, e => by simp at e
  | _, _, 0, _, .cons r _, e => by simp at e; subst e; exact ⟨_, rfl, r⟩
  | _, _, i + 1, y, .cons _ t, e => by
    obtain ⟨x, h1, h2⟩ := pairedAt' (i := i) (y := y) t (by simpa using e)
    exact ⟨x, by simpa using h1, h2⟩
/-- a list of rows at p -/
def RowsAt (H : Hp) (p : Addr) (rows : List Row) : Prop := ∃ vs, H p = some (.lst vs) ∧ Paired (RowV H) vs rows
def PatchAt (H : Hp) (v : V) (rows : List Row) : Prop := ∃ p vs, v = .ref p ∧ H p = some (.tup vs) ∧ Paired (PieceV H) vs rows
def CellsAt (H : Hp) (p : Addr) (cs : List Cell) : Prop := ∃ vs, H p = some (.lst vs) ∧ Paired (CellV H) vs cs
theorem RowsAt.same {H H' : Hp} {p : Addr} {rows : List Row} (s : Same H H') (h : RowsAt H p rows) : RowsAt H' p rows := let ⟨vs, e, r⟩ := h; ⟨vs, s _ _ e, pairedMap r fun _ _ x => x.same s⟩
theorem CellsAt.same {H H' : Hp} {p : Addr} {cs : List Cell} (s : Same H H') (h : CellsAt H p cs) : CellsAt H' p cs := let ⟨vs, e, r⟩ := h; ⟨vs, s _ _ e, pairedMap r fun _ _ x => x.tups (Same.tups s)⟩
theorem PatchAt.tups {H H' : Hp} {v : V} {rows : List Row} (s : Tups H H') (h : PatchAt H v rows) : PatchAt H' v rows := let ⟨p, vs, e, x, r⟩ := h; ⟨p, vs, e, s _ _ x, pairedMap r fun _ _ x => x.tups s⟩
theorem RowsAt.but {K : PySem.W.Frag} {a : Addr} {ns : List Int} {H H' : Hp} {d p : Addr} {rows : List Row} (D : Dice K a ns H d) (b : But d H H') (hn : p ≠ d) (h : RowsAt H p rows) : RowsAt H' p rows :=
  let ⟨vs, e, r⟩ := h; ⟨vs, b _ _ hn e, pairedMap r fun _ _ x => x.but D b⟩
/-- one row more at the end of the list -/
theorem rows_put {H : Hp} {p : Addr} {vs : List V} {rows : List Row} {v : V} {r : Row} (e : H p = some (.lst vs)) (h : Paired (RowV H) vs rows) (hv : RowV H v r) (hq : ∀ bs p' q, r = .bring bs → H p' = some (.tup [.str "bring", .ref q]) → v = .ref p' → q ≠ p) :
    RowsAt (upd H p (.lst (vs ++ [v]))) p (rows ++ [r]) := by
  refine ⟨_, upd_same, pairedApp (pairedMem h fun a ha b _ x => ?_) (.cons ?_ .nil)⟩
  · refine x.keep (Tups.lst e) fun q ns z => ?_
    rw [upd_ne]
    · exact z
    · rintro rfl
      rw [e] at z
      obtain ⟨u, rfl⟩ := x.isRef
      have z' : vs = ns.map V.int := by injection z with z; injection z
      rw [z'] at ha
      obtain ⟨_, _, z2⟩ := List.mem_map.mp ha
      cases z2
  · cases r with
    | copy b n => obtain ⟨u, e1, e2⟩ := hv; exact ⟨u, e1, Tups.lst e _ _ e2⟩
    | run b n => obtain ⟨u, e1, e2⟩ := hv; exact ⟨u, e1, Tups.lst e _ _ e2⟩
    | bring bs =>
      obtain ⟨u, q, e1, e2, e3⟩ := hv
      exact ⟨u, q, e1, Tups.lst e _ _ e2, by rw [upd_ne (hq bs u q rfl e2 e1)]; exact e3⟩
/-! ### _law_bytes, _law_rows, _law_handed, bytes_of, is_number, numbers_of -/
def spBytes (K : PySem.W.Frag) : Sp := fun vs H Q _ => ∃ (a : Addr) (ns : List Int) (d : Addr) (m : Int), vs = [.ref d, .int m] ∧ Dice K a ns H d ∧ 0 ≤ m ∧ m ≤ 1000 ∧
  ∀ H' p bs, But d H H' → Dice K a ns H' d → H p = none → H' p = some (.lst (List.map V.int bs)) → B8 bs → (bs.length : Int) ≤ m → Q (.ref p) H'
def spRows (K : PySem.W.Frag) : Sp := fun vs H Q _ => ∃ (a : Addr) (ns : List Int) (d : Addr) (c m : Int), vs = [.ref d, .int c, .int m] ∧ Dice K a ns H d ∧ 0 ≤ c ∧ c ≤ 1000 ∧ 0 ≤ m ∧ m ≤ 1000 ∧
  ∀ H' p rows, But d H H' → Dice K a ns H' d → H p = none → RowsAt H' p rows → (∀ r ∈ rows, r.ok c) → total rows ≤ m → Q (.ref p) H'
def spIsNum : Sp := fun vs H Q _ => ∃ z lo hi : Int, vs = [.int z, .int lo, .int hi] ∧ Q (.bl (decide (lo ≤ z) && decide (z ≤ hi))) H
def spBytesOf (K : PySem.W.Frag) : Sp := fun vs H Q _ => ∃ (p : Addr) (bs : List Int), vs = [.ref p] ∧ SqL K H p (bs.map V.int) ∧ B8 bs ∧ Q (.byt (byteArr bs)) H
def spNumsOf : Sp := fun vs H Q _ => ∃ bs : List Int, vs = [.byt (byteArr bs)] ∧ B8 bs ∧ bs.length ≤ 100000 ∧ ∀ p, H p = none → Q (.ref p) (upd H p (.lst (bs.map V.int)))
def spHanded : Sp := fun vs H Q _ => ∃ (p : Addr) (rows : List Row) (c : Int), vs = [.ref p] ∧ RowsAt H p rows ∧ (∀ r ∈ rows, r.ok c) ∧ rows.length ≤ 10000 ∧ ∀ H' v, Same H H' → PatchAt H' v rows → Q v H'
section
variable {P : Program} {w : World} {K : PySem.W.Frag} {mg : Str → Option Value} {base : Heap}
theorem ok_is_number (T : All K mg) : FnOk P w K mg base CX0 1 T.d_is_number.f T.d_is_number.fd ["what", "least", "most"] spIsNum := by
  refine T.d_is_number.F.ok sc_is_number (fun vs H Q E h => ?_) (fun cdv A outer s H vs Q E hr h => ?_)
  · obtain ⟨z, lo, hi, rfl, _⟩ := h
    rfl
  · obtain ⟨z, lo, hi, rfl, k⟩ := h
    refine ⟨_, (pss_one 
      (ps_ret (pe_and (pe_callB call_isi (by rfl) T.b_isinstance (by decide +kernel) (pa_cons (pv 0) (pa_cons (pe_bltn (v := .ty "int") (by rfl) T.b_int (by decide +kernel) rfl) pa_nil))) (pe_and (pe_not (pe_callB call_isi (by rfl) T.b_isinstance (by decide +kernel) (pa_cons (pv 0) (pa_cons (pe_bltn (v := .ty "bool") (by rfl) T.b_bool (by decide +kernel) rfl) pa_nil)))) (pe_one (pe_chain op_le op_le (pv 1) (pv 0) (pv 2))))))), ?_⟩
    refine ⟨_, rfl, _, _, _, _, true, rfl, .ty _, .base (.int z), kit_ty (by decide +kernel), true, rfl, iteT ?_⟩
    refine ⟨_, rfl, _, _, _, _, false, rfl, .ty _, .base (.int z), kit_ty (by decide +kernel), false, rfl, true, rfl, iteT ?_⟩
    refine ⟨_, rfl, _, rfl, _, _, rfl, rfl, decide (lo ≤ z), rfl, ?_⟩
    by_cases h1 : lo ≤ z
    · rw [decide_eq_true h1] at k ⊢
      refine iteT ⟨_, rfl, _, _, rfl, rfl, ?_⟩
      exact k
    · rw [decide_eq_false h1] at k ⊢
      exact iteF k
theorem ok_bytes_of (T : All K mg) : FnOk P w K mg base CX0 2 T.d_bytes_of.f T.d_bytes_of.fd ["numbers"] (spBytesOf K) := by
  have G_is_number : FnOk P w K mg base CX0 1 T.d_is_number.f T.d_is_number.fd ["what", "least", "most"] spIsNum := ok_is_number T
  refine T.d_bytes_of.F.ok sc_bytes_of (fun vs H Q E h => ?_) (fun cdv A outer s H vs Q E hr h => ?_)
  · obtain ⟨p, bs, rfl, _⟩ := h
    rfl
  · obtain ⟨p, bs, rfl, hS, hb, k⟩ := h
    refine ⟨_, (pss_cons 
      (ps_for PassesOwn.never rfl (pi_list (pv 0)) (pg_name (i := 1) sc_bytes_of.nd rfl (Or.inl rfl)) (pss_one 
      (ps_if (pt_not (pt_val (pe_call G_is_number (hr.mono (by decide)) rfl T.d_is_number.m T.d_is_number.F.kp T.d_is_number.b .nil pass0 (pa_cons (pv 1) (pa_cons pe_int (pa_cons (pe_glob (v := .int 255) rfl T.c_LAST_BYTE ⟨_, rfl⟩) pa_nil)))))) (pss_one ps_never) pss_nil))) (pss_one 
      (ps_ret (pe_bytesOf rfl (by rfl) T.b_bytes (pv 0))))), ?_⟩
    refine ⟨_, rfl, p, rfl, ⟨_, hS⟩, for_list (K := K) (a := p) (xs := bs.map V.int) (fun i σ H' => ∃ v : Option V, σ = [some (.ref p), v] ∧ H' = H)
      ⟨none, rfl, rfl⟩ (fun i σ H' _ ⟨_, _, e⟩ => by rw [e]; exact hS) ?_ ?_⟩
    · rintro i y σ H' hi ⟨v, rfl, rfl⟩
      obtain ⟨z, rfl, hz⟩ := at_map hi
      have hm := hb z (List.mem_of_getElem? hz)
      refine ⟨_, rfl, z, 0, 255, rfl, _, rfl, ?_⟩
      rw [decide_eq_true hm.1, decide_eq_true (show z ≤ 255 by omega)]
      refine iteF ?_
      exact ⟨_, rfl, rfl⟩
    · rintro σ H' ⟨v, rfl, rfl⟩
      refine ⟨_, rfl, .inr ⟨p, bs, rfl, hS, hb, k⟩⟩
theorem ok_numbers_of (T : All K mg) : FnOk P w K mg base CX0 1 T.d_numbers_of.f T.d_numbers_of.fd ["some"] spNumsOf := by
  refine T.d_numbers_of.F.ok sc_numbers_of (fun vs H Q E h => ?_) (fun cdv A outer s H vs Q E hr h => ?_)
  · obtain ⟨bs, rfl, _⟩ := h
    rfl
  · obtain ⟨bs, rfl, hb, hl, k⟩ := h
    refine ⟨_, (pss_one 
      (ps_ret (pe_listOfB rfl (by rfl) T.b_list (pv 0)))), ?_⟩
    refine ⟨_, rfl, _, rfl, by rw [byteArr_size]; exact sizeS hl, fun q hq => ?_⟩
    rw [bi_make hb]
    exact k q hq
end
section
variable {P : Program} {w : World} {K : PySem.W.Frag} {mg : Str → Option Value} {base : Heap}
theorem RowsAt.at {H : Hp} {p : Addr} {rows : List Row} (h : RowsAt H p rows) : ∃ vs, H p = some (.lst vs) ∧ vs.length = rows.length := by
  obtain ⟨vs, e, r⟩ := h
  exact ⟨vs, e, Paired.length r⟩
theorem ok_law_rows (T : All K mg) : FnOk P w K mg base CX0 2 T.d_law_rows.f T.d_law_rows.fd ["_law_d", "_law_count", "_law_most"] (spRows K) := by
  have G_law_next : FnOk P w K mg base CX0 1 T.d_law_next.f T.d_law_next.fd ["_law_dice_here", "_law_many"] (spNext K) := ok_law_next T
  refine T.d_law_rows.F.ok sc_law_rows (fun vs H Q E h => ?_) (fun cdv A outer s H vs Q E hr h => ?_)
  · obtain ⟨_, _, d, c, m, rfl, _⟩ := h
    rfl
  · obtain ⟨a, ns, d, c, m, rfl, D, c0, c1, m0, m1, k⟩ := h
    refine ⟨_, (pss_cons 
      (ps_par (i := 3) (j := 4) (by rfl) sc_law_rows.nd rfl rfl (by decide) rfl rfl (pa_cons (pe_lst pa_nil) (pa_cons (pe_call G_law_next (hr.mono (by decide)) rfl T.d_law_next.m T.d_law_next.F.kp T.d_law_next.b .nil pass0 (pa_cons (pv 0) (pa_cons (pe_op op_add (pv 2) pe_int) pa_nil))) pa_nil)) (by rfl)) (pss_cons 
      (ps_for PassesOwn.never rfl (pi_range1 (by rfl) T.b_range (pa_cons pe_int pa_nil)) (pg_name (i := 5) sc_law_rows.nd rfl (Or.inl rfl)) (pss_cons 
      (ps_set (i := 6) sc_law_rows.nd rfl (Or.inl rfl) (pe_callB (call_min2 rfl) (by rfl) T.b_min (by decide +kernel) (pa_cons (pv 4) (pa_cons (pe_op op_add pe_int (pe_call G_law_next (hr.mono (by decide)) rfl T.d_law_next.m T.d_law_next.F.kp T.d_law_next.b .nil pass0 (pa_cons (pv 0) (pa_cons (pe_ix ix_list (pe_lst (pa_cons pe_int (pa_cons pe_int (pa_cons pe_int pa_nil)))) (pe_call G_law_next (hr.mono (by decide)) rfl T.d_law_next.m T.d_law_next.F.kp T.d_law_next.b .nil pass0 (pa_cons (pv 0) (pa_cons pe_int pa_nil))) (fun _ _ => rfl)) pa_nil)))) pa_nil)))) (pss_one 
      (ps_if (pt_cmpR op_gt (pv 6) pe_int (nomark _)) (pss_cons 
      (ps_set (i := 7) sc_law_rows.nd rfl (Or.inl rfl) (pe_call G_law_next (hr.mono (by decide)) rfl T.d_law_next.m T.d_law_next.F.kp T.d_law_next.b .nil pass0 (pa_cons (pv 0) (pa_cons pe_int pa_nil)))) (pss_cons 
      (ps_if (PW.pt (pw_and (pt_cmpR op_lt (pv 7) pe_int (nomark _)) (pw_and1 (pt_cmpR op_gt (pv 1) pe_int (nomark _))))) (pss_cons 
      (ps_set (i := 6) sc_law_rows.nd rfl (Or.inl rfl) (pe_callB (call_min2 rfl) (by rfl) T.b_min (by decide +kernel) (pa_cons (pv 6) (pa_cons (pv 1) pa_nil)))) (pss_one 
      (ps_expr (pe_bm PySem.F.plainAttrs_list PySem.F.slot_list_append PySem.F.type_list_append mt_append (pv 3) (pa_cons (pe_tup (pa_cons pe_str (pa_cons (pe_call G_law_next (hr.mono (by decide)) rfl T.d_law_next.m T.d_law_next.F.kp T.d_law_next.b .nil pass0 (pa_cons (pv 0) (pa_cons (pe_op op_add (pe_op op_sub (pv 1) (pv 6)) pe_int) pa_nil))) (pa_cons (pv 6) pa_nil)))) pa_nil))))) (pss_one 
      (ps_if (pt_cmpR op_eq (pv 7) pe_int (nomark _)) (pss_one 
      (ps_expr (pe_bm PySem.F.plainAttrs_list PySem.F.slot_list_append PySem.F.type_list_append mt_append (pv 3) (pa_cons (pe_tup (pa_cons pe_str (pa_cons (pe_op op_mod (pe_callTy call_int1 (by rfl) T.b_int PyProof.Rows.boot_int (pa_cons (pe_op op_mul (pe_call G_law_next (hr.mono (by decide)) rfl T.d_law_next.m T.d_law_next.F.kp T.d_law_next.b .nil pass0 (pa_cons (pv 0) (pa_cons pe_int pa_nil))) pe_int) pa_nil)) pe_int) (pa_cons (pv 6) pa_nil)))) pa_nil)))) (pss_one 
      (ps_expr (pe_bm PySem.F.plainAttrs_list PySem.F.slot_list_append PySem.F.type_list_append mt_append (pv 3) (pa_cons (pe_tup (pa_cons pe_str (pa_cons (pe_lc (own := [("_law_k", 8)]) (g := gName 8) (tt := tYes) rfl sc_law_rows.nd (pi_range1 (by rfl) T.b_range (pa_cons (pv 6) pa_nil)) (blkOk_by (own := [("_law_k", 8)]) (N := ["_law_d", "_law_count", "_law_most", "_law_rows_here", "_law_left", "_law_turn", "_law_n", "_law_pick", "_law_k"]) (sc := defScope s_law_rows) (by decide +kernel)) (fun _ _ _ _ _ => (pg_name (i := 8) sc_law_rows.nd rfl (Or.inl rfl))) (fun _ _ _ _ _ => pts_nil) (fun _ _ _ _ _ => (pe_op op_mod (pe_callTy call_int1 (by rfl) T.b_int PyProof.Rows.boot_int (pa_cons (pe_op op_mul (pe_call G_law_next (hr.mono (by decide)) rfl T.d_law_next.m T.d_law_next.F.kp T.d_law_next.b .nil pass0 (pa_cons (pv 0) (pa_cons pe_int pa_nil))) pe_int) pa_nil)) pe_int))) pa_nil))) pa_nil))))))) (pss_one 
      (ps_set (i := 4) sc_law_rows.nd rfl (Or.inl rfl) (pe_op op_sub (pv 4) (pv 6)))))) pss_nil)))) (pss_one 
      (ps_ret (pv 3))))), ?_⟩
    refine ⟨sizeS (by show 0 ≤ 100000; decide), fun p hp => ⟨_, rfl, _, rfl, _, _, rfl, rfl, a, ns, d, m + 1, rfl, D.same (Same.new hp), by omega, by omega, fun H1 l b1 D1 l0 l1 => ⟨_, _, rfl, ?_⟩⟩⟩
    have npd : p ≠ d := D.ne hp
    have B1 : But d H H1 := (But.new hp).trans b1
    have hp1 : H1 p = some (.lst []) := b1 p _ npd upd_same
    refine ⟨40, rfl, by decide, by decide, for_range (lo := 0) (n := 40) (fun i σ H2 => ∃ (l : Int) (rows : List Row) (v5 v6 v7 v8 : Option V),
      σ = [some (.ref d), some (.int c), some (.int m), some (.ref p), some (.int l), v5, v6, v7, v8] ∧ But d H H2 ∧ Dice K a ns H2 d ∧ RowsAt H2 p rows ∧ (∀ r ∈ rows, r.ok c) ∧ 0 ≤ l ∧ total rows + l ≤ m ∧ rows.length ≤ i)
      ⟨l, [], none, none, none, none, rfl, B1, D1, ⟨[], hp1, .nil⟩, fun r hr => (List.not_mem_nil hr).elim, l0, by show 0 + l ≤ m; omega, Nat.le_refl _⟩ ?_ ?_⟩
    · rintro i σ H2 hi ⟨l, rows, v5, v6, v7, v8, rfl, b2, D2, R2, hok, hl0, htot, hlen⟩
      -- _law_n = min(..)
      refine ⟨_, rfl, _, rfl, sizeS (by show 3 ≤ 100000; decide), fun q hq => ⟨_, rfl, a, ns, d, 3, rfl, D2.same (Same.new hq), by decide, by decide, fun H3 r b3 D3 r0 r1 => ?_⟩⟩
      have hq3 : H3 q = some (.lst (List.map V.int [3, 12, 40])) := ints_but (D2.same (Same.new hq)) b3 (by exact upd_same)
      obtain ⟨kd, hk, k0, k1⟩ : ∃ kd : Int, atI (List.map V.int [3, 12, 40]) r = some (.int kd) ∧ 1 ≤ kd ∧ kd ≤ 40 := by
        have : r = 0 ∨ r = 1 ∨ r = 2 := by omega
        rcases this with rfl | rfl | rfl
        · exact ⟨3, rfl, by decide, by decide⟩
        · exact ⟨12, rfl, by decide, by decide⟩
        · exact ⟨40, rfl, by decide, by decide⟩
      refine ⟨q, _, _, _, rfl, rfl, SqL.of hq3, hk, a, ns, d, kd, rfl, D3, by omega, by omega, fun H4 t b4 D4 t0 t1 => ?_⟩
      have b24 : But d H2 H4 := (But.new hq).trans (b3.trans b4)
      have R4 : RowsAt H4 p rows := R2.but D2 b24 npd
      refine ⟨_, _, rfl, rfl, _, _, rfl, ?_⟩
      generalize hn : (if 1 + t < l then 1 + t else l) = n
      have hnl : n ≤ l := by rw [← hn]; split <;> omega
      have hn41 : n ≤ 40 := by rw [← hn]; split <;> omega
      refine ⟨_, rfl, _, _, rfl, rfl, _, rfl, ite2 (fun hpos => ?_) fun hneg => ?_⟩
      · have hpos : 0 < n := of_decide_eq_true hpos
        refine ⟨_, rfl, a, ns, d, 6, rfl, D4, by decide, by decide, fun H5 pk b5 D5 p0 p1 => ?_⟩
        have b05 : But d H H5 := b2.trans (b24.trans b5)
        have R5 : RowsAt H5 p rows := R4.but D4 b5 npd
        obtain ⟨vs, hv, hvl⟩ := R5.at
        -- what comes behind an append
        have fin : ∀ (r : Row) (H7 : Hp) (tv : V) (n' : Int), But d H5 H7 → Dice K a ns H7 d → r.ok c → r.len = n' → n' ≤ n → RowV H7 tv r → (∀ bs p' q, r = .bring bs → H7 p' = some (.tup [.str "bring", .ref q]) → tv = .ref p' → q ≠ p) → 
            H7 p = some (.lst vs) ∧ (∃ rows' : List Row, But d H (upd H7 p (.lst (vs ++ [tv]))) ∧ Dice K a ns (upd H7 p (.lst (vs ++ [tv]))) d ∧ RowsAt (upd H7 p (.lst (vs ++ [tv]))) p rows' ∧ (∀ r ∈ rows', r.ok c) ∧ 0 ≤ l - n' ∧ total rows' + (l - n') ≤ m ∧ rows'.length ≤ i + 1) := by
          intro r H7 tv n' b7 D7 hro hrl hnn hrv hbr
          have hv7 : H7 p = some (.lst vs) := b7 p _ npd hv
          obtain ⟨vs', hv', hp'⟩ := R5.but D5 b7 npd
          have ev : vs' = vs := by rw [hv7] at hv'; injection hv' with z; injection z with z; exact z.symm
          subst ev
          refine ⟨hv7, rows ++ [r], But.fresh (b05.trans b7) hp, Dice.fresh D (b05.trans b7) hp D7, rows_put hv7 hp' hrv hbr, fun x hx => ?_, by omega, ?_, ?_⟩
          · rcases List.mem_append.mp hx with hx | hx
            · exact hok x hx
            · rw [List.mem_singleton.mp hx]; exact hro
          · rw [total_app]
            have : total [r] = n' := by show r.len + 0 = n'; omega
            omega
          · rw [List.length_append]; show rows.length + 1 ≤ i + 1; omega
        refine ⟨_, rfl, _, _, rfl, rfl, _, rfl, ite2 (fun h1 => ⟨_, rfl, _, _, rfl, rfl, _, rfl, ite2 (fun h2 => ?copy) (fun h2 => ?e1)⟩) (fun h1 => iteF ?e2)⟩
        case copy =>
          have h2 : 0 < c := of_decide_eq_true h2
          refine ⟨_, rfl, _, rfl, _, _, rfl, ?_⟩
          generalize hm : (if c < n then c else n) = n'
          have hm1 : n' ≤ n := by rw [← hm]; split <;> omega
          have hm2 : n' ≤ c := by rw [← hm]; split <;> omega
          have hm3 : 1 ≤ n' := by rw [← hm]; split <;> omega
          refine ⟨_, rfl, .inl ⟨rfl, _, SqL.of hv⟩, _, rfl, _, rfl, _, rfl, _, _, rfl, rfl, _, _, rfl, rfl, a, ns, d, c - n' + 1, rfl, D5, by omega, by omega, fun H6 b b6 D6 z0 z1 => ⟨_, rfl, sizeS (by show 3 ≤ 100000; decide), fun tq htq => ?_⟩⟩
          obtain ⟨hv7, rows', q1, q2, q3, q4, q5, q6, q7⟩ := fin (.copy b n') (upd H6 tq (.tup [.str "copy", .int b, .int n'])) (.ref tq) n' (b6.trans (But.new htq)) (D6.same (Same.new htq)) ⟨z0, hm3, by omega⟩ rfl hm1 ⟨tq, rfl, upd_same⟩ (fun _ _ _ e => by cases e)
          refine ⟨p, vs, _, rfl, rfl, hv7, sizeL (by omega), _, rfl, _, rfl, _, _, rfl, rfl, ?_⟩
          exact ⟨_, rows', _, _, _, _, rfl, q1, q2, q3, q4, q5, q6, q7⟩
        all_goals
          refine ⟨_, rfl, rfl, _, rfl, ite2 (fun h3 => ?_) fun h3 => ?_⟩
          · refine ⟨_, rfl, .inl ⟨rfl, _, SqL.of hv⟩, _, rfl, a, ns, d, 3, rfl, D5, by decide, by decide, fun H6 u b6 D6 u0 u1 => ⟨_, _, rfl, rfl, .inl ⟨by omega, by omega⟩, .inl ⟨_, rfl, _, _, rfl, rfl, (by show (0 : Int) < 256; decide), _, rfl, sizeS (by show 3 ≤ 100000; decide), fun tq htq => ?_⟩⟩⟩
            obtain ⟨hv7, rows', q1, q2, q3, q4, q5, q6, q7⟩ := fin (.run (u * 97 % 256) n) (upd H6 tq (.tup [.str "run", .int (u * 97 % 256), .int n])) (.ref tq) n (b6.trans (But.new htq)) (D6.same (Same.new htq)) ⟨Int.emod_nonneg _ (by decide), Int.emod_lt_of_pos _ (by decide), by omega⟩ rfl (Int.le_refl _) ⟨tq, rfl, upd_same⟩ (fun _ _ _ e => by cases e)
            refine ⟨p, vs, _, rfl, rfl, hv7, sizeL (by omega), _, rfl, _, rfl, _, _, rfl, rfl, ?_⟩
            exact ⟨_, rows', _, _, _, _, rfl, q1, q2, q3, q4, q5, q6, q7⟩
          · refine ⟨_, rfl, .inl ⟨rfl, _, SqL.of hv⟩, _, rfl, n, rfl, by omega, by omega, fun e he => lc_range (lo := 0) (n := n.toNat) (fun j H6 => ∃ bs : List Int, But d H5 H6 ∧ Dice K a ns H6 d ∧ H6 e = some (.lst (bs.map V.int)) ∧ B8 bs ∧ bs.length = j)
              ⟨[], But.new he, D5.same (Same.new he), upd_same, fun n hn => (List.not_mem_nil hn).elim, rfl⟩ ?_ ?_⟩
            · rintro j H6 hj ⟨bs, b6, D6, he6, hb, hblen⟩
              refine ⟨rfl, ?_⟩
              refine ⟨_, rfl, a, ns, d, 3, rfl, D6, by decide, by decide, fun H7 u b7 D7 u0 u1 => ⟨_, _, rfl, rfl, .inl ⟨by omega, by omega⟩, .inl ⟨_, rfl, _, _, rfl, rfl, (by show (0 : Int) < 256; decide), ?_⟩⟩⟩
              have he7 : H7 e = some (.lst (bs.map V.int)) := b7 e _ (D5.ne he) he6
              refine ⟨_, he7, sizeL (by rw [List.length_map]; omega), bs ++ [u * 97 % 256], But.fresh (b6.trans b7) he, Dice.fresh D5 (b6.trans b7) he D7, ?_, ?_, ?_⟩
              · rw [upd_same, List.map_append]; rfl
              · exact hb.app (fun n hn => by
                  rw [List.mem_singleton.mp hn]
                  exact ⟨Int.emod_nonneg _ (by decide), Int.emod_lt_of_pos _ (by decide)⟩)
              · rw [List.length_append]; show bs.length + 1 = j + 1; omega
            · rintro H6 ⟨bs, b6, D6, he6, hb, hblen⟩
              refine ⟨sizeS (by show 2 ≤ 100000; decide), fun tq htq => ?_⟩
              have nep : e ≠ p := (ne_of_none hv he).symm
              obtain ⟨hv7, rows', q1, q2, q3, q4, q5, q6, q7⟩ := fin (.bring bs) (upd H6 tq (.tup [.str "bring", .ref e])) (.ref tq) n (b6.trans (But.new htq)) (D6.same (Same.new htq)) ⟨by omega, hb⟩ (by show (bs.length : Int) = n; omega) (Int.le_refl _)
                ⟨tq, e, rfl, upd_same, by rw [upd_ne (ne_of_none he6 htq)]; exact he6⟩ (fun bs' p' q' e1 e2 e3 => by
                  cases e3
                  rw [upd_same] at e2
                  injection e2 with e2
                  injection e2 with e2
                  injection e2 with _ e2
                  injection e2 with e2 _
                  injection e2 with e2
                  rw [← e2]; exact nep)
              refine ⟨p, vs, _, rfl, rfl, hv7, sizeL (by omega), _, rfl, _, rfl, _, _, rfl, rfl, ?_⟩
              exact ⟨_, rows', _, _, _, _, rfl, q1, q2, q3, q4, q5, q6, q7⟩
      · exact ⟨l, rows, _, _, _, _, rfl, b2.trans b24, D4, R4, hok, hl0, htot, by omega⟩
    · rintro σ H2 ⟨l, rows, v5, v6, v7, v8, rfl, b2, D2, R2, hok, hl0, htot, hlen⟩
      refine ⟨_, rfl, ?_⟩
      exact k H2 p rows b2 D2 hp R2 hok (by omega)
theorem ok_law_handed (T : All K mg) : FnOk P w K mg base CX0 3 T.d_law_handed.f T.d_law_handed.fd ["_law_rows_here"] spHanded := by
  have G_bytes_of : FnOk P w K mg base CX0 2 T.d_bytes_of.f T.d_bytes_of.fd ["numbers"] (spBytesOf K) := ok_bytes_of T
  refine T.d_law_handed.F.ok sc_law_handed (fun vs H Q E h => ?_) (fun cdv A outer s H vs Q E hr h => ?_)
  · obtain ⟨p, _, _, rfl, _⟩ := h
    rfl
  · obtain ⟨p, rows, c, rfl, ⟨vs, hv, hpr⟩, hok, hlen, k⟩ := h
    have hvl : vs.length = rows.length := Paired.length hpr
    refine ⟨_, (pss_cons 
      (ps_set (i := 1) sc_law_handed.nd rfl (Or.inl rfl) (pe_lst pa_nil)) (pss_cons 
      (ps_for PassesOwn.never rfl (pi_list (pv 0)) (pg_name (i := 2) sc_law_handed.nd rfl (Or.inl rfl)) (pss_one 
      (ps_expr (pe_bm PySem.F.plainAttrs_list PySem.F.slot_list_append PySem.F.type_list_append mt_append (pv 1) (pa_cons (pe_ifExp (pt_cmpR op_eq (pe_ix ix_tup (pv 2) pe_int (fun _ _ => rfl)) pe_str (nomark _)) (pe_tup (pa_cons pe_str (pa_cons (pe_call G_bytes_of (hr.mono (by decide)) rfl T.d_bytes_of.m T.d_bytes_of.F.kp T.d_bytes_of.b .nil pass0 (pa_cons (pe_ix ix_tup (pv 2) pe_int (fun _ _ => rfl)) pa_nil)) pa_nil))) (pe_callTy call_tuple_of (by rfl) T.b_tuple (by decide +kernel) (pa_cons (pv 2) pa_nil))) pa_nil))))) (pss_one 
      (ps_ret (pe_callTy call_tuple_of (by rfl) T.b_tuple (by decide +kernel) (pa_cons (pv 1) pa_nil)))))), ?_⟩
    refine ⟨sizeS (by show 0 ≤ 100000; decide), fun f hf => ?_⟩
    refine ⟨_, rfl, p, rfl, ⟨vs, SqL.of (Same.new hf _ _ hv)⟩, for_list (K := K) (a := p) (xs := vs) (fun i σ H2 => ∃ (ws : List V) (v : Option V), σ = [some (.ref p), some (.ref f), v] ∧ Same H H2 ∧ H2 f = some (.lst ws) ∧ Paired (PieceV H2) ws (rows.take i))
      ⟨[], none, rfl, Same.new hf, upd_same, .nil⟩ (fun i σ H2 _ ⟨_, _, _, s2, _⟩ => SqL.of (s2 _ _ hv)) ?_ ?_⟩
    · rintro i y σ H2 hi ⟨ws, v, rfl, s2, hf2, hw⟩
      obtain ⟨r, hr1, hr2⟩ := pairedAt hpr hi
      have hro := hok r (List.mem_of_getElem? hr1)
      have hwl : ws.length = (rows.take i).length := Paired.length hw
      have hil : i < rows.length := (List.getElem?_eq_some_iff.mp hr1).1
      have hwi : ws.length = i := by rw [hwl, List.length_take]; omega
      have htk : rows.take (i + 1) = rows.take i ++ [r] := by rw [List.take_add_one, hr1]; rfl
      -- what comes behind the append
      have fin : ∀ (H3 : Hp) (tv : V), Same H2 H3 → PieceV H3 tv r → H3 f = some (.lst ws) ∧ Same H (upd H3 f (.lst (ws ++ [tv]))) ∧ Paired (PieceV (upd H3 f (.lst (ws ++ [tv])))) (ws ++ [tv]) (rows.take (i + 1)) := by
        intro H3 tv s3 hpv
        have hf3 := s3 _ _ hf2
        refine ⟨hf3, fun b o e => ?_, ?_⟩
        · rw [upd_ne (ne_of_none e hf)]; exact s3 _ _ (s2 _ _ e)
        · rw [htk]
          exact pairedApp (pairedMap hw fun _ _ x => (x.tups (Same.tups s3)).tups (Tups.lst hf3)) (.cons (hpv.tups (Tups.lst hf3)) .nil)
      refine ⟨_, rfl, .inl ⟨rfl, _, SqL.of hf2⟩, ?_⟩
      cases r with
      | copy b n =>
        obtain ⟨t, rfl, ht⟩ := hr2.same s2
        refine ⟨_, rfl, t, _, _, _, rfl, rfl, SqT.of ht, rfl, rfl, _, rfl, ite2 (fun h => absurd h (by decide)) fun _ => ?_⟩
        refine ⟨_, rfl, t, _, rfl, .inr ⟨SqT.of ht, ?_⟩⟩
        obtain ⟨q1, q2, q3⟩ := fin H2 (.ref t) (Same.refl _) ⟨t, rfl, ht⟩
        exact ⟨f, ws, _, rfl, rfl, q1, sizeL (by omega), _, _, rfl, q2, upd_same, q3⟩
      | run b n =>
        obtain ⟨t, rfl, ht⟩ := hr2.same s2
        refine ⟨_, rfl, t, _, _, _, rfl, rfl, SqT.of ht, rfl, rfl, _, rfl, ite2 (fun h => absurd h (by decide)) fun _ => ?_⟩
        refine ⟨_, rfl, t, _, rfl, .inr ⟨SqT.of ht, ?_⟩⟩
        obtain ⟨q1, q2, q3⟩ := fin H2 (.ref t) (Same.refl _) ⟨t, rfl, ht⟩
        exact ⟨f, ws, _, rfl, rfl, q1, sizeL (by omega), _, _, rfl, q2, upd_same, q3⟩
      | bring bs =>
        obtain ⟨t, q, rfl, ht, hq⟩ := hr2.same s2
        refine ⟨_, rfl, t, _, _, _, rfl, rfl, SqT.of ht, rfl, rfl, _, rfl, ite2 (fun _ => ?_) fun h => absurd (by decide) h⟩
        refine ⟨_, rfl, t, _, _, _, rfl, rfl, SqT.of ht, rfl, q, bs, rfl, SqL.of hq, hro.2, sizeS (by show 2 ≤ 100000; decide), fun t2 ht2 => ?_⟩
        obtain ⟨q1, q2, q3⟩ := fin (upd H2 t2 (.tup [.str "bring", .byt (byteArr bs)])) (.ref t2) (Same.new ht2) ⟨t2, rfl, upd_same⟩
        exact ⟨f, ws, _, rfl, rfl, q1, sizeL (by omega), _, _, rfl, q2, upd_same, q3⟩
    · rintro σ H2 ⟨ws, v, rfl, s2, hf2, hw⟩
      rw [hvl, List.take_length] at hw
      refine ⟨_, rfl, f, ws, rfl, .inl ⟨SqL.of hf2, fun u hu => ?_⟩⟩
      exact k _ _ (s2.trans (Same.new hu)) ⟨u, ws, rfl, upd_same, pairedMap hw fun _ _ x => x.tups (Same.tups (Same.new hu))⟩
end
/-! ### what a patch tells -/
def cellsR : Row → List Cell
  | .copy b n => (List.range n.toNat).map fun i => Cell.old (b + (i : Nat))
  | .run b n => List.replicate n.toNat (Cell.new b)
  | .bring bs => bs.map Cell.new
def cellsOf (rows : List Row) : List Cell := rows.flatMap cellsR
def Good (rows : List Row) : Prop := (∀ r ∈ rows, r.ok 200) ∧ total rows ≤ 200
def endsOf : List Row → List Int
  | [] => []
  | .copy b n :: l => (b + n) :: endsOf l
  | _ :: l => endsOf l
def top0 : List Int → Int
  | [] => 0
  | x :: l => if top0 l < x then x else top0 l
def needsOf (rows : List Row) : Int := top0 (endsOf rows)
def valOf (es : List Int) : Cell → Int
  | .old k => es.getD k.toNat 0
  | .new b => b
def doneOf (rows : List Row) (es : List Int) : List Int := (cellsOf rows).map (valOf es)
theorem Row.ok_mono {c e : Int} (h : c ≤ e) : ∀ {r : Row}, r.ok c → r.ok e
  | .copy _ _, ⟨a, b, d⟩ => ⟨a, b, by omega⟩
  | .run _ _, x => x
  | .bring _, x => x
theorem top0_ge : ∀ {l : List Int} {y : Int}, y ∈ l → y ≤ top0 l
  | x :: l, y, h => by
    show y ≤ if top0 l < x then x else top0 l
    rcases List.mem_cons.mp h with rfl | h
    · split <;> omega
    · have := top0_ge h
      split <;> omega
theorem top0_is : ∀ (l : List Int), top0 l = 0 ∨ top0 l ∈ l
  | [] => .inl rfl
  | x :: l => by
    show (if top0 l < x then x else top0 l) = 0 ∨ (if top0 l < x then x else top0 l) ∈ x :: l
    split
    · exact .inr List.mem_cons_self
    · rcases top0_is l with h | h
      · exact .inl h
      · exact .inr (List.mem_cons_of_mem _ h)
theorem top0_nn : ∀ (l : List Int), 0 ≤ top0 l
  | [] => by show (0 : Int) ≤ 0; decide
  | x :: l => by
    have := top0_nn l
    show (0 : Int) ≤ if top0 l < x then x else top0 l
    split <;> omega
theorem ends_pos {c : Int} : ∀ {l : List Row}, (∀ r ∈ l, r.ok c) → ∀ y ∈ endsOf l, 0 < y
  | [], _, y, hy => (List.not_mem_nil hy).elim
  | .copy b n :: l, h, y, hy => by
    have h0 := h _ List.mem_cons_self
    rcases List.mem_cons.mp hy with rfl | hy
    · have := h0.1; have := h0.2.1; omega
    · exact ends_pos (fun r hr => h r (List.mem_cons_of_mem _ hr)) y hy
  | .run b n :: l, h, y, hy => ends_pos (fun r hr => h r (List.mem_cons_of_mem _ hr)) y hy
  | .bring bs :: l, h, y, hy => ends_pos (fun r hr => h r (List.mem_cons_of_mem _ hr)) y hy
theorem top0_eq {l : List Int} {m : Int} (hm : m ∈ l) (hp : 0 < m) (ht : ∀ y, y ∈ l → y ≤ m) : m = top0 l := by
  have h1 := top0_ge hm
  rcases top0_is l with h | h
  · omega
  · have := ht _ h; omega
theorem cellsR_len {c : Int} : ∀ {r : Row}, r.ok c → ((cellsR r).length : Int) = r.len
  | .copy b n, h => by
    have := h.2.1
    show ((((List.range n.toNat).map fun i => Cell.old (b + (i : Nat))).length : Nat) : Int) = n
    rw [List.length_map, List.length_range]; omega
  | .run b n, h => by
    have := h.2.2
    show (((List.replicate n.toNat (Cell.new b)).length : Nat) : Int) = n
    rw [List.length_replicate]; omega
  | .bring bs, h => by
    show (((bs.map Cell.new).length : Nat) : Int) = bs.length
    rw [List.length_map]
theorem cellsOf_len {c : Int} : ∀ {l : List Row}, (∀ r ∈ l, r.ok c) → ((cellsOf l).length : Int) = total l
  | [], _ => rfl
  | r :: l, h => by
    have a := cellsR_len (h r List.mem_cons_self)
    have b := cellsOf_len (l := l) fun x hx => h x (List.mem_cons_of_mem _ hx)
    show ((((cellsR r) ++ cellsOf l).length : Nat) : Int) = r.len + total l
    rw [List.length_append]; omega
theorem take_snoc {α : Type} {l : List α} {i : Nat} {x : α} (h : l[i]? = some x) : l.take (i + 1) = l.take i ++ [x] := by rw [List.take_add_one, h]; rfl
theorem total_take {l : List Row} {i : Nat} {r : Row} (h : l[i]? = some r) : total (l.take (i + 1)) = total (l.take i) + r.len := by
  rw [take_snoc h, total_app]
  show total (l.take i) + (r.len + 0) = _
  omega
theorem total_take_le {c : Int} {l : List Row} (h : ∀ r ∈ l, r.ok c) (i : Nat) : total (l.take i) ≤ total l := by
  have e := total_app (l.take i) (l.drop i)
  rw [List.take_append_drop] at e
  have := total_nn (l := l.drop i) fun r hr => h r (List.mem_of_mem_drop hr)
  omega
theorem len_le_of {c : Int} {l : List Row} (h : ∀ r ∈ l, r.ok c) {r : Row} (hr : r ∈ l) : r.len ≤ total l := by
  obtain ⟨i, hi, rfl⟩ := List.mem_iff_getElem.mp hr
  have a := total_take (List.getElem?_eq_getElem hi)
  have b := total_take_le h (i + 1)
  have d := total_nn (l := l.take i) fun r hr => h r (List.mem_of_mem_take hr)
  omega
theorem CellsAt.len {H : Hp} {p : Addr} {cs : List Cell} (h : CellsAt H p cs) : ∃ vs, H p = some (.lst vs) ∧ Paired (CellV H) vs cs ∧ vs.length = cs.length := let ⟨vs, e, r⟩ := h; ⟨vs, e, r, Paired.length r⟩
/-! ### the promises -/
def spCanBe : Sp := fun vs H Q _ => ∃ (p : Addr) (r : Row), vs = [.ref p] ∧ H p = some (.tup r.tup) ∧ r.ok 200 ∧ r.len ≤ 200 ∧ Q (.bl true) H
def spLengthOf : Sp := fun vs H Q _ => ∃ (p : Addr) (r : Row), vs = [.ref p] ∧ H p = some (.tup r.tup) ∧ r.ok 200 ∧ r.len ≤ 200 ∧ Q (.int r.len) H
def spCellsOf : Sp := fun vs H Q _ => ∃ (p : Addr) (r : Row), vs = [.ref p] ∧ H p = some (.tup r.tup) ∧ r.ok 200 ∧ r.len ≤ 200 ∧ ∀ H' q, Same H H' → H q = none → CellsAt H' q (cellsR r) → Q (.ref q) H'
def spCheckPatch : Sp := fun vs H Q _ => ∃ (v : V) (rows : List Row), vs = [v] ∧ PatchAt H v rows ∧ Good rows ∧ ∀ H', Same H H' → Q .non H'
def spCheckEdition : Sp := fun vs H Q _ => ∃ es : List Int, vs = [.byt (byteArr es)] ∧ es.length ≤ 200 ∧ Q .non H
def spCheckReach : Sp := fun vs H Q _ => ∃ (v : V) (rows : List Row) (es : List Int), vs = [v, .byt (byteArr es)] ∧ PatchAt H v rows ∧ (∀ r ∈ rows, r.ok es.length) ∧ es.length ≤ 200 ∧ ∀ H', Same H H' → Q .non H'
def spCells : Sp := fun vs H Q _ => ∃ (v : V) (rows : List Row), vs = [v] ∧ PatchAt H v rows ∧ Good rows ∧ ∀ H' p, Same H H' → H p = none → CellsAt H' p (cellsOf rows) → Q (.ref p) H'
def spMakes : Sp := fun vs H Q _ => ∃ (v : V) (rows : List Row), vs = [v] ∧ PatchAt H v rows ∧ Good rows ∧ ∀ H', Same H H' → Q (.int (total rows)) H'
def spNeeds : Sp := fun vs H Q _ => ∃ (v : V) (rows : List Row), vs = [v] ∧ PatchAt H v rows ∧ Good rows ∧ ∀ H', Same H H' → Q (.int (needsOf rows)) H'
def spDone : Sp := fun vs H Q _ => ∃ (v : V) (rows : List Row) (es : List Int), vs = [v, .byt (byteArr es)] ∧ PatchAt H v rows ∧ Good rows ∧ (∀ r ∈ rows, r.ok es.length) ∧ B8 es ∧ es.length ≤ 200 ∧ ∀ H', Same H H' → Q (.byt (byteArr (doneOf rows es))) H'
section
variable {P : Program} {w : World} {K : PySem.W.Frag} {mg : Str → Option Value} {base : Heap}
theorem ok_length_of (T : All K mg) : FnOk P w K mg base CX0 1 T.d_length_of.f T.d_length_of.fd ["piece"] spLengthOf := by
  refine T.d_length_of.F.ok sc_length_of (fun vs H Q E h => ?_) (fun cdv A outer s H vs Q E hr h => ?_)
  · obtain ⟨p, _, rfl, _⟩ := h
    rfl
  · obtain ⟨p, r, rfl, hp, hok, hl, k⟩ := h
    refine ⟨_, (pss_cons 
      (ps_if (pt_cmpR op_eq (pe_ix ix_tup (pv 0) pe_int (fun _ _ => rfl)) pe_str (nomark _)) (pss_one 
      (ps_ret (pe_callB call_len (by rfl) T.b_len PySem.boot_len (pa_cons (pe_ix ix_tup (pv 0) pe_int (fun _ _ => rfl)) pa_nil)))) pss_nil) (pss_one 
      (ps_ret (pe_ix ix_tup (pv 0) pe_int (fun _ _ => rfl))))), ?_⟩
    cases r with
    | copy b n =>
      refine ⟨_, rfl, p, _, _, _, rfl, rfl, SqT.of hp, rfl, rfl, _, rfl, ite2 (fun h => absurd h (by decide)) fun _ => ?_⟩
      exact ⟨_, rfl, p, _, _, _, rfl, rfl, SqT.of hp, rfl, k⟩
    | run b n =>
      refine ⟨_, rfl, p, _, _, _, rfl, rfl, SqT.of hp, rfl, rfl, _, rfl, ite2 (fun h => absurd h (by decide)) fun _ => ?_⟩
      exact ⟨_, rfl, p, _, _, _, rfl, rfl, SqT.of hp, rfl, k⟩
    | bring bs =>
      refine ⟨_, rfl, p, _, _, _, rfl, rfl, SqT.of hp, rfl, rfl, _, rfl, ite2 (fun _ => ?_) fun h => absurd (by decide) h⟩
      have hl : (bs.length : Int) ≤ 200 := hl
      refine ⟨_, rfl, p, _, _, _, rfl, rfl, SqT.of hp, rfl, _, bs.length, rfl, ⟨by rw [byteArr_size]; exact sizeS (by omega), (byteArr_size bs).symm⟩, k⟩
theorem ok_can_be (T : All K mg) : FnOk P w K mg base CX0 2 T.d_can_be.f T.d_can_be.fd ["piece"] spCanBe := by
  have G_is_number : FnOk P w K mg base CX0 1 T.d_is_number.f T.d_is_number.fd ["what", "least", "most"] spIsNum := ok_is_number T
  refine T.d_can_be.F.ok sc_can_be (fun vs H Q E h => ?_) (fun cdv A outer s H vs Q E hr h => ?_)
  · obtain ⟨p, _, rfl, _⟩ := h
    rfl
  · obtain ⟨p, r, rfl, hp, hok, hl, k⟩ := h
    refine ⟨_, (pss_cons 
      (ps_if (pt_not (pt_val (pe_callB call_isi (by rfl) T.b_isinstance (by decide +kernel) (pa_cons (pv 0) (pa_cons (pe_bltn (v := .ty "tuple") (by rfl) T.b_tuple (by decide +kernel) rfl) pa_nil))))) (pss_one 
      (ps_ret pe_bl)) pss_nil) (pss_cons 
      (ps_if (pt_cmpR op_eq (pe_callB call_len (by rfl) T.b_len PySem.boot_len (pa_cons (pv 0) pa_nil)) pe_int (nomark _)) (pss_cons 
      (ps_asg (pv 0) (pg_tup rfl (pgs_cons (pg_name (i := 1) sc_can_be.nd rfl (Or.inl rfl)) (pgs_cons (pg_name (i := 2) sc_can_be.nd rfl (Or.inl rfl)) pgs_nil)))) (pss_one 
      (ps_ret (pe_and (pe_cmpR op_eq (pv 1) pe_str (nomark _)) (pe_and (pe_callB call_isi (by rfl) T.b_isinstance (by decide +kernel) (pa_cons (pv 2) (pa_cons (pe_bltn (v := .ty "bytes") (by rfl) T.b_bytes (by decide +kernel) rfl) pa_nil))) (pe_one (pe_chain op_le op_le pe_int (pe_callB call_len (by rfl) T.b_len PySem.boot_len (pa_cons (pv 2) pa_nil)) (pe_glob (v := .int 200) rfl T.c_MOST ⟨_, rfl⟩)))))))) pss_nil) (pss_cons 
      (ps_if (pt_cmpR op_ne (pe_callB call_len (by rfl) T.b_len PySem.boot_len (pa_cons (pv 0) pa_nil)) pe_int (nomark _)) (pss_one 
      (ps_ret pe_bl)) pss_nil) (pss_cons 
      (ps_asg (pv 0) (pg_tup rfl (pgs_cons (pg_name (i := 1) sc_can_be.nd rfl (Or.inl rfl)) (pgs_cons (pg_name (i := 3) sc_can_be.nd rfl (Or.inl rfl)) (pgs_cons (pg_name (i := 4) sc_can_be.nd rfl (Or.inl rfl)) pgs_nil))))) (pss_cons 
      (ps_if (pt_not (pt_val (pe_call G_is_number (hr.mono (by decide)) rfl T.d_is_number.m T.d_is_number.F.kp T.d_is_number.b .nil pass0 (pa_cons (pv 4) (pa_cons pe_int (pa_cons (pe_glob (v := .int 200) rfl T.c_MOST ⟨_, rfl⟩) pa_nil)))))) (pss_one 
      (ps_ret pe_bl)) pss_nil) (pss_cons 
      (ps_if (pt_cmpR op_eq (pv 1) pe_str (nomark _)) (pss_one 
      (ps_ret (pe_call G_is_number (hr.mono (by decide)) rfl T.d_is_number.m T.d_is_number.F.kp T.d_is_number.b .nil pass0 (pa_cons (pv 3) (pa_cons pe_int (pa_cons (pe_op op_sub (pe_glob (v := .int 200) rfl T.c_MOST ⟨_, rfl⟩) (pv 4)) pa_nil)))))) pss_nil) (pss_one 
      (ps_ret (pe_and (pe_cmpR op_eq (pv 1) pe_str (nomark _)) (pe_one (pe_call G_is_number (hr.mono (by decide)) rfl T.d_is_number.m T.d_is_number.F.kp T.d_is_number.b .nil pass0 (pa_cons (pv 3) (pa_cons pe_int (pa_cons (pe_glob (v := .int 255) rfl T.c_LAST_BYTE ⟨_, rfl⟩) pa_nil)))))))))))))), ?_⟩
    refine ⟨_, rfl, _, _, _, _, true, rfl, .ty _, .base (.tup hp), kit_ty (by decide +kernel), true, rfl, iteF ?_⟩
    cases r with
    | copy b n =>
      have h1 := hok.1
      have h2 := hok.2.1
      have h3 := hok.2.2
      have h4 : n ≤ 200 := hl
      refine ⟨_, rfl, _, 3, rfl, .inr ⟨_, SqT.of hp, rfl⟩, rfl, _, rfl, ite2 (fun h => absurd h (by decide)) fun _ => ?_⟩
      refine ⟨_, rfl, _, 3, rfl, .inr ⟨_, SqT.of hp, rfl⟩, rfl, _, rfl, ite2 (fun h => absurd h (by decide)) fun _ => ?_⟩
      refine ⟨_, rfl, p, _, rfl, SqT.of hp, rfl, _, _, rfl, _, _, rfl, _, _, rfl, rfl, ?_⟩
      refine ⟨_, rfl, n, 1, 200, rfl, _, rfl, ?_⟩
      rw [decide_eq_true h2, decide_eq_true h4]
      refine iteF ?_
      refine ⟨_, rfl, rfl, _, rfl, ite2 (fun _ => ?_) fun h => absurd (by decide) h⟩
      refine ⟨_, rfl, _, rfl, _, _, rfl, rfl, b, 0, 200 - n, rfl, ?_⟩
      rw [decide_eq_true h1, decide_eq_true (show b ≤ 200 - n by omega)]
      exact k
    | run b n =>
      have h1 := hok.1
      have h2 := hok.2.1
      have h3 := hok.2.2
      have h4 : n ≤ 200 := hl
      refine ⟨_, rfl, _, 3, rfl, .inr ⟨_, SqT.of hp, rfl⟩, rfl, _, rfl, ite2 (fun h => absurd h (by decide)) fun _ => ?_⟩
      refine ⟨_, rfl, _, 3, rfl, .inr ⟨_, SqT.of hp, rfl⟩, rfl, _, rfl, ite2 (fun h => absurd h (by decide)) fun _ => ?_⟩
      refine ⟨_, rfl, p, _, rfl, SqT.of hp, rfl, _, _, rfl, _, _, rfl, _, _, rfl, rfl, ?_⟩
      refine ⟨_, rfl, n, 1, 200, rfl, _, rfl, ?_⟩
      rw [decide_eq_true h3, decide_eq_true h4]
      refine iteF ?_
      refine ⟨_, rfl, rfl, _, rfl, ite2 (fun h => absurd h (by decide)) fun _ => ?_⟩
      refine ⟨_, rfl, rfl, _, rfl, ite2 (fun _ => ?_) fun h => absurd (by decide) h⟩
      refine ⟨_, rfl, b, 0, 255, rfl, ?_⟩
      rw [decide_eq_true h1, decide_eq_true (show b ≤ 255 by omega)]
      exact k
    | bring bs =>
      have h1 : 1 ≤ (bs.length : Int) := hok.1
      have h4 : (bs.length : Int) ≤ 200 := hl
      refine ⟨_, rfl, _, 2, rfl, .inr ⟨_, SqT.of hp, rfl⟩, rfl, _, rfl, ite2 (fun _ => ?_) fun h => absurd (by decide) h⟩
      refine ⟨_, rfl, p, _, rfl, SqT.of hp, rfl, _, _, rfl, _, _, rfl, rfl, ?_⟩
      refine ⟨_, rfl, rfl, _, rfl, ite2 (fun _ => ?_) fun h => absurd (by decide) h⟩
      refine ⟨_, rfl, _, _, _, _, true, rfl, .ty _, .byt _, kit_ty (by decide +kernel), true, rfl, iteT ?_⟩
      refine ⟨_, rfl, _, bs.length, rfl, ⟨by rw [byteArr_size]; exact sizeS (by omega), (byteArr_size bs).symm⟩, _, _, rfl, rfl, _, rfl, ?_⟩
      rw [decide_eq_true h1]
      refine iteT ⟨_, _, rfl, rfl, ?_⟩
      show Q (.bl (decide ((bs.length : Int) ≤ 200))) H
      rw [decide_eq_true h4]
      exact k
theorem ok_cells_of (T : All K mg) : FnOk P w K mg base CX0 1 T.d_cells_of.f T.d_cells_of.fd ["piece"] spCellsOf := by
  refine T.d_cells_of.F.ok sc_cells_of (fun vs H Q E h => ?_) (fun cdv A outer s H vs Q E hr h => ?_)
  · obtain ⟨p, _, rfl, _⟩ := h
    rfl
  · obtain ⟨p, r, rfl, hp, hok, hl, k⟩ := h
    refine ⟨_, (pss_cons 
      (ps_if (pt_cmpR op_eq (pe_ix ix_tup (pv 0) pe_int (fun _ _ => rfl)) pe_str (nomark _)) (pss_one 
      (ps_ret (pe_lc (own := [("number", 1)]) (g := gName 1) (tt := tYes) rfl sc_cells_of.nd (pi_range2 (by rfl) T.b_range (pa_cons (pe_ix ix_tup (pv 0) pe_int (fun _ _ => rfl)) (pa_cons (pe_op op_add (pe_ix ix_tup (pv 0) pe_int (fun _ _ => rfl)) (pe_ix ix_tup (pv 0) pe_int (fun _ _ => rfl))) pa_nil))) (blkOk_by (own := [("number", 1)]) (N := ["piece", "number", "byte"]) (sc := defScope s_cells_of) (by decide +kernel)) (fun _ _ _ _ _ => (pg_name (i := 1) sc_cells_of.nd rfl (Or.inl rfl))) (fun _ _ _ _ _ => pts_nil) (fun _ _ _ _ _ => (pe_tup (pa_cons pe_str (pa_cons (pv 1) pa_nil))))))) pss_nil) (pss_cons 
      (ps_if (pt_cmpR op_eq (pe_ix ix_tup (pv 0) pe_int (fun _ _ => rfl)) pe_str (nomark _)) (pss_one 
      (ps_ret (pe_lc (own := [("byte", 2)]) (g := gName 2) (tt := tYes) rfl sc_cells_of.nd (pi_byt (pe_ix ix_tup (pv 0) pe_int (fun _ _ => rfl))) (blkOk_by (own := [("byte", 2)]) (N := ["piece", "number", "byte"]) (sc := defScope s_cells_of) (by decide +kernel)) (fun _ _ _ _ _ => (pg_name (i := 2) sc_cells_of.nd rfl (Or.inl rfl))) (fun _ _ _ _ _ => pts_nil) (fun _ _ _ _ _ => (pe_tup (pa_cons pe_str (pa_cons (pv 2) pa_nil))))))) pss_nil) (pss_one 
      (ps_ret (pe_op op_rep (pe_lst (pa_cons (pe_tup (pa_cons pe_str (pa_cons (pe_ix ix_tup (pv 0) pe_int (fun _ _ => rfl)) pa_nil))) pa_nil)) (pe_ix ix_tup (pv 0) pe_int (fun _ _ => rfl))))))), ?_⟩
    -- one cell more
    have more : ∀ {H2 : Hp} {D : Addr} {ws : List V} {cs : List Cell} {c : Cell} {t : Addr}, H D = none → Same H H2 → H2 D = some (.lst ws) → Paired (CellV H2) ws cs → H2 t = none →
        Same H (upd (upd H2 t (.tup c.tup)) D (.lst (ws ++ [.ref t]))) ∧ Paired (CellV (upd (upd H2 t (.tup c.tup)) D (.lst (ws ++ [.ref t])))) (ws ++ [.ref t]) (cs ++ [c]) := by
      intro H2 D ws cs c t hD s2 hw pw ht
      have hw' : (upd H2 t (.tup c.tup)) D = some (.lst ws) := Same.new ht _ _ hw
      refine ⟨fun b o e => ?_, pairedApp (pairedMap pw fun _ _ x => (x.tups (Same.tups (Same.new ht))).tups (Tups.lst hw')) (.cons ⟨t, rfl, Tups.lst hw' _ _ upd_same⟩ .nil)⟩
      rw [upd_ne (ne_of_none e hD)]
      exact Same.new ht _ _ (s2 _ _ e)
    cases r with
    | copy b n =>
      have h1 := hok.1
      have h2 := hok.2.1
      have h3 := hok.2.2
      have h4 : n ≤ 200 := hl
      refine ⟨_, rfl, p, _, _, _, rfl, rfl, SqT.of hp, rfl, rfl, _, rfl, ite2 (fun _ => ?_) fun h => absurd (by decide) h⟩
      refine ⟨_, rfl, p, _, _, _, rfl, rfl, SqT.of hp, rfl, _, rfl, p, _, _, _, rfl, rfl, SqT.of hp, rfl, _, rfl, p, _, _, _, rfl, rfl, SqT.of hp, rfl, _, _, rfl, rfl, _, _, rfl, ⟨by omega, by omega, by omega, by omega⟩, fun D hD => ?_⟩
      refine lc_range (lo := b) (n := (b + n - b).toNat) (fun i H2 => ∃ ws : List V, Same H H2 ∧ H2 D = some (.lst ws) ∧ Paired (CellV H2) ws ((List.range i).map fun i => Cell.old (b + (i : Nat))))
        ⟨[], Same.new hD, upd_same, .nil⟩ ?_ ?_
      · rintro i H2 hi ⟨ws, s2, hw, pw⟩
        have wl : ws.length = i := by rw [Paired.length pw, List.length_map, List.length_range]
        refine ⟨rfl, _, rfl, sizeS (by show 2 ≤ 100000; decide), fun t ht => ?_⟩
        obtain ⟨q1, q2⟩ := more (c := .old (b + (i : Nat))) hD s2 hw pw ht
        refine ⟨ws, Same.new ht _ _ hw, sizeL (by omega), _, q1, upd_same, ?_⟩
        rw [List.range_succ, List.map_append]
        exact q2
      · rintro H2 ⟨ws, s2, hw, pw⟩
        rw [show (b + n - b).toNat = n.toNat by omega] at pw
        exact k H2 D s2 hD ⟨ws, hw, pw⟩
    | run b n =>
      have h3 := hok.2.2
      have h4 : n ≤ 200 := hl
      refine ⟨_, rfl, p, _, _, _, rfl, rfl, SqT.of hp, rfl, rfl, _, rfl, ite2 (fun h => absurd h (by decide)) fun _ => ?_⟩
      refine ⟨_, rfl, p, _, _, _, rfl, rfl, SqT.of hp, rfl, rfl, _, rfl, ite2 (fun h => absurd h (by decide)) fun _ => ?_⟩
      refine ⟨_, rfl, p, _, _, _, rfl, rfl, SqT.of hp, rfl, sizeS (by show 2 ≤ 100000; decide), fun t ht => ⟨sizeS (by show 1 ≤ 100000; decide), fun l hl => ?_⟩⟩
      have hp2 : (upd (upd H t (.tup [.str "new", .int b])) l (.lst [.ref t])) p = some (.tup (Row.tup (.run b n))) := Same.new hl _ _ (Same.new ht _ _ hp)
      refine ⟨_, rfl, p, _, _, _, rfl, rfl, SqT.of hp2, rfl, l, _, _, rfl, rfl, upd_same, by omega, by omega, sizeS ?_, fun q hq => ?_⟩
      · show 1 * n.toNat ≤ 100000
        omega
      · have e : (List.replicate n.toNat [V.ref t]).flatten = List.replicate n.toNat (V.ref t) := by
          generalize n.toNat = m
          induction m with
          | zero => rfl
          | succ m ih => rw [List.replicate_succ, List.replicate_succ, List.flatten_cons, ih]; rfl
        have hqt : t ≠ q := ne_of_none (o := .tup [.str "new", .int b]) (Same.new hl _ _ upd_same) hq
        have ss : Same H (upd (upd (upd H t (.tup [.str "new", .int b])) l (.lst [.ref t])) q (.lst (List.replicate n.toNat [V.ref t]).flatten)) := (Same.new ht).trans ((Same.new hl).trans (Same.new hq))
        have ct : CellV (upd (upd (upd H t (.tup [.str "new", .int b])) l (.lst [.ref t])) q (.lst (List.replicate n.toNat [V.ref t]).flatten)) (.ref t) (.new b) := ⟨t, rfl, Same.new hq _ _ (Same.new hl _ _ upd_same)⟩
        refine k _ q ss ((Same.free ((Same.new ht).trans (Same.new hl)) hq)) ⟨_, upd_same, ?_⟩
        rw [e] at ct ⊢
        show Paired _ _ (List.replicate n.toNat (Cell.new b))
        generalize n.toNat = m at ct ⊢
        generalize upd (upd (upd H t (.tup [.str "new", .int b])) l (.lst [.ref t])) q (.lst (List.replicate m (V.ref t))) = HH at ct
        induction m with
        | zero => exact .nil
        | succ m ih => exact .cons ct ih
    | bring bs =>
      have h4 : (bs.length : Int) ≤ 200 := hl
      refine ⟨_, rfl, p, _, _, _, rfl, rfl, SqT.of hp, rfl, rfl, _, rfl, ite2 (fun h => absurd h (by decide)) fun _ => ?_⟩
      refine ⟨_, rfl, p, _, _, _, rfl, rfl, SqT.of hp, rfl, rfl, _, rfl, ite2 (fun _ => ?_) fun h => absurd (by decide) h⟩
      refine ⟨_, rfl, p, _, _, _, rfl, rfl, SqT.of hp, rfl, _, rfl, fun D hD => ?_⟩
      refine lc_it walk_byt (fun i H2 => ∃ ws : List V, Same H H2 ∧ H2 D = some (.lst ws) ∧ Paired (CellV H2) ws ((bs.take i).map Cell.new))
        ⟨[], Same.new hD, upd_same, .nil⟩ (fun _ _ _ _ => trivial) ?_ ?_
      · rintro i x H2 H3 hi ⟨ws, s2, hw, pw⟩ ⟨e3, c, hc, ex⟩
        subst e3 ex
        rw [byteArr_size] at hi
        have hz := byt_at hok.2 hc
        have wl : ws.length ≤ bs.length := by rw [Paired.length pw, List.length_map, List.length_take]; omega
        refine ⟨rfl, _, rfl, sizeS (by show 2 ≤ 100000; decide), fun t ht => ?_⟩
        obtain ⟨q1, q2⟩ := more (c := .new ((c.toNat : Nat) : Int)) hD s2 hw pw ht
        refine ⟨ws, Same.new ht _ _ hw, sizeL (by omega), _, q1, upd_same, ?_⟩
        rw [take_snoc hz, List.map_append]
        exact q2
      · rintro H2 ⟨ws, s2, hw, pw⟩
        rw [byteArr_size, List.take_length] at pw
        exact k H2 D s2 hD ⟨ws, hw, pw⟩
end
theorem cell_more {H H2 : Hp} {D : Addr} {ws : List V} {cs : List Cell} {c : Cell} {t : Addr} (hD : H D = none) (s2 : Same H H2) (hw : H2 D = some (.lst ws)) (pw : Paired (CellV H2) ws cs) (ht : H2 t = none) :
    Same H (upd (upd H2 t (.tup c.tup)) D (.lst (ws ++ [.ref t]))) ∧ Paired (CellV (upd (upd H2 t (.tup c.tup)) D (.lst (ws ++ [.ref t])))) (ws ++ [.ref t]) (cs ++ [c]) := by
  have hw' : (upd H2 t (.tup c.tup)) D = some (.lst ws) := Same.new ht _ _ hw
  refine ⟨fun b o e => ?_, pairedApp (pairedMap pw fun _ _ x => (x.tups (Same.tups (Same.new ht))).tups (Tups.lst hw')) (.cons ⟨t, rfl, Tups.lst hw' _ _ upd_same⟩ .nil)⟩
  rw [upd_ne (ne_of_none e hD)]
  exact Same.new ht _ _ (s2 _ _ e)
theorem rep_flat {α : Type} (x : α) : ∀ m : Nat, (List.replicate m [x]).flatten = List.replicate m x
  | 0 => rfl
  | m + 1 => by rw [List.replicate_succ, List.replicate_succ, List.flatten_cons, rep_flat x m]; rfl
theorem paired_rep {α β : Type} {F : α → β → Prop} {x : α} {y : β} (h : F x y) : ∀ m : Nat, Paired F (List.replicate m x) (List.replicate m y)
  | 0 => .nil
  | m + 1 => .cons h (paired_rep h m)
theorem cellsOf_take {rows : List Row} {i : Nat} {r : Row} (h : rows[i]? = some r) : cellsOf (rows.take (i + 1)) = cellsOf (rows.take i) ++ cellsR r := by
  rw [take_snoc h]
  show (rows.take i ++ [r]).flatMap cellsR = _
  rw [List.flatMap_append, List.flatMap_cons, List.flatMap_nil, List.append_nil]
  rfl
/-- what a cell may be -/
theorem cells_fit {c : Int} {rows : List Row} (hre : ∀ r ∈ rows, r.ok c) : ∀ cl ∈ cellsOf rows, (∃ n, cl = .old n ∧ 0 ≤ n ∧ n < c) ∨ ∃ b, cl = .new b ∧ 0 ≤ b ∧ b < 256 := by
  intro cl hcl
  obtain ⟨r, hr1, hr2⟩ := List.mem_flatMap.mp hcl
  have ho := hre r hr1
  cases r with
  | copy b n =>
    obtain ⟨i, hi, rfl⟩ := List.mem_map.mp hr2
    have hi := List.mem_range.mp hi
    have h1 := ho.1
    have h2 := ho.2.1
    have h3 := ho.2.2
    exact .inl ⟨_, rfl, by omega, by omega⟩
  | run b n =>
    rw [List.eq_of_mem_replicate hr2]
    exact .inr ⟨_, rfl, ho.1, ho.2.1⟩
  | bring bs =>
    obtain ⟨z, hz, rfl⟩ := List.mem_map.mp hr2
    exact .inr ⟨_, rfl, (ho.2 z hz).1, (ho.2 z hz).2⟩
theorem done_B8 {rows : List Row} {es : List Int} (hre : ∀ r ∈ rows, r.ok es.length) (hb : B8 es) : B8 (doneOf rows es) := fun z hz => by
  obtain ⟨cl, hcl, rfl⟩ := List.mem_map.mp hz
  rcases cells_fit hre cl hcl with ⟨n, rfl, n0, n1⟩ | ⟨b, rfl, b0, b1⟩
  · have jl : n.toNat < es.length := by omega
    show 0 ≤ es.getD n.toNat 0 ∧ es.getD n.toNat 0 < 256
    rw [List.getD_eq_getElem?_getD, List.getElem?_eq_getElem jl]
    exact hb _ (List.getElem_mem jl)
  · exact ⟨b0, b1⟩
theorem done_len {c : Int} {rows : List Row} (es : List Int) (hre : ∀ r ∈ rows, r.ok c) : ((doneOf rows es).length : Int) = total rows := by
  show ((((cellsOf rows).map (valOf es)).length : Nat) : Int) = _
  rw [List.length_map]; exact cellsOf_len hre
theorem Good.each {rows : List Row} (h : Good rows) : ∀ r ∈ rows, r.ok 200 ∧ r.len ≤ 200 := fun r hr => ⟨h.1 r hr, Int.le_trans (len_le_of h.1 hr) h.2⟩
theorem Good.few {rows : List Row} (h : Good rows) : (rows.length : Int) ≤ 200 := Int.le_trans (len_le_total h.1) h.2
theorem Good.take {rows : List Row} (h : Good rows) (i : Nat) : Good (rows.take i) := ⟨fun r hr => h.1 r (List.mem_of_mem_take hr), Int.le_trans (total_take_le h.1 i) h.2⟩
theorem Good.nat {rows : List Row} (h : Good rows) : rows.length ≤ 200 := by have := h.few; omega
section
variable {P : Program} {w : World} {K : PySem.W.Frag} {mg : Str → Option Value} {base : Heap}
theorem ends_app (a b : List Row) : endsOf (a ++ b) = endsOf a ++ endsOf b := by
  induction a with
  | nil => rfl
  | cons r l ih => cases r <;> simp [endsOf, ih]
theorem ends_len (a : List Row) : (endsOf a).length ≤ a.length := by
  induction a with
  | nil => exact Nat.le_refl _
  | cons r l ih => cases r <;> simp [endsOf] <;> omega
theorem total_sum : ∀ rows : List Row, (rows.map Row.len).sum = total rows
  | [] => rfl
  | r :: l => by rw [List.map_cons, List.sum_cons, total_sum l]; rfl
theorem ok_check_patch (T : All K mg) : FnOk P w K mg base CX0 3 T.d_check_patch.f T.d_check_patch.fd ["patch"] spCheckPatch := by
  have G_can_be : FnOk P w K mg base CX0 2 T.d_can_be.f T.d_can_be.fd ["piece"] spCanBe := ok_can_be T
  have G_length_of : FnOk P w K mg base CX0 1 T.d_length_of.f T.d_length_of.fd ["piece"] spLengthOf := ok_length_of T
  refine T.d_check_patch.F.ok sc_check_patch (fun vs H Q E h => ?_) (fun cdv A outer s H vs Q E hr h => ?_)
  · obtain ⟨v, _, rfl, _⟩ := h
    rfl
  · obtain ⟨v, rows, rfl, ⟨p, vs, rfl, hv, hpr⟩, ⟨hok, htot⟩, k⟩ := h
    have hvl : vs.length = rows.length := Paired.length hpr
    refine ⟨_, (pss_cons 
      (ps_set (i := 1) sc_check_patch.nd rfl (Or.inl rfl) pe_int) (pss_one 
      (ps_for PassesOwn.never rfl (pi_enumT (by rfl) T.b_enumerate (pa_cons (pv 0) pa_nil)) (pg_tup rfl (pgs_cons (pg_name (i := 2) sc_check_patch.nd rfl (Or.inl rfl)) (pgs_cons (pg_name (i := 3) sc_check_patch.nd rfl (Or.inl rfl)) pgs_nil))) (pss_cons 
      (ps_if (pt_not (pt_val (pe_call G_can_be (hr.mono (by decide)) rfl T.d_can_be.m T.d_can_be.F.kp T.d_can_be.b .nil pass0 (pa_cons (pv 3) pa_nil)))) (pss_one ps_never) pss_nil) (pss_cons 
      (ps_aug (i := 1) sc_check_patch.nd rfl (Or.inl rfl) (pe_call G_length_of (hr.mono (by decide)) rfl T.d_length_of.m T.d_length_of.F.kp T.d_length_of.b .nil pass0 (pa_cons (pv 3) pa_nil)) ip_add) (pss_one 
      (ps_if (pt_cmpR op_gt (pv 1) (pe_glob (v := .int 200) rfl T.c_MOST ⟨_, rfl⟩) (nomark _)) (pss_one ps_never) pss_nil))))))), ?_⟩
    refine ⟨_, rfl, p, vs, rfl, SqT.of hv, for_it walk_enumT (fun i σ H2 => ∃ v2 v3 : Option V, σ = [some (.ref p), some (.int (total (rows.take i))), v2, v3] ∧ Same H H2)
      ⟨none, none, rfl, Same.refl _⟩ (fun i σ H2 _ ⟨_, _, _, s2⟩ => SqT.of (s2 _ _ hv)) ?_ ?_⟩
    · rintro i x σ H2 H3 hi ⟨v2, v3, rfl, s2⟩ ⟨t, x1, y1, rfl, ht, rfl, e1, e2⟩
      cases e1
      obtain ⟨r, hr1, q, rfl, hq⟩ := pairedAt hpr e2
      have hro := hok r (List.mem_of_getElem? hr1)
      have hrl : r.len ≤ total rows := len_le_of hok (List.mem_of_getElem? hr1)
      have s3 : Same H (upd H2 t (.tup [.int (i : Nat), .ref q])) := s2.trans (Same.new ht)
      have hq3 := s3 _ _ hq
      refine ⟨t, _, rfl, SqT.of upd_same, rfl, _, _, rfl, _, _, rfl, rfl, ?_⟩
      refine ⟨_, rfl, q, r, rfl, hq3, hro, by omega, _, rfl, iteF ?_⟩
      refine ⟨_, rfl, _, rfl, q, r, rfl, hq3, hro, by omega, _, _, rfl, rfl, ?_⟩
      have ht1 := total_take hr1
      have ht2 := total_take_le hok (i + 1)
      refine ⟨_, rfl, _, _, rfl, rfl, _, rfl, ite2 (fun h => absurd (show (200 : Int) < total (rows.take i) + r.len from of_decide_eq_true h) (by omega)) fun _ => ?_⟩
      exact ⟨_, _, by rw [ht1]; rfl, s3⟩
    · rintro σ H2 ⟨v2, v3, rfl, s2⟩
      exact k H2 s2
theorem ok_cells (T : All K mg) : FnOk P w K mg base CX0 4 T.d_cells.f T.d_cells.fd ["patch"] spCells := by
  have G_check_patch : FnOk P w K mg base CX0 3 T.d_check_patch.f T.d_check_patch.fd ["patch"] spCheckPatch := ok_check_patch T
  have G_cells_of : FnOk P w K mg base CX0 1 T.d_cells_of.f T.d_cells_of.fd ["piece"] spCellsOf := ok_cells_of T
  refine T.d_cells.F.ok sc_cells (fun vs H Q E h => ?_) (fun cdv A outer s H vs Q E hr h => ?_)
  · obtain ⟨v, _, rfl, _⟩ := h
    rfl
  · obtain ⟨v, rows, rfl, hP, hG, k⟩ := h
    refine ⟨_, (pss_cons 
      (ps_expr (pe_call G_check_patch (hr.mono (by decide)) rfl T.d_check_patch.m T.d_check_patch.F.kp T.d_check_patch.b .nil pass0 (pa_cons (pv 0) pa_nil))) (pss_cons 
      (ps_set (i := 1) sc_cells.nd rfl (Or.inl rfl) (pe_lst pa_nil)) (pss_cons 
      (ps_for PassesOwn.never rfl (pi_tup (pv 0)) (pg_name (i := 2) sc_cells.nd rfl (Or.inl rfl)) (pss_one 
      (ps_expr (pe_bm PySem.F.plainAttrs_list PySem.F.slot_list_extend PySem.F.type_list_extend mt_extend (pv 1) (pa_cons (pe_call G_cells_of (hr.mono (by decide)) rfl T.d_cells_of.m T.d_cells_of.F.kp T.d_cells_of.b .nil pass0 (pa_cons (pv 2) pa_nil)) pa_nil))))) (pss_one 
      (ps_ret (pv 1)))))), ?_⟩
    refine ⟨_, rfl, v, rows, rfl, hP, hG, fun H1 s1 => ⟨sizeS (by show 0 ≤ 100000; decide), fun D hD => ?_⟩⟩
    obtain ⟨hok, htot⟩ := hG
    obtain ⟨p, vs, rfl, hv, hpr⟩ := hP
    have hD0 : H D = none := s1.free hD
    refine ⟨_, rfl, p, rfl, ⟨vs, SqT.of (Same.new hD _ _ (s1 _ _ hv))⟩, for_tup (K := K) (a := p) (xs := vs) (fun i σ H2 => ∃ (ws : List V) (v2 : Option V), σ = [some (.ref p), some (.ref D), v2] ∧ Same H H2 ∧ H2 D = some (.lst ws) ∧ Paired (CellV H2) ws (cellsOf (rows.take i)))
      ⟨[], none, rfl, s1.trans (Same.new hD), upd_same, .nil⟩ (fun i σ H2 _ ⟨_, _, _, s2, _⟩ => SqT.of (s2 _ _ hv)) ?_ ?_⟩
    · rintro i x σ H2 hi ⟨ws, v2, rfl, s2, hw, pw⟩
      obtain ⟨r, hr1, q, rfl, hq⟩ := pairedAt hpr hi
      have hro := hok r (List.mem_of_getElem? hr1)
      have hrl : r.len ≤ total rows := len_le_of hok (List.mem_of_getElem? hr1)
      refine ⟨_, rfl, .inl ⟨rfl, _, SqL.of hw⟩, _, rfl, q, r, rfl, s2 _ _ hq, hro, by omega, fun H3 e s3 he he3 => ?_⟩
      obtain ⟨us, hu, pu⟩ := he3
      have hw3 := s3 _ _ hw
      have l1 : (ws.length : Int) = total (rows.take i) := by
        rw [Paired.length pw]; exact cellsOf_len fun x hx => hok x (List.mem_of_mem_take hx)
      have l2 : (us.length : Int) = r.len := by rw [Paired.length pu]; exact cellsR_len hro
      have l3 := total_take_le hok i
      refine ⟨D, e, ws, us, rfl, rfl, hw3, hu, sizeS (by omega), ?_⟩
      refine ⟨_, _, rfl, fun b o z => ?_, upd_same, ?_⟩
      · rw [upd_ne (ne_of_none z hD0)]; exact s3 _ _ (s2 _ _ z)
      · have ec : cellsOf (rows.take (i + 1)) = cellsOf (rows.take i) ++ cellsR r := by
          rw [take_snoc hr1]
          show (rows.take i ++ [r]).flatMap cellsR = _
          rw [List.flatMap_append, List.flatMap_cons, List.flatMap_nil, List.append_nil]
          rfl
        rw [ec]
        exact pairedApp (pairedMap pw fun _ _ x => (x.tups (Same.tups s3)).tups (Tups.lst hw3)) (pairedMap pu fun _ _ x => x.tups (Tups.lst hw3))
    · rintro σ H2 ⟨ws, v2, rfl, s2, hw, pw⟩
      rw [Paired.length hpr, List.take_length] at pw
      exact ⟨_, rfl, k H2 D s2 hD0 ⟨ws, hw, pw⟩⟩
end
def spLCells : Sp := fun vs H Q _ => ∃ (p : Addr) (rows : List Row) (c : Int), vs = [.ref p] ∧ RowsAt H p rows ∧ (∀ r ∈ rows, r.ok c) ∧ c ≤ 10000 ∧ total rows ≤ 10000 ∧ ∀ H' q, Same H H' → H q = none → CellsAt H' q (cellsOf rows) → Q (.ref q) H'
section
variable {P : Program} {w : World} {K : PySem.W.Frag} {mg : Str → Option Value} {base : Heap}
theorem ok_law_cells (T : All K mg) : FnOk P w K mg base CX0 1 T.d_law_cells.f T.d_law_cells.fd ["_law_rows_here"] spLCells := by
  refine T.d_law_cells.F.ok sc_law_cells (fun vs H Q E h => ?_) (fun cdv A outer s H vs Q E hr h => ?_)
  · obtain ⟨p, _, _, rfl, _⟩ := h
    rfl
  · obtain ⟨p, rows, c, rfl, ⟨vs, hv, hpr⟩, hok, hc, htot, k⟩ := h
    refine ⟨_, (pss_cons 
      (ps_set (i := 1) sc_law_cells.nd rfl (Or.inl rfl) (pe_lst pa_nil)) (pss_cons 
      (ps_for PassesOwn.never rfl (pi_list (pv 0)) (pg_name (i := 2) sc_law_cells.nd rfl (Or.inl rfl)) (pss_one 
      (ps_if (pt_cmpR op_eq (pe_ix ix_tup (pv 2) pe_int (fun _ _ => rfl)) pe_str (nomark _)) (pss_one 
      (ps_set (i := 1) sc_law_cells.nd rfl (Or.inl rfl) (pe_op op_cat (pv 1) (pe_lc (own := [("_law_k", 3)]) (g := gName 3) (tt := tYes) rfl sc_law_cells.nd (pi_range2 (by rfl) T.b_range (pa_cons (pe_ix ix_tup (pv 2) pe_int (fun _ _ => rfl)) (pa_cons (pe_op op_add (pe_ix ix_tup (pv 2) pe_int (fun _ _ => rfl)) (pe_ix ix_tup (pv 2) pe_int (fun _ _ => rfl))) pa_nil))) (blkOk_by (own := [("_law_k", 3)]) (N := ["_law_rows_here", "_law_found", "_law_row", "_law_k", "_law_byte"]) (sc := defScope s_law_cells) (by decide +kernel)) (fun _ _ _ _ _ => (pg_name (i := 3) sc_law_cells.nd rfl (Or.inl rfl))) (fun _ _ _ _ _ => pts_nil) (fun _ _ _ _ _ => (pe_tup (pa_cons pe_str (pa_cons (pv 3) pa_nil)))))))) (pss_one 
      (ps_if (pt_cmpR op_eq (pe_ix ix_tup (pv 2) pe_int (fun _ _ => rfl)) pe_str (nomark _)) (pss_one 
      (ps_set (i := 1) sc_law_cells.nd rfl (Or.inl rfl) (pe_op op_cat (pv 1) (pe_op op_rep (pe_lst (pa_cons (pe_tup (pa_cons pe_str (pa_cons (pe_ix ix_tup (pv 2) pe_int (fun _ _ => rfl)) pa_nil))) pa_nil)) (pe_ix ix_tup (pv 2) pe_int (fun _ _ => rfl)))))) (pss_one 
      (ps_set (i := 1) sc_law_cells.nd rfl (Or.inl rfl) (pe_op op_cat (pv 1) (pe_lc (own := [("_law_byte", 4)]) (g := gName 4) (tt := tYes) rfl sc_law_cells.nd (pi_list (pe_ix ix_tup (pv 2) pe_int (fun _ _ => rfl))) (blkOk_by (own := [("_law_byte", 4)]) (N := ["_law_rows_here", "_law_found", "_law_row", "_law_k", "_law_byte"]) (sc := defScope s_law_cells) (by decide +kernel)) (fun _ _ _ _ _ => (pg_name (i := 4) sc_law_cells.nd rfl (Or.inl rfl))) (fun _ _ _ _ _ => pts_nil) (fun _ _ _ _ _ => (pe_tup (pa_cons pe_str (pa_cons (pv 4) pa_nil))))))))))))) (pss_one 
      (ps_ret (pv 1))))), ?_⟩
    refine ⟨sizeS (by show 0 ≤ 100000; decide), fun f0 hf0 => ?_⟩
    refine ⟨_, rfl, p, rfl, ⟨vs, SqL.of (Same.new hf0 _ _ hv)⟩, for_list (K := K) (a := p) (xs := vs) (fun i σ H2 => ∃ (f : Addr) (ws : List V) (v2 v3 v4 : Option V), σ = [some (.ref p), some (.ref f), v2, v3, v4] ∧ Same H H2 ∧ H f = none ∧ H2 f = some (.lst ws) ∧ Paired (CellV H2) ws (cellsOf (rows.take i)))
      ⟨f0, [], none, none, none, rfl, Same.new hf0, hf0, upd_same, .nil⟩ (fun i σ H2 _ ⟨_, _, _, _, _, _, s2, _⟩ => SqL.of (s2 _ _ hv)) ?_ ?_⟩
    · rintro i x σ H2 hi ⟨f, ws, v2, v3, v4, rfl, s2, hf, hw, pw⟩
      obtain ⟨r, hr1, hr2⟩ := pairedAt hpr hi
      have hro := hok r (List.mem_of_getElem? hr1)
      have hrl : r.len ≤ total rows := len_le_of hok (List.mem_of_getElem? hr1)
      have l1 : (ws.length : Int) = total (rows.take i) := by
        rw [Paired.length pw]; exact cellsOf_len fun x hx => hok x (List.mem_of_mem_take hx)
      have l3 := total_take_le hok i
      have l4 := total_nn hok
      -- the two lists put together
      have fin : ∀ (H3 : Hp) (us : List V) (q : Addr), Same H2 H3 → Paired (CellV H3) us (cellsR r) → H3 q = none → H q = none ∧ Same H (upd H3 q (.lst (ws ++ us))) ∧ Paired (CellV (upd H3 q (.lst (ws ++ us)))) (ws ++ us) (cellsOf (rows.take (i + 1))) := by
        intro H3 us q s3 pu hq
        refine ⟨(s2.trans s3).free hq, (s2.trans s3).trans (Same.new hq), ?_⟩
        rw [cellsOf_take hr1]
        exact pairedApp (pairedMap pw fun _ _ x => (x.tups (Same.tups s3)).tups (Same.tups (Same.new hq))) (pairedMap pu fun _ _ x => x.tups (Same.tups (Same.new hq)))
      cases r with
      | copy b n =>
        obtain ⟨t, rfl, ht⟩ := hr2.same s2
        have h1 := hro.1
        have h2 := hro.2.1
        have h4 : n ≤ total rows := hrl
        have h3 := hro.2.2
        refine ⟨_, rfl, t, _, _, _, rfl, rfl, SqT.of ht, rfl, rfl, _, rfl, ite2 (fun _ => ?_) fun h => absurd (by decide) h⟩
        refine ⟨_, rfl, _, rfl, t, _, _, _, rfl, rfl, SqT.of ht, rfl, _, rfl, t, _, _, _, rfl, rfl, SqT.of ht, rfl, _, rfl, t, _, _, _, rfl, rfl, SqT.of ht, rfl, _, _, rfl, rfl, _, _, rfl, ⟨by omega, by omega, by omega, by omega⟩, fun D hD => ?_⟩
        refine lc_range (lo := b) (n := (b + n - b).toNat) (fun j H3 => ∃ us : List V, Same H2 H3 ∧ H3 D = some (.lst us) ∧ Paired (CellV H3) us ((List.range j).map fun i => Cell.old (b + (i : Nat))))
          ⟨[], Same.new hD, upd_same, .nil⟩ ?_ ?_
        · rintro j H3 hj ⟨us, s3, hu, pu⟩
          have ul : us.length = j := by rw [Paired.length pu, List.length_map, List.length_range]
          refine ⟨rfl, _, rfl, sizeS (by show 2 ≤ 100000; decide), fun t' ht' => ?_⟩
          obtain ⟨q1, q2⟩ := cell_more (c := .old (b + (j : Nat))) hD s3 hu pu ht'
          refine ⟨us, Same.new ht' _ _ hu, sizeL (by omega), _, q1, upd_same, ?_⟩
          rw [List.range_succ, List.map_append]
          exact q2
        · rintro H3 ⟨us, s3, hu, pu⟩
          rw [show (b + n - b).toNat = n.toNat by omega] at pu
          have ul : us.length = n.toNat := by rw [Paired.length pu, List.length_map, List.length_range]
          refine ⟨f, D, ws, us, rfl, rfl, s3 _ _ hw, hu, sizeS (by omega), fun q hq => ?_⟩
          obtain ⟨q1, q2, q3⟩ := fin H3 us q s3 pu hq
          exact ⟨q, _, _, _, _, rfl, q2, q1, upd_same, q3⟩
      | run b n =>
        obtain ⟨t, rfl, ht⟩ := hr2.same s2
        have h3 := hro.2.2
        have h4 : n ≤ total rows := hrl
        refine ⟨_, rfl, t, _, _, _, rfl, rfl, SqT.of ht, rfl, rfl, _, rfl, ite2 (fun h => absurd h (by decide)) fun _ => ?_⟩
        refine ⟨_, rfl, t, _, _, _, rfl, rfl, SqT.of ht, rfl, rfl, _, rfl, ite2 (fun _ => ?_) fun h => absurd (by decide) h⟩
        refine ⟨_, rfl, _, rfl, t, _, _, _, rfl, rfl, SqT.of ht, rfl, sizeS (by show 2 ≤ 100000; decide), fun u hu => ⟨sizeS (by show 1 ≤ 100000; decide), fun l hl => ?_⟩⟩
        have s3 : Same H2 (upd (upd H2 u (.tup [.str "new", .int b])) l (.lst [.ref u])) := (Same.new hu).trans (Same.new hl)
        refine ⟨_, rfl, t, _, _, _, rfl, rfl, SqT.of (s3 _ _ ht), rfl, l, _, _, rfl, rfl, upd_same, by omega, by omega, sizeS ?_, fun q hq => ?_⟩
        · show 1 * n.toNat ≤ 100000
          omega
        · have s4 := s3.trans (Same.new (o := .lst (List.replicate n.toNat [V.ref u]).flatten) hq)
          have cu : CellV (upd (upd (upd H2 u (.tup [.str "new", .int b])) l (.lst [.ref u])) q (.lst (List.replicate n.toNat [V.ref u]).flatten)) (.ref u) (.new b) := ⟨u, rfl, Same.new hq _ _ (Same.new hl _ _ upd_same)⟩
          have pu := paired_rep cu n.toNat
          refine ⟨f, q, ws, _, rfl, rfl, s4 _ _ hw, upd_same, sizeS (by rw [rep_flat, List.length_replicate]; omega), fun q' hq' => ?_⟩
          obtain ⟨q1, q2, q3⟩ := fin _ _ q' s4 pu hq'
          rw [rep_flat] at q2 q3 ⊢
          exact ⟨q', _, _, _, _, rfl, q2, q1, upd_same, q3⟩
      | bring bs =>
        obtain ⟨t, u, rfl, ht, hu⟩ := hr2.same s2
        have h4 : (bs.length : Int) ≤ total rows := hrl
        refine ⟨_, rfl, t, _, _, _, rfl, rfl, SqT.of ht, rfl, rfl, _, rfl, ite2 (fun h => absurd h (by decide)) fun _ => ?_⟩
        refine ⟨_, rfl, t, _, _, _, rfl, rfl, SqT.of ht, rfl, rfl, _, rfl, ite2 (fun h => absurd h (by decide)) fun _ => ?_⟩
        refine ⟨_, rfl, _, rfl, t, _, _, _, rfl, rfl, SqT.of ht, rfl, u, rfl, ⟨_, SqL.of hu⟩, fun D hD => ?_⟩
        refine lc_list (K := K) (a := u) (xs := bs.map V.int) (fun j H3 => ∃ us : List V, Same H2 H3 ∧ H3 D = some (.lst us) ∧ Paired (CellV H3) us ((bs.take j).map Cell.new))
          ⟨[], Same.new hD, upd_same, .nil⟩ (fun j H3 _ ⟨_, s3, _⟩ => SqL.of (s3 _ _ hu)) ?_ ?_
        · rintro j y H3 hj ⟨us, s3, hus, pu⟩
          obtain ⟨z, rfl, hz⟩ := at_map hj
          have ul : us.length ≤ bs.length := by rw [Paired.length pu, List.length_map, List.length_take]; omega
          refine ⟨rfl, _, rfl, sizeS (by show 2 ≤ 100000; decide), fun t' ht' => ?_⟩
          obtain ⟨q1, q2⟩ := cell_more (c := .new z) hD s3 hus pu ht'
          refine ⟨us, Same.new ht' _ _ hus, sizeL (by omega), _, q1, upd_same, ?_⟩
          rw [take_snoc hz, List.map_append]
          exact q2
        · rintro H3 ⟨us, s3, hus, pu⟩
          rw [List.length_map, List.take_length] at pu
          have ul : us.length = bs.length := by rw [Paired.length pu, List.length_map]
          refine ⟨f, D, ws, us, rfl, rfl, s3 _ _ hw, hus, sizeS (by omega), fun q hq => ?_⟩
          obtain ⟨q1, q2, q3⟩ := fin H3 us q s3 pu hq
          exact ⟨q, _, _, _, _, rfl, q2, q1, upd_same, q3⟩
    · rintro σ H2 ⟨f, ws, v2, v3, v4, rfl, s2, hf, hw, pw⟩
      rw [Paired.length hpr, List.take_length] at pw
      exact ⟨_, rfl, k H2 f s2 hf ⟨ws, hw, pw⟩⟩
end
/-- alike data, of nesting below n -/
def Alk (H : Hp) : Nat → V → V → Prop
  | 0, _, _ => False
  | n + 1, x, y => (x = y ∧ ((∃ i, x = .int i) ∨ ∃ s, x = .str s)) ∨ ∃ p q xs ys, x = .ref p ∧ y = .ref q ∧ ((H p = some (.tup xs) ∧ H q = some (.tup ys)) ∨ (H p = some (.lst xs) ∧ H q = some (.lst ys))) ∧ xs.length ≤ 100000 ∧ Paired (Alk H n) xs ys
theorem Alk.same {H H' : Hp} (s : Same H H') : ∀ {n : Nat} {x y : V}, Alk H n x y → Alk H' n x y
  | n + 1, x, y, .inl h => .inl h
  | n + 1, x, y, .inr ⟨p, q, xs, ys, e1, e2, h, l, r⟩ => .inr ⟨p, q, xs, ys, e1, e2, h.imp (fun z => ⟨s _ _ z.1, s _ _ z.2⟩) (fun z => ⟨s _ _ z.1, s _ _ z.2⟩), l, pairedMap r fun _ _ z => Alk.same s z⟩
def spLike (n : Nat) : Sp := fun vs H Q _ => ∃ x y : V, vs = [x, y] ∧ Alk H n x y ∧ ∀ H', Same H H' → Q (.bl true) H'
theorem eqv_nil : PyData.eqv (.list []) (.list []) = true := by simp [PyData.eqv, PyData.eqvAll]
theorem shaped_nil : SeqAt.shaped (.list []) = true := by decide
theorem Alk.cell {H : Hp} {v u : V} {c : Cell} (h : CellV H v c) (h' : CellV H u c) : Alk H 2 v u := by
  obtain ⟨p, rfl, hp⟩ := h
  obtain ⟨q, rfl, hq⟩ := h'
  refine .inr ⟨p, q, _, _, rfl, rfl, .inl ⟨hp, hq⟩, ?_, ?_⟩
  · cases c <;> (show 2 ≤ 100000; decide)
  · cases c with
    | old k => exact .cons (.inl ⟨rfl, .inr ⟨_, rfl⟩⟩) (.cons (.inl ⟨rfl, .inl ⟨_, rfl⟩⟩) .nil)
    | new b => exact .cons (.inl ⟨rfl, .inr ⟨_, rfl⟩⟩) (.cons (.inl ⟨rfl, .inl ⟨_, rfl⟩⟩) .nil)
theorem Alk.cells {H : Hp} : ∀ {vs us : List V} {cs : List Cell}, Paired (CellV H) vs cs → Paired (CellV H) us cs → Paired (Alk H 2) vs us
  | _, _, _, .nil, .nil => .nil
  | _, _, _, .cons a r, .cons b t => .cons (Alk.cell a b) (Alk.cells r t)
section
variable {P : Program} {w : World} {K : PySem.W.Frag} {mg : Str → Option Value} {base : Heap}
theorem ok_law_like (T : All K mg) : ∀ n : Nat, FnOk P w K mg base CX0 n T.d_law_like.f T.d_law_like.fd ["_law_found", "_law_due"] (spLike n)
  | 0 => ⟨fun _ _ _ _ ⟨_, _, _, h, _⟩ => h.elim, fun _ _ _ _ _ _ _ _ _ _ _ _ _ ⟨_, _, _, h, _⟩ => h.elim⟩
  | n + 1 => by
    have G_law_like : FnOk P w K mg base CX0 n T.d_law_like.f T.d_law_like.fd ["_law_found", "_law_due"] (spLike n) := ok_law_like T n
    refine T.d_law_like.F.ok sc_law_like (fun vs H Q E h => ?_) (fun cdv A outer s H vs Q E hr h => ?_)
    · obtain ⟨x, y, rfl, _⟩ := h
      rfl
    · obtain ⟨x, y, rfl, h, k⟩ := h
      refine ⟨_, (pss_cons 
      (ps_if (PW.pt (pw_or (pt_val (pe_callB call_isi (by rfl) T.b_isinstance (by decide +kernel) (pa_cons (pv 1) (pa_cons (pe_bltn (v := .ty "tuple") (by rfl) T.b_tuple (by decide +kernel) rfl) pa_nil)))) (pw_or1 (pt_val (pe_callB call_isi (by rfl) T.b_isinstance (by decide +kernel) (pa_cons (pv 1) (pa_cons (pe_bltn (v := .ty "list") (by rfl) T.b_list (by decide +kernel) rfl) pa_nil))))))) (pss_cons 
      (ps_if (pt_cmpR op_ne (pe_callB call_isi (by rfl) T.b_isinstance (by decide +kernel) (pa_cons (pv 0) (pa_cons (pe_bltn (v := .ty "tuple") (by rfl) T.b_tuple (by decide +kernel) rfl) pa_nil))) (pe_callB call_isi (by rfl) T.b_isinstance (by decide +kernel) (pa_cons (pv 1) (pa_cons (pe_bltn (v := .ty "tuple") (by rfl) T.b_tuple (by decide +kernel) rfl) pa_nil))) (nomark _)) (pss_one 
      (ps_ret pe_bl)) pss_nil) (pss_cons 
      (ps_if (PW.pt (pw_or (pt_cmpR op_ne (pe_callB call_isi (by rfl) T.b_isinstance (by decide +kernel) (pa_cons (pv 0) (pa_cons (pe_bltn (v := .ty "list") (by rfl) T.b_list (by decide +kernel) rfl) pa_nil))) (pe_callB call_isi (by rfl) T.b_isinstance (by decide +kernel) (pa_cons (pv 1) (pa_cons (pe_bltn (v := .ty "list") (by rfl) T.b_list (by decide +kernel) rfl) pa_nil))) (nomark _)) (pw_or1 (pt_cmpR op_ne (pe_callB call_len (by rfl) T.b_len PySem.boot_len (pa_cons (pv 0) pa_nil)) (pe_callB call_len (by rfl) T.b_len PySem.boot_len (pa_cons (pv 1) pa_nil)) (nomark _))))) (pss_one 
      (ps_ret pe_bl)) pss_nil) (pss_one 
      (ps_ret (pe_cmpR (op_eqD hr.units) (pe_lc (own := [("_law_k", 2)]) (g := gName 2) rfl sc_law_like.nd (pi_range1 (by rfl) T.b_range (pa_cons (pe_callB call_len (by rfl) T.b_len PySem.boot_len (pa_cons (pv 1) pa_nil)) pa_nil)) (blkOk_by (own := [("_law_k", 2)]) (N := ["_law_found", "_law_due", "_law_k"]) (sc := defScope s_law_like) (by decide +kernel)) (fun _ _ _ _ _ => (pg_name (i := 2) sc_law_like.nd rfl (Or.inl rfl))) (fun _ _ _ _ _ => (pts_one (pt_not (pt_val (pe_call G_law_like (hr.mono (Nat.le_refl _)) rfl T.d_law_like.m T.d_law_like.F.kp T.d_law_like.b .nil pass0 (pa_cons (pe_ix (ixsK (K := K) rfl) (pv 0) (pv 2) (fun _ _ => rfl)) (pa_cons (pe_ix (ixsK (K := K) rfl) (pv 1) (pv 2) (fun _ _ => rfl)) pa_nil))))))) (fun _ _ _ _ _ => (pv 2))) (pe_lst pa_nil) (nomark _)))))) pss_nil) (pss_cons 
      (ps_if (pt_cmpR op_ne (pe_callB call_isi (by rfl) T.b_isinstance (by decide +kernel) (pa_cons (pv 0) (pa_cons (pe_bltn (v := .ty "bool") (by rfl) T.b_bool (by decide +kernel) rfl) pa_nil))) (pe_callB call_isi (by rfl) T.b_isinstance (by decide +kernel) (pa_cons (pv 1) (pa_cons (pe_bltn (v := .ty "bool") (by rfl) T.b_bool (by decide +kernel) rfl) pa_nil))) (nomark _)) (pss_one 
      (ps_ret pe_bl)) pss_nil) (pss_cons 
      (ps_if (PW.pt (pw_or (pt_cmpR op_ne (pe_callB call_isi (by rfl) T.b_isinstance (by decide +kernel) (pa_cons (pv 0) (pa_cons (pe_bltn (v := .ty "int") (by rfl) T.b_int (by decide +kernel) rfl) pa_nil))) (pe_callB call_isi (by rfl) T.b_isinstance (by decide +kernel) (pa_cons (pv 1) (pa_cons (pe_bltn (v := .ty "int") (by rfl) T.b_int (by decide +kernel) rfl) pa_nil))) (nomark _)) (pw_or1 (pt_cmpR op_ne (pe_callB call_isi (by rfl) T.b_isinstance (by decide +kernel) (pa_cons (pv 0) (pa_cons (pe_bltn (v := .ty "str") (by rfl) T.b_str (by decide +kernel) rfl) pa_nil))) (pe_callB call_isi (by rfl) T.b_isinstance (by decide +kernel) (pa_cons (pv 1) (pa_cons (pe_bltn (v := .ty "str") (by rfl) T.b_str (by decide +kernel) rfl) pa_nil))) (nomark _))))) (pss_one 
      (ps_ret pe_bl)) pss_nil) (pss_one 
      (ps_ret (pe_cmpR op_eq (pv 0) (pv 1) (nomark _))))))), ?_⟩
      rcases h with ⟨rfl, ⟨i, rfl⟩ | ⟨z, rfl⟩⟩ | ⟨p, q, xs, ys, rfl, rfl, h, hl, hp⟩
      · refine ⟨_, rfl, _, _, _, _, false, rfl, .ty _, .base (.int i), kit_ty (by decide +kernel), false, rfl, iteF ?_⟩
        refine ⟨_, rfl, _, _, _, _, false, rfl, .ty _, .base (.int i), kit_ty (by decide +kernel), false, rfl, iteF ?_⟩
        refine ⟨_, rfl, _, _, _, _, false, rfl, .ty _, .base (.int i), kit_ty (by decide +kernel), _, rfl, _, _, _, _, false, rfl, .ty _, .base (.int i), kit_ty (by decide +kernel), rfl, _, rfl, iteNS rfl ?_⟩
        refine ⟨_, rfl, _, _, _, _, true, rfl, .ty _, .base (.int i), kit_ty (by decide +kernel), _, rfl, _, _, _, _, true, rfl, .ty _, .base (.int i), kit_ty (by decide +kernel), rfl, _, rfl, iteNS rfl ?_⟩
        refine ⟨_, rfl, _, _, _, _, false, rfl, .ty _, .base (.int i), kit_ty (by decide +kernel), _, rfl, _, _, _, _, false, rfl, .ty _, .base (.int i), kit_ty (by decide +kernel), rfl, _, rfl, iteNS rfl ?_⟩
        refine ⟨_, rfl, _, rfl, rfl, ?_⟩
        have kk := k H (Same.refl _)
        rw [← decide_eq_true (rfl : V.int i = V.int i)] at kk
        exact kk
      · refine ⟨_, rfl, _, _, _, _, false, rfl, .ty _, .base (.str z), kit_ty (by decide +kernel), false, rfl, iteF ?_⟩
        refine ⟨_, rfl, _, _, _, _, false, rfl, .ty _, .base (.str z), kit_ty (by decide +kernel), false, rfl, iteF ?_⟩
        refine ⟨_, rfl, _, _, _, _, false, rfl, .ty _, .base (.str z), kit_ty (by decide +kernel), _, rfl, _, _, _, _, false, rfl, .ty _, .base (.str z), kit_ty (by decide +kernel), rfl, _, rfl, iteNS rfl ?_⟩
        refine ⟨_, rfl, _, _, _, _, false, rfl, .ty _, .base (.str z), kit_ty (by decide +kernel), _, rfl, _, _, _, _, false, rfl, .ty _, .base (.str z), kit_ty (by decide +kernel), rfl, _, rfl, iteNS rfl ?_⟩
        refine ⟨_, rfl, _, _, _, _, true, rfl, .ty _, .base (.str z), kit_ty (by decide +kernel), _, rfl, _, _, _, _, true, rfl, .ty _, .base (.str z), kit_ty (by decide +kernel), rfl, _, rfl, iteNS rfl ?_⟩
        refine ⟨_, rfl, _, rfl, rfl, ?_⟩
        have kk := k H (Same.refl _)
        rw [← decide_eq_true (rfl : V.str z = V.str z)] at kk
        exact kk
      · have el : xs.length = ys.length := Paired.length hp
        rcases h with ⟨hx, hy⟩ | ⟨hx, hy⟩
        · refine ⟨_, rfl, _, _, _, _, true, rfl, .ty _, .base (.tup hy), kit_ty (by decide +kernel), true, rfl, iteT (iteT ?_)⟩
          refine ⟨_, rfl, _, _, _, _, true, rfl, .ty _, .base (.tup hx), kit_ty (by decide +kernel), _, rfl, _, _, _, _, true, rfl, .ty _, .base (.tup hy), kit_ty (by decide +kernel), rfl, _, rfl, iteNS rfl ?_⟩
          refine ⟨_, rfl, _, _, _, _, false, rfl, .ty _, .base (.tup hx), kit_ty (by decide +kernel), _, rfl, _, _, _, _, false, rfl, .ty _, .base (.tup hy), kit_ty (by decide +kernel), rfl, _, rfl, iteNS rfl ?_⟩
          refine ⟨_, rfl, _, xs.length, rfl, .inr ⟨_, SqT.of hx, rfl⟩, _, rfl, _, ys.length, rfl, .inr ⟨_, SqT.of hy, rfl⟩, rfl, _, rfl, iteNS (by rw [el]) ?_⟩
          refine ⟨_, rfl, _, ys.length, rfl, .inr ⟨_, SqT.of hy, rfl⟩, _, rfl, by omega, by omega, fun D hD => ?_⟩
          refine lc_range (lo := 0) (n := ((ys.length : Int)).toNat) (fun i H2 => Same H H2 ∧ H2 D = some (.lst [])) ⟨Same.new hD, upd_same⟩ ?_ ?_
          · rintro i H2 hi ⟨s2, hd⟩
            rw [Int.toNat_natCast] at hi
            have hi' : i < xs.length := by omega
            obtain ⟨y, hy1, hy2⟩ := pairedAt hp (List.getElem?_eq_getElem hi')
            exact ⟨rfl, _, rfl, _, rfl, .inr (.inl ⟨p, xs, _, _, rfl, rfl, SqT.of (s2 _ _ hx), at_of (by omega) (List.getElem?_eq_getElem hi'), _, rfl, _, rfl, .inr (.inl ⟨q, ys, _, _, rfl, rfl, SqT.of (s2 _ _ hy), at_of (by omega) hy1, xs[i], y, rfl, Alk.same s2 hy2, fun H3 s3 => ⟨_, rfl, iteF ⟨s2.trans s3, s3 _ _ hd⟩⟩⟩)⟩)⟩
          · rintro H2 ⟨s2, hd⟩
            refine ⟨sizeS (by show 0 ≤ 100000; decide), fun l hl => ⟨.list [], .list [], Dp.lst (SqL.of (Same.new hl _ _ hd)) .nil, Dp.lst (SqL.of upd_same) .nil, shaped_nil, shaped_nil, ?_⟩⟩
            have kk := k _ (s2.trans (Same.new (o := .lst []) hl))
            rw [← eqv_nil] at kk
            exact kk
        · refine ⟨_, rfl, _, _, _, _, false, rfl, .ty _, .base (.lst hy), kit_ty (by decide +kernel), false, rfl, iteF ?_⟩
          refine ⟨_, rfl, _, _, _, _, true, rfl, .ty _, .base (.lst hy), kit_ty (by decide +kernel), true, rfl, iteT ?_⟩
          refine ⟨_, rfl, _, _, _, _, false, rfl, .ty _, .base (.lst hx), kit_ty (by decide +kernel), _, rfl, _, _, _, _, false, rfl, .ty _, .base (.lst hy), kit_ty (by decide +kernel), rfl, _, rfl, iteNS rfl ?_⟩
          refine ⟨_, rfl, _, _, _, _, true, rfl, .ty _, .base (.lst hx), kit_ty (by decide +kernel), _, rfl, _, _, _, _, true, rfl, .ty _, .base (.lst hy), kit_ty (by decide +kernel), rfl, _, rfl, iteNS rfl ?_⟩
          refine ⟨_, rfl, _, xs.length, rfl, .inl ⟨_, SqL.of hx, rfl⟩, _, rfl, _, ys.length, rfl, .inl ⟨_, SqL.of hy, rfl⟩, rfl, _, rfl, iteNS (by rw [el]) ?_⟩
          refine ⟨_, rfl, _, ys.length, rfl, .inl ⟨_, SqL.of hy, rfl⟩, _, rfl, by omega, by omega, fun D hD => ?_⟩
          refine lc_range (lo := 0) (n := ((ys.length : Int)).toNat) (fun i H2 => Same H H2 ∧ H2 D = some (.lst [])) ⟨Same.new hD, upd_same⟩ ?_ ?_
          · rintro i H2 hi ⟨s2, hd⟩
            rw [Int.toNat_natCast] at hi
            have hi' : i < xs.length := by omega
            obtain ⟨y, hy1, hy2⟩ := pairedAt hp (List.getElem?_eq_getElem hi')
            exact ⟨rfl, _, rfl, _, rfl, .inl ⟨p, xs, _, _, rfl, rfl, SqL.of (s2 _ _ hx), at_of (by omega) (List.getElem?_eq_getElem hi'), _, rfl, _, rfl, .inl ⟨q, ys, _, _, rfl, rfl, SqL.of (s2 _ _ hy), at_of (by omega) hy1, xs[i], y, rfl, Alk.same s2 hy2, fun H3 s3 => ⟨_, rfl, iteF ⟨s2.trans s3, s3 _ _ hd⟩⟩⟩⟩⟩
          · rintro H2 ⟨s2, hd⟩
            refine ⟨sizeS (by show 0 ≤ 100000; decide), fun l hl => ⟨.list [], .list [], Dp.lst (SqL.of (Same.new hl _ _ hd)) .nil, Dp.lst (SqL.of upd_same) .nil, shaped_nil, shaped_nil, ?_⟩⟩
            have kk := k _ (s2.trans (Same.new (o := .lst []) hl))
            rw [← eqv_nil] at kk
            exact kk
end
/-! ### plain patches: the mathematics -/
def Fit (c : Int) (cs : List Cell) : Prop := ∀ cl ∈ cs, (∃ n, cl = Cell.old n ∧ 0 ≤ n ∧ n < c) ∨ ∃ b, cl = Cell.new b ∧ 0 ≤ b ∧ b < 256
def goesB (f : Cell) (m : Nat) (c : Cell) : Bool := match f with
  | .old k => decide (c = .old (k + (m : Nat)))
  | .new b => decide (c = .new b)
def strStep (acc : List (Cell × Nat)) (c : Cell) : List (Cell × Nat) := match acc.getLast? with
  | some (f, m) => if goesB f m c = true then acc.dropLast ++ [(f, m + 1)] else acc ++ [(c, 1)]
  | none => acc ++ [(c, 1)]
def strOf (cs : List Cell) : List (Cell × Nat) := cs.foldl strStep []
def expand (s : Cell × Nat) : List Cell := match s.1 with
  | .old k => (List.range s.2).map fun i => Cell.old (k + (i : Nat))
  | .new b => List.replicate s.2 (Cell.new b)
def pieceOf (f : Cell) (m : Nat) : Row := match f with
  | .old k => .copy k m
  | .new b => if 3 ≤ m then .run b m else .bring (List.replicate m b)
def plStep (acc : List Row) (r : Row) : List Row := match r, acc.getLast? with
  | .bring bs, some (.bring as) => acc.dropLast ++ [.bring (as ++ bs)]
  | r, _ => acc ++ [r]
def plainOf (cs : List Cell) : List Row := ((strOf cs).map fun s => pieceOf s.1 s.2).foldl plStep []
theorem last_split {α : Type} {l : List α} {x : α} (h : l.getLast? = some x) : l = l.dropLast ++ [x] := by
  have hne : l ≠ [] := by intro e; rw [e] at h; cases h
  have e := List.dropLast_concat_getLast hne
  rw [List.getLast?_eq_some_getLast hne] at h
  rw [← Option.some.inj h]; exact e.symm
theorem expand_one (c : Cell) : expand (c, 1) = [c] := by
  cases c with
  | old k => show [Cell.old (k + ((0 : Nat) : Int))] = [Cell.old k]; simp
  | new b => rfl
theorem expand_more {f : Cell} {m : Nat} {c : Cell} (h : goesB f m c = true) : expand (f, m + 1) = expand (f, m) ++ [c] := by
  cases f with
  | old k =>
    have e : c = .old (k + (m : Nat)) := of_decide_eq_true h
    subst e
    show (List.range (m + 1)).map _ = _
    rw [List.range_succ, List.map_append]
    rfl
  | new b =>
    have e : c = .new b := of_decide_eq_true h
    subst e
    show List.replicate (m + 1) _ = List.replicate m _ ++ [_]
    rw [List.replicate_succ']
theorem str_step (acc : List (Cell × Nat)) (c : Cell) : (strStep acc c).flatMap expand = acc.flatMap expand ++ [c] := by
  unfold strStep
  split
  · rename_i f m h
    have e := last_split h
    split
    · rename_i g
      rw [List.flatMap_append, List.flatMap_cons, List.flatMap_nil, List.append_nil, expand_more g, ← List.append_assoc]
      conv => rhs; rw [e, List.flatMap_append, List.flatMap_cons, List.flatMap_nil, List.append_nil]
    · rw [List.flatMap_append, List.flatMap_cons, List.flatMap_nil, List.append_nil, expand_one]
  · rw [List.flatMap_append, List.flatMap_cons, List.flatMap_nil, List.append_nil, expand_one]
theorem str_fold : ∀ (cs : List Cell) (acc : List (Cell × Nat)), (cs.foldl strStep acc).flatMap expand = acc.flatMap expand ++ cs
  | [], acc => by simp
  | c :: cs, acc => by rw [List.foldl_cons, str_fold cs, str_step, List.append_assoc]; rfl
theorem str_expand (cs : List Cell) : (strOf cs).flatMap expand = cs := str_fold cs []
theorem str_pos_step {acc : List (Cell × Nat)} {c : Cell} (h : ∀ s ∈ acc, 1 ≤ s.2) : ∀ s ∈ strStep acc c, 1 ≤ s.2 := by
  intro s hs
  unfold strStep at hs
  split at hs
  · split at hs
    · rcases List.mem_append.mp hs with hs | hs
      · exact h s (List.dropLast_subset _ hs)
      · rw [List.mem_singleton.mp hs]; exact Nat.succ_pos _
    · rcases List.mem_append.mp hs with hs | hs
      · exact h s hs
      · rw [List.mem_singleton.mp hs]; exact Nat.le_refl 1
  · rcases List.mem_append.mp hs with hs | hs
    · exact h s hs
    · rw [List.mem_singleton.mp hs]; exact Nat.le_refl 1
theorem str_pos_fold : ∀ (cs : List Cell) (acc : List (Cell × Nat)), (∀ s ∈ acc, 1 ≤ s.2) → ∀ s ∈ cs.foldl strStep acc, 1 ≤ s.2
  | [], acc, h => h
  | c :: cs, acc, h => str_pos_fold cs _ (str_pos_step h)
theorem str_pos (cs : List Cell) : ∀ s ∈ strOf cs, 1 ≤ s.2 := str_pos_fold cs [] fun _ h => (List.not_mem_nil h).elim
theorem expand_len (s : Cell × Nat) : (expand s).length = s.2 := by
  obtain ⟨f, m⟩ := s
  cases f with
  | old k => show ((List.range m).map _).length = m; rw [List.length_map, List.length_range]
  | new b => show (List.replicate m _).length = m; rw [List.length_replicate]
theorem flat_len {l : List (Cell × Nat)} (h : ∀ s ∈ l, 1 ≤ s.2) : l.length ≤ (l.flatMap expand).length ∧ ∀ s ∈ l, s.2 ≤ (l.flatMap expand).length := by
  induction l with
  | nil => exact ⟨Nat.le_refl _, fun s hs => (List.not_mem_nil hs).elim⟩
  | cons x l ih =>
    obtain ⟨i1, i2⟩ := ih fun s hs => h s (List.mem_cons_of_mem _ hs)
    have hx := h x List.mem_cons_self
    rw [List.flatMap_cons, List.length_append, expand_len]
    refine ⟨by rw [List.length_cons]; omega, fun s hs => ?_⟩
    rcases List.mem_cons.mp hs with rfl | hs
    · omega
    · have := i2 s hs; omega
theorem str_len (cs : List Cell) : (strOf cs).length ≤ cs.length := by
  have := (flat_len (str_pos cs)).1
  rw [str_expand] at this; exact this
theorem str_many (cs : List Cell) : ∀ s ∈ strOf cs, s.2 ≤ cs.length := by
  have := (flat_len (str_pos cs)).2
  rw [str_expand] at this; exact this
theorem piece_cells (f : Cell) (m : Nat) : cellsR (pieceOf f m) = expand (f, m) := by
  cases f with
  | old k => show (List.range (m : Int).toNat).map _ = _; rw [Int.toNat_natCast]; rfl
  | new b =>
    show cellsR (if 3 ≤ m then Row.run b m else Row.bring (List.replicate m b)) = List.replicate m (Cell.new b)
    split
    · show List.replicate (m : Int).toNat _ = _; rw [Int.toNat_natCast]
    · show (List.replicate m b).map Cell.new = _; rw [List.map_replicate]
theorem piece_len (f : Cell) (m : Nat) : (pieceOf f m).len = m := by
  cases f with
  | old k => rfl
  | new b =>
    show (if 3 ≤ m then Row.run b m else Row.bring (List.replicate m b)).len = m
    split
    · rfl
    · show ((List.replicate m b).length : Int) = m; rw [List.length_replicate]
theorem cellsOf_app (a b : List Row) : cellsOf (a ++ b) = cellsOf a ++ cellsOf b := List.flatMap_append
theorem cellsOf_one (r : Row) : cellsOf [r] = cellsR r := by show [r].flatMap cellsR = _; rw [List.flatMap_cons, List.flatMap_nil, List.append_nil]
theorem pl_step (acc : List Row) (r : Row) : cellsOf (plStep acc r) = cellsOf acc ++ cellsR r := by
  unfold plStep
  split
  · rename_i bs as h
    have e := last_split h
    rw [cellsOf_app, cellsOf_one]
    conv => rhs; rw [e, cellsOf_app, cellsOf_one, List.append_assoc]
    show _ ++ (as ++ bs).map Cell.new = _ ++ (as.map Cell.new ++ bs.map Cell.new)
    rw [List.map_append]
  · rw [cellsOf_app, cellsOf_one]
theorem pl_fold : ∀ (rs : List Row) (acc : List Row), cellsOf (rs.foldl plStep acc) = cellsOf acc ++ cellsOf rs
  | [], acc => by show cellsOf acc = cellsOf acc ++ []; rw [List.append_nil]
  | r :: rs, acc => by
    rw [List.foldl_cons, pl_fold rs, pl_step, List.append_assoc]
    rfl
theorem pl_pos_step {acc : List Row} {r : Row} (h : ∀ x ∈ acc, 1 ≤ x.len) (hr : 1 ≤ r.len) : ∀ x ∈ plStep acc r, 1 ≤ x.len := by
  intro x hx
  unfold plStep at hx
  split at hx
  · rename_i bs as e
    rcases List.mem_append.mp hx with hx | hx
    · exact h x (List.dropLast_subset _ hx)
    · rw [List.mem_singleton.mp hx]
      have h1 : 1 ≤ (bs.length : Int) := hr
      show 1 ≤ ((as ++ bs).length : Int)
      rw [List.length_append]; omega
  · rcases List.mem_append.mp hx with hx | hx
    · exact h x hx
    · rw [List.mem_singleton.mp hx]; exact hr
theorem pl_pos_fold : ∀ (rs : List Row) (acc : List Row), (∀ x ∈ acc, 1 ≤ x.len) → (∀ x ∈ rs, 1 ≤ x.len) → ∀ x ∈ rs.foldl plStep acc, 1 ≤ x.len
  | [], acc, h, _ => h
  | r :: rs, acc, h, hr => pl_pos_fold rs _ (pl_pos_step h (hr r List.mem_cons_self)) fun x hx => hr x (List.mem_cons_of_mem _ hx)
/-- the plain patch tells the same cells -/
theorem plain_cells (cs : List Cell) : cellsOf (plainOf cs) = cs := by
  unfold plainOf
  rw [pl_fold]
  have e : cellsOf ((strOf cs).map fun s => pieceOf s.1 s.2) = (strOf cs).flatMap expand := by
    show ((strOf cs).map _).flatMap cellsR = _
    rw [List.flatMap_map]
    congr 1
    funext s
    exact piece_cells s.1 s.2
  rw [e, str_expand]
  rfl
theorem plain_pos (cs : List Cell) : ∀ r ∈ plainOf cs, 1 ≤ r.len :=
  pl_pos_fold _ [] (fun _ h => (List.not_mem_nil h).elim) fun x hx => by
    obtain ⟨s, hs, rfl⟩ := List.mem_map.mp hx
    rw [piece_len]
    have := str_pos cs s hs
    omega
theorem ok_of_cells {c : Int} : ∀ {r : Row}, 1 ≤ r.len → Fit c (cellsR r) → r.ok c
  | .copy b n, h, f => by
    have hn : 1 ≤ n := h
    have h0 : Cell.old (b + ((0 : Nat) : Int)) ∈ cellsR (.copy b n) := List.mem_map.mpr ⟨0, List.mem_range.mpr (by omega), rfl⟩
    have h1 : Cell.old (b + ((n.toNat - 1 : Nat) : Int)) ∈ cellsR (.copy b n) := List.mem_map.mpr ⟨n.toNat - 1, List.mem_range.mpr (by omega), rfl⟩
    rcases f _ h0 with ⟨x, e, x0, x1⟩ | ⟨x, e, _⟩
    · rcases f _ h1 with ⟨y, e', y0, y1⟩ | ⟨y, e', _⟩
      · injection e with e
        injection e' with e'
        exact ⟨by omega, hn, by omega⟩
      · cases e'
    · cases e
  | .run b n, h, f => by
    have hn : 1 ≤ n := h
    have h0 : Cell.new b ∈ cellsR (.run b n) := List.mem_replicate.mpr ⟨by omega, rfl⟩
    rcases f _ h0 with ⟨x, e, _⟩ | ⟨x, e, x0, x1⟩
    · cases e
    · injection e with e
      exact ⟨by omega, by omega, hn⟩
  | .bring bs, h, f => ⟨h, fun n hn => by
      rcases f (Cell.new n) (List.mem_map.mpr ⟨n, hn, rfl⟩) with ⟨x, e, _⟩ | ⟨x, e, x0, x1⟩
      · cases e
      · injection e with e
        exact ⟨by omega, by omega⟩⟩
theorem plain_ok {c : Int} {cs : List Cell} (f : Fit c cs) : ∀ r ∈ plainOf cs, r.ok c := fun r hr =>
  ok_of_cells (plain_pos cs r hr) fun cl hcl => f cl (by rw [← plain_cells cs]; exact List.mem_flatMap.mpr ⟨r, hr, hcl⟩)
theorem plain_total {c : Int} {cs : List Cell} (f : Fit c cs) : total (plainOf cs) = cs.length := by
  have := cellsOf_len (plain_ok f)
  rw [plain_cells] at this
  exact this.symm
theorem plain_good {cs : List Cell} (f : Fit 200 cs) (h : cs.length ≤ 200) : Good (plainOf cs) := ⟨plain_ok f, by rw [plain_total f]; omega⟩
theorem plain_plain (cs : List Cell) : plainOf (cellsOf (plainOf cs)) = plainOf cs := by rw [plain_cells]
theorem ends_mem : ∀ {l : List Row} {y : Int}, y ∈ endsOf l → ∃ b n, Row.copy b n ∈ l ∧ y = b + n
  | [], y, h => (List.not_mem_nil h).elim
  | .copy b n :: l, y, h => by
    rcases List.mem_cons.mp h with rfl | h
    · exact ⟨b, n, List.mem_cons_self, rfl⟩
    · obtain ⟨b', n', h1, h2⟩ := ends_mem h
      exact ⟨b', n', List.mem_cons_of_mem _ h1, h2⟩
  | .run b n :: l, y, h => by
    obtain ⟨b', n', h1, h2⟩ := ends_mem (l := l) h
    exact ⟨b', n', List.mem_cons_of_mem _ h1, h2⟩
  | .bring bs :: l, y, h => by
    obtain ⟨b', n', h1, h2⟩ := ends_mem (l := l) h
    exact ⟨b', n', List.mem_cons_of_mem _ h1, h2⟩
theorem mem_ends : ∀ {l : List Row} {b n : Int}, Row.copy b n ∈ l → b + n ∈ endsOf l
  | .copy b' n' :: l, b, n, h => by
    rcases List.mem_cons.mp h with h | h
    · injection h with h1 h2
      subst h1 h2
      exact List.mem_cons_self
    · exact List.mem_cons_of_mem _ (mem_ends h)
  | .run b' n' :: l, b, n, h => by
    rcases List.mem_cons.mp h with h | h
    · cases h
    · exact mem_ends (l := l) h
  | .bring bs :: l, b, n, h => by
    rcases List.mem_cons.mp h with h | h
    · cases h
    · exact mem_ends (l := l) h
theorem needs_le {c e : Int} {a b : List Row} (ha : ∀ r ∈ a, r.ok c) (hb : ∀ r ∈ b, r.ok e) (h : ∀ cl ∈ cellsOf a, cl ∈ cellsOf b) : needsOf a ≤ needsOf b := by
  rcases top0_is (endsOf a) with h0 | h0
  · show top0 (endsOf a) ≤ _
    rw [h0]; exact top0_nn _
  · obtain ⟨x, n, hm, en⟩ := ends_mem h0
    have ho := ha _ hm
    have hx := ho.1
    have hn := ho.2.1
    have hc : Cell.old (x + ((n.toNat - 1 : Nat) : Int)) ∈ cellsOf a := List.mem_flatMap.mpr ⟨_, hm, List.mem_map.mpr ⟨n.toNat - 1, List.mem_range.mpr (by omega), rfl⟩⟩
    obtain ⟨r, hr, hcr⟩ := List.mem_flatMap.mp (h _ hc)
    cases r with
    | copy y k =>
      obtain ⟨i, hi, e⟩ := List.mem_map.mp hcr
      have hi := List.mem_range.mp hi
      injection e with e
      have ho2 := hb _ hr
      have hy := ho2.1
      have hk := ho2.2.1
      have hle := top0_ge (mem_ends hr)
      show top0 (endsOf a) ≤ top0 (endsOf b)
      omega
    | run y k => cases List.eq_of_mem_replicate hcr
    | bring bs => obtain ⟨_, _, e⟩ := List.mem_map.mp hcr; cases e
theorem needs_alike {c e : Int} {a b : List Row} (ha : ∀ r ∈ a, r.ok c) (hb : ∀ r ∈ b, r.ok e) (h : cellsOf a = cellsOf b) : needsOf a = needsOf b :=
  Int.le_antisymm (needs_le ha hb fun cl hcl => by rw [← h]; exact hcl) (needs_le hb ha fun cl hcl => by rw [h]; exact hcl)
theorem ok_needs_of {c : Int} {l : List Row} (h : ∀ r ∈ l, r.ok c) : ∀ r ∈ l, r.ok (needsOf l) := fun r hr => by
  have ho := h r hr
  cases r with
  | copy b n => exact ⟨ho.1, ho.2.1, top0_ge (mem_ends hr)⟩
  | run b n => exact ho
  | bring bs => exact ho
/-! ### joined -/
def backC (ahead : List Cell) : Cell → Cell
  | .old k => ahead.getD k.toNat (.new 0)
  | .new b => .new b
def ledBack (cs ahead : List Cell) : List Cell := cs.map (backC ahead)
def joinC (first : List Row) (rest : List (List Row)) : List Cell := rest.foldl (fun told rows => ledBack (cellsOf rows) told) (cellsOf first)
/-- each for what the one ahead makes -/
def Meets2 : List Row → List (List Row) → Prop
  | _, [] => True
  | a, b :: l => needsOf b ≤ total a ∧ Meets2 b l
theorem led_len (cs ahead : List Cell) : (ledBack cs ahead).length = cs.length := by unfold ledBack; rw [List.length_map]
theorem led_fit {c e : Int} {cs ahead : List Cell} (hc : Fit c cs) (hle : c ≤ ahead.length) (ha : Fit e ahead) : Fit e (ledBack cs ahead) := fun cl hcl => by
  obtain ⟨x, hx, rfl⟩ := List.mem_map.mp hcl
  rcases hc x hx with ⟨n, rfl, n0, n1⟩ | ⟨b, rfl, b0, b1⟩
  · have jl : n.toNat < ahead.length := by omega
    refine ha _ ?_
    show ahead.getD n.toNat (.new 0) ∈ ahead
    rw [List.getD_eq_getElem?_getD, List.getElem?_eq_getElem jl]
    exact List.getElem_mem jl
  · exact .inr ⟨b, rfl, b0, b1⟩
/-! ### == and != of the program's data -/
/-- the same data, of nesting below n -/
def Sd (K : PySem.W.Frag) (H : Hp) : Nat → V → V → Prop
  | 0, _, _ => False
  | n + 1, x, y => (x = y ∧ flatB x = true) ∨ (∃ a, x = .ref a ∧ y = .ref a) ∨ ∃ a b xs ys, x = .ref a ∧ y = .ref b ∧ ((SqT K H a xs ∧ SqT K H b ys) ∨ (SqL K H a xs ∧ SqL K H b ys)) ∧ Paired (Sd K H n) xs ys
theorem sd_items {A : Around} {s : Shared} {F : V → V → Prop} (ih : ∀ x y v u, F x y → RelV x v → RelV y u → SeqAt.EqAt A s v u true) : ∀ {xs ys : List V}, Paired F xs ys →
    ∀ {us ws : List Value}, Vals xs us → Vals ys ws → ∀ j (h1 : j < us.length) (h2 : j < ws.length), SeqAt.EqAt A s us[j] ws[j] true
  | _, _, .nil, _, _, .nil, _, j, h1, _ => absurd h1 (Nat.not_lt_zero j)
  | _, _, .cons h _, _, _, .cons a _, .cons b _, 0, _, _ => ih _ _ _ _ h a b
  | _, _, .cons _ t, _, _, .cons _ a, .cons _ b, j + 1, h1, h2 => sd_items ih t a b j (Nat.lt_of_succ_lt_succ h1) (Nat.lt_of_succ_lt_succ h2)
section
variable {X : Cx} {pins : List (Addr × Obj)} {σ : L2.St} {H : Hp} {s : Shared}
theorem all_true (n : Nat) : ((List.range n).all fun _ => true) = true := List.all_eq_true.mpr fun _ _ => rfl
theorem sd_run (I : Inv X pins σ H s) : ∀ (n : Nat) (A : Around), A.units + n < cLine → ∀ (x y : V) (v u : Value), Sd X.K H n x y → RelV x v → RelV y u → SeqAt.EqAt A s v u true
  | 0, _, _, _, _, _, _, h, _, _ => h.elim
  | n + 1, A, hu, x, y, v, u, h, rx, ry => by
    rcases h with ⟨rfl, f⟩ | ⟨a, rfl, rfl⟩ | ⟨a, b, xs, ys, rfl, rfl, h, hp⟩
    · exact eqAt_same rx ry f
    · cases (show v = Value.ref a from rx)
      cases (show u = Value.ref a from ry)
      exact SeqAt.EqAt.same _
    · cases (show v = Value.ref a from rx)
      cases (show u = Value.ref b from ry)
      by_cases e : a = b
      · subst e; exact SeqAt.EqAt.same _
      · have rc : SeqAt.RcAt A s (.ref a) (.ref b) true := by
          rcases h with ⟨ha, hb⟩ | ⟨ha, hb⟩
          · obtain ⟨us, r1, p1, _⟩ := I.tuple ha
            obtain ⟨ws, r2, p2, _⟩ := I.tuple hb
            have hsz : us.toArray.size = ws.toArray.size := by rw [List.size_toArray, List.size_toArray, ← r1.length, ← r2.length]; exact Paired.length hp
            have z := SeqAt.RcAt.tuples (A := A) (e := fun _ => true) (show s.heap.IsTuple a us.toArray from p1) (show s.heap.IsTuple b ws.toArray from p2) (by omega) (fun j h1 h2 => by
              have k := sd_items (fun x y v u h rx ry => sd_run I n A.in1 (by show A.units + 1 + n < cLine; omega) x y v u h rx ry) hp r1 r2 j (by simpa using h1) (by simpa using h2)
              simpa using k)
            rw [all_true, hsz] at z
            simpa using z
          · obtain ⟨us, r1, p1, _⟩ := I.list ha
            obtain ⟨ws, r2, p2, _⟩ := I.list hb
            have hsz : us.toArray.size = ws.toArray.size := by rw [List.size_toArray, List.size_toArray, ← r1.length, ← r2.length]; exact Paired.length hp
            have z := SeqAt.RcAt.lists (A := A) (e := fun _ => true) p1.isList p2.isList hsz (by omega) (fun j h1 h2 => by
              have k := sd_items (fun x y v u h rx ry => sd_run I n A.in1 (by show A.units + 1 + n < cLine; omega) x y v u h rx ry) hp r1 r2 j (by simpa using h1) (by simpa using h2)
              simpa using k)
            rw [all_true] at z
            exact z
        intro prog w E Q hq
        unfold eqBool
        refine wpAny_holding ?_
        refine wpAny_ite_split (fun hab => absurd (by have := eq_of_beq hab; injection this) e) (fun _ => ?_)
        exact wpAny_bind (rc prog w E _ (wpAny_truthy_bool hq))
end
/-- a != b of two tuples, or two lists, that are the same -/
def rNeS (K : PySem.W.Frag) : R2 := fun x y H Q => ∃ a b xs ys, x = .ref a ∧ y = .ref b ∧ ((SqT K H a xs ∧ SqT K H b ys) ∨ (SqL K H a xs ∧ SqL K H b ys)) ∧ Paired (Sd K H 60) xs ys ∧ Q (.bl false) H
theorem op_neS {X : Cx} (hu : X.A.units + 64 < cLine) : OpR X (compareOp .NotEq) (rNeS X.K) := by
  intro pins s σ H x y v u Q I rx ry h
  obtain ⟨a, b, xs, ys, rfl, rfl, h, hp, q⟩ := h
  cases (show v = Value.ref a from rx)
  cases (show u = Value.ref b from ry)
  have fin : EP X pins σ Q (.bool false) s := ⟨.bl false, H, I, rfl, q⟩
  have items : ∀ {us ws : List Value}, Vals xs us → Vals ys ws → ∀ j (h1 : j < us.toArray.size) (h2 : j < ws.toArray.size), SeqAt.EqAt X.A.in1 s us.toArray[j] ws.toArray[j] true := fun {us ws} r1 r2 j h1 h2 => by
    have k := sd_items (fun x y v u h rx ry => sd_run I 60 X.A.in1 (by show X.A.units + 1 + 60 < cLine; omega) x y v u h rx ry) hp r1 r2 j (by simpa using h1) (by simpa using h2)
    simpa using k
  rcases h with ⟨ha, hb⟩ | ⟨ha, hb⟩
  · obtain ⟨us, r1, p1, _⟩ := I.tuple ha
    obtain ⟨ws, r2, p2, _⟩ := I.tuple hb
    have hsz : us.toArray.size = ws.toArray.size := by rw [List.size_toArray, List.size_toArray, ← r1.length, ← r2.length]; exact Paired.length hp
    have z := SeqAt.RcNeAt.tuples (A := X.A) (e := fun _ => true) (show s.heap.IsTuple a us.toArray from p1) (show s.heap.IsTuple b ws.toArray from p2) (by omega) (items r1 r2)
    rw [all_true, hsz] at z
    exact z X.prog X.w _ _ (by simpa using fin)
  · obtain ⟨us, r1, p1, _⟩ := I.list ha
    obtain ⟨ws, r2, p2, _⟩ := I.list hb
    have hsz : us.toArray.size = ws.toArray.size := by rw [List.size_toArray, List.size_toArray, ← r1.length, ← r2.length]; exact Paired.length hp
    have z := SeqAt.RcNeAt.lists (A := X.A) (e := fun _ => true) p1.isList p2.isList hsz (by omega) (items r1 r2)
    rw [all_true] at z
    exact z X.prog X.w _ _ fin
section
variable {K : PySem.W.Frag} {H : Hp}
theorem Sd.flat {n : Nat} : ∀ {xs : List V}, (∀ x ∈ xs, flatB x = true) → Paired (Sd K H (n + 1)) xs xs
  | [], _ => .nil
  | x :: xs, h => .cons (.inl ⟨rfl, h x List.mem_cons_self⟩) (Sd.flat fun y hy => h y (List.mem_cons_of_mem _ hy))
theorem Sd.cell {n : Nat} {v u : V} {c : Cell} (h : CellV H v c) (h' : CellV H u c) : Sd K H (n + 2) v u := by
  obtain ⟨p, rfl, hp⟩ := h
  obtain ⟨q, rfl, hq⟩ := h'
  refine .inr (.inr ⟨p, q, _, _, rfl, rfl, .inl ⟨SqT.of hp, SqT.of hq⟩, Sd.flat ?_⟩)
  cases c <;> (intro x hx; simp [Cell.tup] at hx; rcases hx with rfl | rfl <;> rfl)
theorem Sd.piece {n : Nat} {v u : V} {r : Row} (h : PieceV H v r) (h' : PieceV H u r) : Sd K H (n + 2) v u := by
  obtain ⟨p, rfl, hp⟩ := h
  obtain ⟨q, rfl, hq⟩ := h'
  refine .inr (.inr ⟨p, q, _, _, rfl, rfl, .inl ⟨SqT.of hp, SqT.of hq⟩, Sd.flat ?_⟩)
  cases r with
  | copy b n => intro x hx; simp [Row.tup] at hx; rcases hx with rfl | rfl | rfl <;> rfl
  | run b n => intro x hx; simp [Row.tup] at hx; rcases hx with rfl | rfl | rfl <;> rfl
  | bring bs => intro x hx; simp [Row.tup] at hx; rcases hx with rfl | rfl <;> rfl
theorem Sd.pairs {α : Type} {F : V → α → Prop} {n : Nat} (f : ∀ v u c, F v c → F u c → Sd K H n v u) : ∀ {vs us : List V} {cs : List α}, Paired F vs cs → Paired F us cs → Paired (Sd K H n) vs us
  | _, _, _, .nil, .nil => .nil
  | _, _, _, .cons a r, .cons b t => .cons (f _ _ _ a b) (Sd.pairs f r t)
end
theorem pairedSnoc {α β : Type} {F : α → β → Prop} {x : α} {y : β} : ∀ {a : List α} {b : List β}, Paired F (a ++ [x]) (b ++ [y]) → Paired F a b ∧ F x y
  | [], [], .cons h _ => ⟨.nil, h⟩
  | [], _ :: b, h => by have := Paired.length h; simp at this
  | _ :: a, [], h => by have := Paired.length h; simp at this
  | _ :: a, _ :: b, .cons h t => let ⟨p, q⟩ := pairedSnoc (a := a) (b := b) t; ⟨.cons h p, q⟩
/-! ### plain patches: the promises -/
def StrV (H : Hp) (v : V) (s : Cell × Nat) : Prop := ∃ p t, v = .ref p ∧ H p = some (.tup [.ref t, .int s.2]) ∧ H t = some (.tup s.1.tup)
theorem StrV.tups {H H' : Hp} {v : V} {s : Cell × Nat} (t : Tups H H') (h : StrV H v s) : StrV H' v s := let ⟨p, q, e, x, y⟩ := h; ⟨p, q, e, t _ _ x, t _ _ y⟩
def spGoesOn : Sp := fun vs H Q _ => ∃ (p q t : Addr) (f : Cell) (m : Nat) (c : Cell), vs = [.ref p, .ref q] ∧ H p = some (.tup [.ref t, .int m]) ∧ H t = some (.tup f.tup) ∧ H q = some (.tup c.tup) ∧ ∀ H', Same H H' → Q (.bl (goesB f m c)) H'
def spPlainPiece : Sp := fun vs H Q _ => ∃ (q : Addr) (c : Cell) (m : Nat), vs = [.ref q, .int m] ∧ H q = some (.tup c.tup) ∧ m ≤ 1000 ∧ (∀ b, c = .new b → 0 ≤ b ∧ b < 256) ∧ ∀ H' p, Same H H' → H p = none → H' p = some (.tup (pieceOf c m).tup) → Q (.ref p) H'
def spStretches : Sp := fun vs H Q _ => ∃ (p : Addr) (cs : List Cell), vs = [.ref p] ∧ CellsAt H p cs ∧ cs.length ≤ 1000 ∧ ∀ H' q ws, Same H H' → H q = none → H' q = some (.lst ws) → Paired (StrV H') ws (strOf cs) → Q (.ref q) H'
def spPlainOf : Sp := fun vs H Q _ => ∃ (p : Addr) (cs : List Cell), vs = [.ref p] ∧ CellsAt H p cs ∧ cs.length ≤ 200 ∧ Fit 200 cs ∧ ∀ H' v, Same H H' → PatchAt H' v (plainOf cs) → Q v H'
def spPlain : Sp := fun vs H Q _ => ∃ (v : V) (rows : List Row), vs = [v] ∧ PatchAt H v rows ∧ Good rows ∧ ∀ H' v', Same H H' → PatchAt H' v' (plainOf (cellsOf rows)) → Q v' H'
def spLedBack : Sp := fun vs H Q _ => ∃ (p q : Addr) (cs ahead : List Cell), vs = [.ref p, .ref q] ∧ CellsAt H p cs ∧ CellsAt H q ahead ∧ Fit ahead.length cs ∧ cs.length ≤ 1000 ∧ ∀ H' r, Same H H' → H r = none → CellsAt H' r (ledBack cs ahead) → Q (.ref r) H'
def PatchesAt (H : Hp) (p : Addr) (rss : List (List Row)) : Prop := ∃ vs, H p = some (.lst vs) ∧ Paired (PatchAt H) vs rss
theorem PatchesAt.same {H H' : Hp} {p : Addr} {rss : List (List Row)} (s : Same H H') (h : PatchesAt H p rss) : PatchesAt H' p rss := let ⟨vs, e, r⟩ := h; ⟨vs, s _ _ e, pairedMap r fun _ _ x => x.tups (Same.tups s)⟩
def spJoined : Sp := fun vs H Q _ => ∃ (p : Addr) (first : List Row) (rest : List (List Row)), vs = [.ref p] ∧ PatchesAt H p (first :: rest) ∧ (∀ rows ∈ first :: rest, Good rows) ∧ Meets2 first rest ∧ rest.length ≤ 1000 ∧ ∀ H' v, Same H H' → PatchAt H' v (plainOf (joinC first rest)) → Q v H'
theorem cell_eqv (c d : Cell) : ∀ {k k' : PyData}, k = (match c with | .old k => PyData.tuple [.str "old", .int k] | .new b => .tuple [.str "new", .int b]) → k' = (match d with | .old k => PyData.tuple [.str "old", .int k] | .new b => .tuple [.str "new", .int b]) → PyData.eqv k k' = decide (c = d) := by
  intro k k' e e'
  subst e e'
  have h1 : ("old" : Str) ≠ "new" := by decide
  have h2 : ("new" : Str) ≠ "old" := by decide
  cases c <;> cases d <;> simp [PyData.eqv, PyData.eqvAll, h1, h2] <;> (rw [Bool.eq_iff_iff]; simp)
theorem cell_shaped (x : Str) (k : Int) (h : SeqAt.shaped (.str x) = true) : SeqAt.shaped (.tuple [.str x, .int k]) = true := by
  simp [SeqAt.shaped, PyData.canLay0, PyData.canLayAll0, PyData.depth, PyData.depthAll] at h ⊢
  exact h
theorem dp_cell {K : PySem.W.Frag} {H : Hp} {p : Addr} {x : Str} {k : Int} (h : H p = some (.tup [.str x, .int k])) : Dp K H (.ref p) (.tuple [.str x, .int k]) :=
  Dp.tup (SqT.of h) (.cons (.str x) (.cons (.int k) .nil))
section
variable {P : Program} {w : World} {K : PySem.W.Frag} {mg : Str → Option Value} {base : Heap}
theorem ok_goes_on (T : All K mg) : FnOk P w K mg base CX0 1 T.d_goes_on.f T.d_goes_on.fd ["stretch", "cell"] spGoesOn := by
  refine T.d_goes_on.F.ok sc_goes_on (fun vs H Q E h => ?_) (fun cdv A outer s H vs Q E hr h => ?_)
  · obtain ⟨p, q, _, _, _, _, rfl, _⟩ := h
    rfl
  · obtain ⟨p, q, t, f, m, c, rfl, hp, ht, hq, k⟩ := h
    refine ⟨_, (pss_cons 
      (ps_asg (pv 0) (pg_tup rfl (pgs_cons (pg_tup rfl (pgs_cons (pg_name (i := 2) sc_goes_on.nd rfl (Or.inl rfl)) (pgs_cons (pg_name (i := 3) sc_goes_on.nd rfl (Or.inl rfl)) pgs_nil))) (pgs_cons (pg_name (i := 4) sc_goes_on.nd rfl (Or.inl rfl)) pgs_nil)))) (pss_cons 
      (ps_if (pt_cmpR op_eq (pv 2) pe_str (nomark _)) (pss_one 
      (ps_ret (pe_cmpR (op_eqD hr.units) (pv 1) (pe_tup (pa_cons pe_str (pa_cons (pe_op op_add (pv 3) (pv 4)) pa_nil))) (nomark _)))) pss_nil) (pss_one 
      (ps_ret (pe_cmpR (op_eqD hr.units) (pv 1) (pe_tup (pa_cons pe_str (pa_cons (pv 3) pa_nil))) (nomark _)))))), ?_⟩
    have so : SeqAt.shaped (.str "old") = true := by decide +kernel
    have sn : SeqAt.shaped (.str "new") = true := by decide +kernel
    cases f with
    | old z =>
      refine ⟨_, rfl, p, _, rfl, SqT.of hp, rfl, _, _, rfl, ⟨t, _, rfl, SqT.of ht, rfl, _, _, rfl, _, _, rfl, rfl, _, _, rfl, rfl, ?_⟩⟩
      refine ⟨_, rfl, rfl, _, rfl, ite2 (fun _ => ?_) fun h => absurd (by decide) h⟩
      refine ⟨_, rfl, _, rfl, _, rfl, _, _, rfl, rfl, sizeS (by show 2 ≤ 100000; decide), fun l hl => ?_⟩
      have kk := k _ (Same.new (o := .tup [.str "old", .int (z + m)]) hl)
      have hq' := Same.new (o := .tup [.str "old", .int (z + m)]) hl _ _ hq
      cases c with
      | old y =>
        refine ⟨_, _, dp_cell hq', dp_cell upd_same, cell_shaped _ _ so, cell_shaped _ _ so, ?_⟩
        rw [cell_eqv (.old y) (.old (z + m)) rfl rfl]
        exact kk
      | new y =>
        refine ⟨_, _, dp_cell hq', dp_cell upd_same, cell_shaped _ _ sn, cell_shaped _ _ so, ?_⟩
        rw [cell_eqv (.new y) (.old (z + m)) rfl rfl]
        exact kk
    | new z =>
      refine ⟨_, rfl, p, _, rfl, SqT.of hp, rfl, _, _, rfl, ⟨t, _, rfl, SqT.of ht, rfl, _, _, rfl, _, _, rfl, rfl, _, _, rfl, rfl, ?_⟩⟩
      refine ⟨_, rfl, rfl, _, rfl, ite2 (fun h => absurd h (by decide)) fun _ => ?_⟩
      refine ⟨_, rfl, _, rfl, sizeS (by show 2 ≤ 100000; decide), fun l hl => ?_⟩
      have kk := k _ (Same.new (o := .tup [.str "new", .int z]) hl)
      have hq' := Same.new (o := .tup [.str "new", .int z]) hl _ _ hq
      cases c with
      | old y =>
        refine ⟨_, _, dp_cell hq', dp_cell upd_same, cell_shaped _ _ so, cell_shaped _ _ sn, ?_⟩
        rw [cell_eqv (.old y) (.new z) rfl rfl]
        exact kk
      | new y =>
        refine ⟨_, _, dp_cell hq', dp_cell upd_same, cell_shaped _ _ sn, cell_shaped _ _ sn, ?_⟩
        rw [cell_eqv (.new y) (.new z) rfl rfl]
        exact kk
theorem ok_plain_piece (T : All K mg) : FnOk P w K mg base CX0 1 T.d_plain_piece.f T.d_plain_piece.fd ["cell", "many"] spPlainPiece := by
  refine T.d_plain_piece.F.ok sc_plain_piece (fun vs H Q E h => ?_) (fun cdv A outer s H vs Q E hr h => ?_)
  · obtain ⟨q, _, _, rfl, _⟩ := h
    rfl
  · obtain ⟨q, c, m, rfl, hq, hm, hb, k⟩ := h
    refine ⟨_, (pss_cons 
      (ps_asg (pv 0) (pg_tup rfl (pgs_cons (pg_name (i := 2) sc_plain_piece.nd rfl (Or.inl rfl)) (pgs_cons (pg_name (i := 3) sc_plain_piece.nd rfl (Or.inl rfl)) pgs_nil)))) (pss_cons 
      (ps_if (pt_cmpR op_eq (pv 2) pe_str (nomark _)) (pss_one 
      (ps_ret (pe_tup (pa_cons pe_str (pa_cons (pv 3) (pa_cons (pv 1) pa_nil)))))) pss_nil) (pss_cons 
      (ps_if (pt_cmpR op_ge (pv 1) (pe_glob (v := .int 3) rfl T.c_LEAST_RUN ⟨_, rfl⟩) (nomark _)) (pss_one 
      (ps_ret (pe_tup (pa_cons pe_str (pa_cons (pv 3) (pa_cons (pv 1) pa_nil)))))) pss_nil) (pss_one 
      (ps_ret (pe_tup (pa_cons pe_str (pa_cons (pe_bytesOf rfl (by rfl) T.b_bytes (pe_op op_rep (pe_lst (pa_cons (pv 3) pa_nil)) (pv 1))) pa_nil)))))))), ?_⟩
    cases c with
    | old z =>
      refine ⟨_, rfl, q, _, rfl, SqT.of hq, rfl, _, _, rfl, _, _, rfl, rfl, ?_⟩
      refine ⟨_, rfl, rfl, _, rfl, ite2 (fun _ => ?_) fun h => absurd (by decide) h⟩
      refine ⟨_, rfl, _, rfl, sizeS (by show 3 ≤ 100000; decide), fun l hl => ?_⟩
      exact k _ l (Same.new hl) hl upd_same
    | new z =>
      refine ⟨_, rfl, q, _, rfl, SqT.of hq, rfl, _, _, rfl, _, _, rfl, rfl, ?_⟩
      refine ⟨_, rfl, rfl, _, rfl, ite2 (fun h => absurd h (by decide)) fun _ => ?_⟩
      refine ⟨_, rfl, _, _, rfl, rfl, _, rfl, ite2 (fun h => ?_) fun h => ?_⟩
      · have h3 : 3 ≤ m := by have : (3 : Int) ≤ m := of_decide_eq_true h; omega
        refine ⟨_, rfl, _, rfl, sizeS (by show 3 ≤ 100000; decide), fun l hl => ?_⟩
        exact k _ l (Same.new hl) hl (by show upd _ _ _ _ = some (.tup (if 3 ≤ m then Row.run z m else Row.bring (List.replicate m z)).tup); rw [if_pos h3]; exact upd_same)
      · have h3 : ¬ 3 ≤ m := fun z => h (decide_eq_true (show (3 : Int) ≤ m by omega))
        have hz := hb z rfl
        refine ⟨_, rfl, sizeS (by show 1 ≤ 100000; decide), fun l hl => ⟨_, rfl, l, _, _, rfl, rfl, upd_same, by omega, by omega, sizeS (by show 1 * (m : Int).toNat ≤ 100000; omega), fun r hr => ?_⟩⟩
        have e : (List.replicate (m : Int).toNat [V.int z]).flatten = List.map V.int (List.replicate m z) := by rw [rep_flat, Int.toNat_natCast, List.map_replicate]
        refine .inr ⟨r, List.replicate m z, rfl, ?_, fun n hn => by rw [List.eq_of_mem_replicate hn]; exact hz, sizeS (by show 2 ≤ 100000; decide), fun t ht => ?_⟩
        · rw [e]; exact SqL.of upd_same
        · refine k _ t ((Same.new hl).trans ((Same.new hr).trans (Same.new ht))) (((Same.new hl).trans (Same.new hr)).free ht) ?_
          show upd _ _ _ _ = some (.tup (if 3 ≤ m then Row.run z m else Row.bring (List.replicate m z)).tup)
          rw [if_neg h3]; exact upd_same
theorem ok_stretches (T : All K mg) : FnOk P w K mg base CX0 2 T.d_stretches.f T.d_stretches.fd ["told"] spStretches := by
  have G_goes_on : FnOk P w K mg base CX0 1 T.d_goes_on.f T.d_goes_on.fd ["stretch", "cell"] spGoesOn := ok_goes_on T
  refine T.d_stretches.F.ok sc_stretches (fun vs H Q E h => ?_) (fun cdv A outer s H vs Q E hr h => ?_)
  · obtain ⟨p, _, rfl, _⟩ := h
    rfl
  · obtain ⟨p, cs, rfl, ⟨vs, hv, hpr⟩, hlen, k⟩ := h
    refine ⟨_, (pss_cons 
      (ps_set (i := 1) sc_stretches.nd rfl (Or.inl rfl) (pe_lst pa_nil)) (pss_cons 
      (ps_for PassesOwn.never rfl (pi_list (pv 0)) (pg_name (i := 2) sc_stretches.nd rfl (Or.inl rfl)) (pss_one 
      (ps_if (PW.pt (pw_and (pt_truth (pv 1) (by intro _; rfl)) (pw_and1 (pt_val (pe_call G_goes_on (hr.mono (by decide)) rfl T.d_goes_on.m T.d_goes_on.F.kp T.d_goes_on.b .nil pass0 (pa_cons (pe_ix ix_list (pv 1) (pe_un un_neg pe_int) (fun _ _ => rfl)) (pa_cons (pv 2) pa_nil))))))) (pss_cons 
      (ps_asg (pe_bm0 PySem.F.plainAttrs_list PySem.F.slot_list_pop PySem.F.type_list_pop mt_pop (pv 1)) (pg_tup rfl (pgs_cons (pg_name (i := 3) sc_stretches.nd rfl (Or.inl rfl)) (pgs_cons (pg_name (i := 4) sc_stretches.nd rfl (Or.inl rfl)) pgs_nil)))) (pss_one 
      (ps_expr (pe_bm PySem.F.plainAttrs_list PySem.F.slot_list_append PySem.F.type_list_append mt_append (pv 1) (pa_cons (pe_tup (pa_cons (pv 3) (pa_cons (pe_op op_add (pv 4) pe_int) pa_nil))) pa_nil))))) (pss_one 
      (ps_expr (pe_bm PySem.F.plainAttrs_list PySem.F.slot_list_append PySem.F.type_list_append mt_append (pv 1) (pa_cons (pe_tup (pa_cons (pv 2) (pa_cons pe_int pa_nil))) pa_nil))))))) (pss_one 
      (ps_ret (pv 1))))), ?_⟩
    refine ⟨sizeS (by show 0 ≤ 100000; decide), fun f hf => ?_⟩
    refine ⟨_, rfl, p, rfl, ⟨vs, SqL.of (Same.new hf _ _ hv)⟩, for_list (K := K) (a := p) (xs := vs) (fun i σ H2 => ∃ (ws : List V) (v2 v3 v4 : Option V), σ = [some (.ref p), some (.ref f), v2, v3, v4] ∧ Same H H2 ∧ H2 f = some (.lst ws) ∧ Paired (StrV H2) ws (strOf (cs.take i)))
      ⟨[], none, none, none, rfl, Same.new hf, upd_same, .nil⟩ (fun i σ H2 _ ⟨_, _, _, _, _, s2, _⟩ => SqL.of (s2 _ _ hv)) ?_ ?_⟩
    · rintro i x σ H2 hi ⟨ws, v2, v3, v4, rfl, s2, hw, pw⟩
      obtain ⟨c, hc, q, rfl, hq⟩ := pairedAt hpr hi
      have hq2 := s2 _ _ hq
      have il : i < cs.length := (List.getElem?_eq_some_iff.mp hc).1
      have wl : ws.length ≤ i := by
        rw [Paired.length pw]
        have := str_len (cs.take i)
        rw [List.length_take] at this; omega
      have es : strOf (cs.take (i + 1)) = strStep (strOf (cs.take i)) c := by
        unfold strOf
        rw [take_snoc hc, List.foldl_append]; rfl
      -- behind an append of a new pair to ws'
      have fin : ∀ (H3 : Hp) (ws' : List V) (ss : List (Cell × Nat)) (t r : Addr) (g : Cell) (m : Nat), Same H H3 → H3 f = some (.lst ws') → Paired (StrV H3) ws' ss → H3 r = some (.tup g.tup) → H3 t = none → ss ++ [(g, m)] = strOf (cs.take (i + 1)) →
          Same H (upd (upd H3 t (.tup [.ref r, .int m])) f (.lst (ws' ++ [.ref t]))) ∧ Paired (StrV (upd (upd H3 t (.tup [.ref r, .int m])) f (.lst (ws' ++ [.ref t])))) (ws' ++ [.ref t]) (strOf (cs.take (i + 1))) := by
        intro H3 ws' ss t r g m s3 hw3 pw3 hr3 ht e
        have hw4 := Same.new (o := .tup [.ref r, .int m]) ht _ _ hw3
        refine ⟨fun b o z => ?_, ?_⟩
        · rw [upd_ne (ne_of_none z hf)]; exact Same.new ht _ _ (s3 _ _ z)
        · rw [← e]
          exact pairedApp (pairedMap pw3 fun _ _ x => (x.tups (Same.tups (Same.new ht))).tups (Tups.lst hw4)) (.cons ⟨t, r, rfl, Tups.lst hw4 _ _ upd_same, Tups.lst hw4 _ _ (Same.new ht _ _ hr3)⟩ .nil)
      refine ⟨_, rfl, !ws.isEmpty, .inl ⟨ws, SqL.of hw, rfl⟩, ?_⟩
      rcases List.eq_nil_or_concat ws with e | ⟨ws0, y, e⟩
      · subst e
        have es0 : strOf (cs.take i) = [] := List.length_eq_zero_iff.mp (Paired.length pw).symm
        refine iteF (iteF ?_)
        refine ⟨_, rfl, .inl ⟨rfl, _, SqL.of hw⟩, _, rfl, sizeS (by show 2 ≤ 100000; decide), fun t ht => ?_⟩
        obtain ⟨q1, q2⟩ := fin H2 [] [] t q c 1 s2 hw .nil hq2 ht (by rw [es, es0]; rfl)
        exact ⟨f, [], _, rfl, rfl, Same.new ht _ _ hw, sizeL (by show 0 ≤ 100000; decide), _, _, _, _, rfl, q1, upd_same, q2⟩
      · rw [List.concat_eq_append] at e
        subst e
        obtain ⟨ss, sl, ess⟩ : ∃ ss sl, strOf (cs.take i) = ss ++ [sl] := by
          have := Paired.length pw
          rcases List.eq_nil_or_concat (strOf (cs.take i)) with z | ⟨a, b, z⟩
          · rw [z, List.length_append] at this; simp at this
          · exact ⟨a, b, by rw [z, List.concat_eq_append]⟩
        rw [ess] at pw es
        have psplit : Paired (StrV H2) ws0 ss ∧ StrV H2 y sl := pairedSnoc pw
        obtain ⟨pw0, t0, r0, rfl, ht0, hr0⟩ := psplit
        obtain ⟨g, m⟩ := sl
        have ee : (!(ws0 ++ [V.ref t0]).isEmpty) = true := by cases ws0 <;> rfl
        rw [ee]
        refine iteT ?_
        refine ⟨_, rfl, _, rfl, f, _, _, _, rfl, rfl, SqL.of hw, atI_last _ _, _, rfl, t0, q, r0, g, m, c, rfl, ht0, hr0, hq2, fun H3 s3 => ⟨_, rfl, ?_⟩⟩
        have st : strStep (ss ++ [(g, m)]) c = if goesB g m c = true then ss ++ [(g, m + 1)] else ss ++ [(g, m)] ++ [(c, 1)] := by
          unfold strStep
          rw [List.getLast?_concat]
          show (if goesB g m c = true then (ss ++ [(g, m)]).dropLast ++ [(g, m + 1)] else _) = _
          rw [List.dropLast_concat]
        rw [st] at es
        have hw3 := s3 _ _ hw
        have s23 := s2.trans s3
        cases gb : goesB g m c with
        | true =>
          rw [gb, if_pos rfl] at es
          refine iteT ?_
          refine ⟨_, rfl, .inl ⟨rfl, _, SqL.of hw3⟩, f, _, .ref t0, rfl, rfl, hw3, (by rw [List.length_append]; show (ws0 ++ [V.ref t0])[ws0.length + 1 - 1]? = _; simp), ?_⟩
          have ht3 : (upd H3 f (.lst (ws0 ++ [V.ref t0]).dropLast)) t0 = some (.tup [.ref r0, .int m]) := Tups.lst hw3 _ _ (s3 _ _ ht0)
          refine ⟨t0, _, rfl, SqT.of ht3, rfl, _, _, rfl, _, _, rfl, rfl, ?_⟩
          rw [List.dropLast_concat] at ht3 ⊢
          have s4 : Same H (upd H3 f (.lst ws0)) := fun b o z => by rw [upd_ne (ne_of_none z hf)]; exact s23 _ _ z
          refine ⟨_, rfl, .inl ⟨rfl, _, SqL.of upd_same⟩, _, rfl, _, rfl, _, _, rfl, rfl, sizeS (by show 2 ≤ 100000; decide), fun t ht => ?_⟩
          obtain ⟨q1, q2⟩ := fin (upd H3 f (.lst ws0)) ws0 ss t r0 g (m + 1) s4 upd_same (pairedMap pw0 fun _ _ x => (x.tups (Same.tups s3)).tups (Tups.lst hw3)) (Tups.lst hw3 _ _ (s3 _ _ hr0)) ht es.symm
          rw [List.length_append] at wl
          exact ⟨f, ws0, _, rfl, rfl, Same.new ht _ _ upd_same, sizeL (by omega), _, _, _, _, rfl, q1, upd_same, q2⟩
        | false =>
          rw [gb, if_neg Bool.false_ne_true] at es
          refine iteF ?_
          refine ⟨_, rfl, .inl ⟨rfl, _, SqL.of hw3⟩, _, rfl, sizeS (by show 2 ≤ 100000; decide), fun t ht => ?_⟩
          obtain ⟨q1, q2⟩ := fin H3 (ws0 ++ [.ref t0]) (ss ++ [(g, m)]) t q c 1 s23 hw3 (pairedApp (pairedMap pw0 fun _ _ x => x.tups (Same.tups s3)) (.cons ⟨t0, r0, rfl, s3 _ _ ht0, s3 _ _ hr0⟩ .nil)) (s3 _ _ hq2) ht es.symm
          exact ⟨f, _, _, rfl, rfl, Same.new ht _ _ hw3, sizeL (by omega), _, _, _, _, rfl, q1, upd_same, q2⟩
    · rintro σ H2 ⟨ws, v2, v3, v4, rfl, s2, hw, pw⟩
      rw [Paired.length hpr, List.take_length] at pw
      exact ⟨_, rfl, k H2 f ws s2 hf hw pw⟩
end
theorem meets_at : ∀ {l : List (List Row)} {a : List Row} {n : Nat} {x y : List Row}, Meets2 a l → (a :: l)[n]? = some x → (a :: l)[n + 1]? = some y → needsOf y ≤ total x
  | [], a, n, x, y, _, _, h => by simp at h
  | b :: l, a, 0, x, y, h, e1, e2 => by
    simp at e1 e2
    subst e1 e2
    exact h.1
  | b :: l, a, n + 1, x, y, h, e1, e2 => meets_at (l := l) (a := b) (n := n) h.2 (by simpa using e1) (by simpa using e2)
theorem fit_of {c : Int} {rows : List Row} (h : ∀ r ∈ rows, r.ok c) : Fit (needsOf rows) (cellsOf rows) := cells_fit (ok_needs_of h)
theorem Fit.mono {c e : Int} {cs : List Cell} (h : c ≤ e) (f : Fit c cs) : Fit e cs := fun cl hcl => by
  rcases f cl hcl with ⟨n, rfl, n0, n1⟩ | ⟨b, rfl, b0, b1⟩
  · exact .inl ⟨n, rfl, n0, by omega⟩
  · exact .inr ⟨b, rfl, b0, b1⟩
theorem pl_len (acc : List Row) (r : Row) : (plStep acc r).length ≤ acc.length + 1 := by
  unfold plStep
  split
  · rw [List.length_append, List.length_dropLast]; show acc.length - 1 + 1 ≤ acc.length + 1; omega
  · rw [List.length_append]; exact Nat.le_refl _
section
variable {P : Program} {w : World} {K : PySem.W.Frag} {mg : Str → Option Value} {base : Heap}
theorem ok_plain_of (T : All K mg) : FnOk P w K mg base CX0 3 T.d_plain_of.f T.d_plain_of.fd ["told"] spPlainOf := by
  have G_stretches : FnOk P w K mg base CX0 2 T.d_stretches.f T.d_stretches.fd ["told"] spStretches := ok_stretches T
  have G_plain_piece : FnOk P w K mg base CX0 1 T.d_plain_piece.f T.d_plain_piece.fd ["cell", "many"] spPlainPiece := ok_plain_piece T
  refine T.d_plain_of.F.ok sc_plain_of (fun vs H Q E h => ?_) (fun cdv A outer s H vs Q E hr h => ?_)
  · obtain ⟨p, _, rfl, _⟩ := h
    rfl
  · obtain ⟨p, cs, rfl, hcs, hlen, hfit, k⟩ := h
    refine ⟨_, (pss_cons 
      (ps_set (i := 1) sc_plain_of.nd rfl (Or.inl rfl) (pe_lst pa_nil)) (pss_cons 
      (ps_for PassesOwn.never rfl (pi_list (pe_call G_stretches (hr.mono (by decide)) rfl T.d_stretches.m T.d_stretches.F.kp T.d_stretches.b .nil pass0 (pa_cons (pv 0) pa_nil))) (pg_tup rfl (pgs_cons (pg_name (i := 2) sc_plain_of.nd rfl (Or.inl rfl)) (pgs_cons (pg_name (i := 3) sc_plain_of.nd rfl (Or.inl rfl)) pgs_nil))) (pss_cons 
      (ps_set (i := 4) sc_plain_of.nd rfl (Or.inl rfl) (pe_call G_plain_piece (hr.mono (by decide)) rfl T.d_plain_piece.m T.d_plain_piece.F.kp T.d_plain_piece.b .nil pass0 (pa_cons (pv 2) (pa_cons (pv 3) pa_nil)))) (pss_cons 
      (ps_if (PW.pt (pw_and (pt_cmpR op_eq (pe_ix ix_tup (pv 4) pe_int (fun _ _ => rfl)) pe_str (nomark _)) (pw_and (pt_truth (pv 1) (by intro _; rfl)) (pw_and1 (pt_cmpR op_eq (pe_ix ix_tup (pe_ix ix_list (pv 1) (pe_un un_neg pe_int) (fun _ _ => rfl)) pe_int (fun _ _ => rfl)) pe_str (nomark _)))))) (pss_one 
      (ps_set (i := 4) sc_plain_of.nd rfl (Or.inl rfl) (pe_tup (pa_cons pe_str (pa_cons (pe_op op_add_byt (pe_ix ix_tup (pe_bm0 PySem.F.plainAttrs_list PySem.F.slot_list_pop PySem.F.type_list_pop mt_pop (pv 1)) pe_int (fun _ _ => rfl)) (pe_ix ix_tup (pv 4) pe_int (fun _ _ => rfl))) pa_nil))))) pss_nil) (pss_one 
      (ps_expr (pe_bm PySem.F.plainAttrs_list PySem.F.slot_list_append PySem.F.type_list_append mt_append (pv 1) (pa_cons (pv 4) pa_nil))))))) (pss_one 
      (ps_ret (pe_callTy call_tuple_of (by rfl) T.b_tuple (by decide +kernel) (pa_cons (pv 1) pa_nil)))))), ?_⟩
    refine ⟨sizeS (by show 0 ≤ 100000; decide), fun f hf => ?_⟩
    refine ⟨_, rfl, p, cs, rfl, hcs.same (Same.new hf), by omega, fun H1 q ss s1 hq hq1 pq => ?_⟩
    have sl := str_len cs
    have hql : ss.length = (strOf cs).length := Paired.length pq
    have s01 : Same H H1 := (Same.new hf).trans s1
    refine ⟨q, rfl, ⟨ss, SqL.of hq1⟩, for_list (K := K) (a := q) (xs := ss) (fun i σ H2 => ∃ (ws : List V) (v2 v3 v4 : Option V), σ = [some (.ref p), some (.ref f), v2, v3, v4] ∧ Same H H2 ∧ H2 q = some (.lst ss) ∧ Paired (StrV H2) ss (strOf cs) ∧ H2 f = some (.lst ws) ∧ ws.length ≤ i ∧ Paired (PieceV H2) ws ((((strOf cs).take i).map fun s => pieceOf s.1 s.2).foldl plStep []))
      ⟨[], none, none, none, rfl, s01, hq1, pq, s1 _ _ upd_same, Nat.le_refl _, .nil⟩ (fun i σ H2 _ ⟨_, _, _, _, _, _, hq2, _⟩ => SqL.of hq2) ?_ ?_⟩
    · rintro i x σ H2 hi ⟨ws, v2, v3, v4, rfl, s2, hq2, pq2, hw, wl, pw⟩
      obtain ⟨⟨c, m⟩, hc, tp, tc, rfl, htp, htc⟩ := pairedAt pq2 hi
      have il : i < (strOf cs).length := (List.getElem?_eq_some_iff.mp hc).1
      have hm := str_many cs _ (List.mem_of_getElem? hc)
      have hm' : m ≤ cs.length := hm
      have ncd : c ∈ cs := by
        have hx : c ∈ (strOf cs).flatMap expand := List.mem_flatMap.mpr ⟨_, List.mem_of_getElem? hc, by
          have h1 : 1 ≤ m := str_pos cs _ (List.mem_of_getElem? hc)
          cases c with
          | old z => exact List.mem_map.mpr ⟨0, List.mem_range.mpr h1, by simp⟩
          | new z => exact List.mem_replicate.mpr ⟨by show m ≠ 0; omega, rfl⟩⟩
        rw [str_expand] at hx; exact hx
      have byteOk : ∀ b, c = .new b → 0 ≤ b ∧ b < 256 := by
        rintro b rfl
        rcases hfit _ ncd with ⟨_, e, _⟩ | ⟨b', e, h0, h1⟩
        · cases e
        · injection e with e; subst e; exact ⟨h0, h1⟩
      have ea : (((strOf cs).take (i + 1)).map fun s => pieceOf s.1 s.2).foldl plStep [] = plStep ((((strOf cs).take i).map fun s => pieceOf s.1 s.2).foldl plStep []) (pieceOf c m) := by
        rw [take_snoc hc, List.map_append, List.foldl_append]; rfl
      -- how many bytes there are ahead
      have lac : (cellsOf ((((strOf cs).take i).map fun s => pieceOf s.1 s.2).foldl plStep [])).length ≤ 200 := by
        rw [pl_fold]
        show ([] ++ cellsOf _).length ≤ 200
        rw [List.nil_append]
        have e : cellsOf (((strOf cs).take i).map fun s => pieceOf s.1 s.2) = ((strOf cs).take i).flatMap expand := by
          show (((strOf cs).take i).map _).flatMap cellsR = _
          rw [List.flatMap_map]
          congr 1
          funext s
          exact piece_cells s.1 s.2
        rw [e]
        have e2 := str_expand cs
        rw [← List.take_append_drop i (strOf cs), List.flatMap_append] at e2
        have := congrArg List.length e2
        rw [List.length_append] at this
        omega
      generalize hacc : (((strOf cs).take i).map fun s => pieceOf s.1 s.2).foldl plStep [] = acc at pw ea lac
      refine ⟨tp, _, rfl, SqT.of htp, rfl, _, _, rfl, _, _, rfl, rfl, ?_⟩
      refine ⟨_, rfl, _, rfl, tc, c, m, rfl, htc, by omega, byteOk, fun H3 t s3 ht ht3 => ?_⟩
      have s23 := s2.trans s3
      have hw3 := s3 _ _ hw
      have pw3 : Paired (PieceV H3) ws acc := pairedMap pw fun _ _ x => x.tups (Same.tups s3)
      -- behind the append
      have fin : ∀ (H4 : Hp) (ws' : List V) (u : Addr) (r : Row) (acc' : List Row), Tups H H4 → (∀ b o, b ≠ f → H3 b = some o → H4 b = some o) → H4 f = some (.lst ws') → ws'.length ≤ i → Paired (PieceV H4) ws' acc' → H4 u = some (.tup r.tup) → acc' ++ [r] = plStep acc (pieceOf c m) →
          Same H (upd H4 f (.lst (ws' ++ [.ref u]))) ∧ (upd H4 f (.lst (ws' ++ [.ref u]))) q = some (.lst ss) ∧ Paired (StrV (upd H4 f (.lst (ws' ++ [.ref u])))) ss (strOf cs) ∧ (ws' ++ [V.ref u]).length ≤ i + 1 ∧ Paired (PieceV (upd H4 f (.lst (ws' ++ [.ref u])))) (ws' ++ [.ref u]) ((((strOf cs).take (i + 1)).map fun s => pieceOf s.1 s.2).foldl plStep []) := by
        intro H4 ws' u r acc' tp4 k4 hw4 wl4 pw4 hu e
        have qf : q ≠ f := (ne_of_none (o := .lst []) upd_same hq).symm
        have t4 : Tups H4 (upd H4 f (.lst (ws' ++ [.ref u]))) := Tups.lst hw4
        have t34 : Tups H3 H4 := fun a xs z => k4 a _ (ne_of z hw3 tup_lst) z
        refine ⟨fun b o z => ?_, ?_, pairedMap pq2 fun _ _ x => ((x.tups (Same.tups s3)).tups t34).tups t4, by rw [List.length_append]; show ws'.length + 1 ≤ i + 1; omega, ?_⟩
        · have nb : b ≠ f := ne_of_none z hf
          rw [upd_ne nb]; exact k4 b o nb (s23 _ _ z)
        · rw [upd_ne qf]; exact k4 q _ qf (s3 _ _ hq2)
        · rw [ea, ← e]
          exact pairedApp (pairedMap pw4 fun _ _ x => x.tups t4) (.cons ⟨u, rfl, t4 _ _ hu⟩ .nil)
      -- the plain append
      have plainly : (acc ++ [pieceOf c m] = plStep acc (pieceOf c m)) → ∃ l xs y, V.ref f = .ref l ∧ [V.ref t] = [y] ∧ H3 l = some (.lst xs) ∧ xs.length < sizeLine ∧ ∃ (ws' : List V) (v2 v3 v4 : Option V), [some (V.ref p), some (V.ref f), some (V.ref tc), some (V.int (m : Int)), some (V.ref t)] = [some (.ref p), some (.ref f), v2, v3, v4] ∧ Same H (upd H3 l (.lst (xs ++ [y]))) ∧ (upd H3 l (.lst (xs ++ [y]))) q = some (.lst ss) ∧ Paired (StrV (upd H3 l (.lst (xs ++ [y])))) ss (strOf cs) ∧ (upd H3 l (.lst (xs ++ [y]))) f = some (.lst ws') ∧ ws'.length ≤ i + 1 ∧ Paired (PieceV (upd H3 l (.lst (xs ++ [y])))) ws' ((((strOf cs).take (i + 1)).map fun s => pieceOf s.1 s.2).foldl plStep []) := fun e => by
        obtain ⟨q1, q2, q3, q4, q5⟩ := fin H3 ws t (pieceOf c m) acc (Same.tups s23) (fun _ _ _ z => z) hw3 wl pw3 ht3 e
        exact ⟨f, ws, _, rfl, rfl, hw3, sizeL (by omega), _, _, _, _, rfl, q1, q2, q3, upd_same, q4, q5⟩
      cases hr : pieceOf c m with
      | copy b n =>
        rw [hr] at ht3 plainly
        refine ⟨_, rfl, t, _, _, _, rfl, rfl, SqT.of ht3, rfl, rfl, _, rfl, ite2 (fun h => absurd h (by decide)) fun _ => iteF ?_⟩
        exact ⟨_, rfl, .inl ⟨rfl, _, SqL.of hw3⟩, _, rfl, plainly rfl⟩
      | run b n =>
        rw [hr] at ht3 plainly
        refine ⟨_, rfl, t, _, _, _, rfl, rfl, SqT.of ht3, rfl, rfl, _, rfl, ite2 (fun h => absurd h (by decide)) fun _ => iteF ?_⟩
        exact ⟨_, rfl, .inl ⟨rfl, _, SqL.of hw3⟩, _, rfl, plainly rfl⟩
      | bring bs =>
        rw [hr] at ht3 plainly
        have bl : bs.length = m := by
          have := piece_len c m
          rw [hr] at this
          have z : (bs.length : Int) = m := this
          omega
        refine ⟨_, rfl, t, _, _, _, rfl, rfl, SqT.of ht3, rfl, rfl, _, rfl, ite2 (fun _ => ?_) fun h => absurd (by decide) h⟩
        refine ⟨_, rfl, !ws.isEmpty, .inl ⟨ws, SqL.of hw3, rfl⟩, ?_⟩
        rcases List.eq_nil_or_concat ws with e | ⟨ws0, y, e⟩
        · subst e
          have acc0 : acc = [] := List.length_eq_zero_iff.mp (Paired.length pw).symm
          refine iteF (iteF ?_)
          exact ⟨_, rfl, .inl ⟨rfl, _, SqL.of hw3⟩, _, rfl, plainly (by rw [acc0]; rfl)⟩
        · rw [List.concat_eq_append] at e
          subst e
          obtain ⟨acc0, la, eacc⟩ : ∃ a b, acc = a ++ [b] := by
            have := Paired.length pw
            rcases List.eq_nil_or_concat acc with z | ⟨a, b, z⟩
            · rw [z, List.length_append] at this; simp at this
            · exact ⟨a, b, by rw [z, List.concat_eq_append]⟩
          subst eacc
          obtain ⟨pw0, u, rfl, hu⟩ := pairedSnoc pw3
          have ee : (!(ws0 ++ [V.ref u]).isEmpty) = true := by cases ws0 <;> rfl
          rw [ee]
          refine iteT ?_
          have st : plStep (acc0 ++ [la]) (.bring bs) = match la with | .bring as => acc0 ++ [.bring (as ++ bs)] | _ => acc0 ++ [la] ++ [.bring bs] := by
            unfold plStep
            rw [List.getLast?_concat]
            cases la with
            | copy b n => rfl
            | run b n => rfl
            | bring as => show (acc0 ++ [Row.bring as]).dropLast ++ _ = _; rw [List.dropLast_concat]
          cases la with
          | copy b n =>
            refine ⟨_, rfl, _, rfl, f, _, _, _, rfl, rfl, SqL.of hw3, atI_last _ _, u, _, _, _, rfl, rfl, SqT.of hu, rfl, rfl, _, rfl, ite2 (fun h => absurd h (by decide)) fun _ => ?_⟩
            exact ⟨_, rfl, .inl ⟨rfl, _, SqL.of hw3⟩, _, rfl, plainly (by rw [st])⟩
          | run b n =>
            refine ⟨_, rfl, _, rfl, f, _, _, _, rfl, rfl, SqL.of hw3, atI_last _ _, u, _, _, _, rfl, rfl, SqT.of hu, rfl, rfl, _, rfl, ite2 (fun h => absurd h (by decide)) fun _ => ?_⟩
            exact ⟨_, rfl, .inl ⟨rfl, _, SqL.of hw3⟩, _, rfl, plainly (by rw [st])⟩
          | bring as =>
            refine ⟨_, rfl, _, rfl, f, _, _, _, rfl, rfl, SqL.of hw3, atI_last _ _, u, _, _, _, rfl, rfl, SqT.of hu, rfl, rfl, _, rfl, ite2 (fun _ => ?_) fun h => absurd (by decide) h⟩
            have asl : as.length ≤ 200 := by
              rw [cellsOf_app, cellsOf_one, List.length_append] at lac
              have : (cellsR (.bring as)).length = as.length := by show (as.map Cell.new).length = _; rw [List.length_map]
              omega
            refine ⟨_, rfl, .inl ⟨rfl, _, SqL.of hw3⟩, f, _, .ref u, rfl, rfl, hw3, (by rw [List.length_append]; show (ws0 ++ [V.ref u])[ws0.length + 1 - 1]? = _; simp), ?_⟩
            rw [List.dropLast_concat]
            have t4 : Tups H3 (upd H3 f (.lst ws0)) := Tups.lst hw3
            refine ⟨u, _, _, _, rfl, rfl, SqT.of (t4 _ _ hu), rfl, _, rfl, t, _, _, _, rfl, rfl, SqT.of (t4 _ _ ht3), rfl, _, _, rfl, rfl, (by rw [byteArr_size, byteArr_size]; omega), sizeS (by show 2 ≤ 100000; decide), fun v hv => ?_⟩
            rw [List.length_append] at wl
            have hw5 : (upd (upd H3 f (.lst ws0)) v (.tup [.str "bring", .byt (byteArr as ++ byteArr bs)])) f = some (.lst ws0) := Same.new hv _ _ upd_same
            obtain ⟨q1, q2, q3, q4, q5⟩ := fin (upd (upd H3 f (.lst ws0)) v (.tup [.str "bring", .byt (byteArr as ++ byteArr bs)])) ws0 v (.bring (as ++ bs)) acc0 (((Same.tups s23).trans t4).trans (Same.tups (Same.new hv))) (fun b o nb z => Same.new hv _ _ (by rw [upd_ne nb]; exact z)) hw5 (by omega)
              (pairedMap pw0 fun _ _ x => (x.tups t4).tups (Same.tups (Same.new hv))) (by rw [upd_same, byteArr_app]; rfl) (by rw [hr, st])
            exact ⟨_, rfl, .inl ⟨rfl, _, SqL.of hw5⟩, _, rfl, f, ws0, _, rfl, rfl, hw5, sizeL (by omega), _, _, _, _, rfl, q1, q2, q3, upd_same, q4, q5⟩
    · rintro σ H2 ⟨ws, v2, v3, v4, rfl, s2, hq2, pq2, hw, wl, pw⟩
      rw [hql, List.take_length] at pw
      refine ⟨_, rfl, f, ws, rfl, .inl ⟨SqL.of hw, fun u hu => ?_⟩⟩
      exact k _ _ (s2.trans (Same.new hu)) ⟨u, ws, rfl, upd_same, pairedMap pw fun _ _ x => x.tups (Same.tups (Same.new hu))⟩
theorem ok_plain (T : All K mg) : FnOk P w K mg base CX0 5 T.d_plain.f T.d_plain.fd ["patch"] spPlain := by
  have G_plain_of : FnOk P w K mg base CX0 3 T.d_plain_of.f T.d_plain_of.fd ["told"] spPlainOf := ok_plain_of T
  have G_cells : FnOk P w K mg base CX0 4 T.d_cells.f T.d_cells.fd ["patch"] spCells := ok_cells T
  refine T.d_plain.F.ok sc_plain (fun vs H Q E h => ?_) (fun cdv A outer s H vs Q E hr h => ?_)
  · obtain ⟨v, _, rfl, _⟩ := h
    rfl
  · obtain ⟨v, rows, rfl, hP, hG, k⟩ := h
    refine ⟨_, (pss_one 
      (ps_ret (pe_call G_plain_of (hr.mono (by decide)) rfl T.d_plain_of.m T.d_plain_of.F.kp T.d_plain_of.b .nil pass0 (pa_cons (pe_call G_cells (hr.mono (by decide)) rfl T.d_cells.m T.d_cells.F.kp T.d_cells.b .nil pass0 (pa_cons (pv 0) pa_nil)) pa_nil)))), ?_⟩
    refine ⟨_, rfl, v, rows, rfl, hP, hG, fun H1 c s1 hc hcs => ?_⟩
    have hl := cellsOf_len hG.1
    have ht := hG.2
    refine ⟨c, cellsOf rows, rfl, hcs, by omega, cells_fit hG.1, fun H2 v' s2 hP' => ?_⟩
    exact k H2 v' (s1.trans s2) hP'
end
/-! ### the law's own plain rows -/
theorem str_snoc {cs : List Cell} {i : Nat} {c : Cell} (h : cs[i]? = some c) : strOf (cs.take (i + 1)) = strStep (strOf (cs.take i)) c := by
  unfold strOf
  rw [take_snoc h, List.foldl_append]; rfl
/-- a stretch ends at k -/
def Bound (cs : List Cell) (k : Nat) : Prop := ∀ f m c, (strOf (cs.take k)).getLast? = some (f, m) → cs[k]? = some c → goesB f m c = false
theorem bound_one {cs : List Cell} {k : Nat} {c : Cell} (b : Bound cs k) (h : cs[k]? = some c) : strOf (cs.take (k + 1)) = strOf (cs.take k) ++ [(c, 1)] := by
  rw [str_snoc h]
  unfold strStep
  split
  · rename_i f m e
    rw [b f m c e h, if_neg Bool.false_ne_true]
  · rfl
theorem bound_more {cs : List Cell} {S : List (Cell × Nat)} {i j : Nat} {c d : Cell} (e : strOf (cs.take i) = S ++ [(c, j)]) (h : cs[i]? = some d) (g : goesB c j d = true) : strOf (cs.take (i + 1)) = S ++ [(c, j + 1)] := by
  rw [str_snoc h, e]
  unfold strStep
  rw [List.getLast?_concat]
  show (if goesB c j d = true then (S ++ [(c, j)]).dropLast ++ [(c, j + 1)] else _) = _
  rw [if_pos g, List.dropLast_concat]
theorem bound_end {cs : List Cell} {S : List (Cell × Nat)} {i n : Nat} {c : Cell} (e : strOf (cs.take i) = S ++ [(c, n)]) (h : ∀ d, cs[i]? = some d → goesB c n d = false) : Bound cs i := fun f m d e1 e2 => by
  rw [e, List.getLast?_concat] at e1
  injection e1 with e1
  injection e1 with e1 e3
  subst e1 e3
  exact h d e2
theorem bound_zero (cs : List Cell) : Bound cs 0 := fun f m c e _ => by cases e
def rowsTo (cs : List Cell) (k : Nat) : List Row := ((strOf (cs.take k)).map fun s => pieceOf s.1 s.2).foldl plStep []
theorem rowsTo_more {cs : List Cell} {k n : Nat} {c : Cell} (e : strOf (cs.take (k + n)) = strOf (cs.take k) ++ [(c, n)]) : rowsTo cs (k + n) = plStep (rowsTo cs k) (pieceOf c n) := by
  unfold rowsTo
  rw [e, List.map_append, List.foldl_append]; rfl
theorem rowsTo_cells (cs : List Cell) (k : Nat) : cellsOf (rowsTo cs k) = cs.take k := plain_cells (cs.take k)
/-- a list that isn't the empty one -/
def rNeNil : R2 := fun x y H Q => ∃ a b xs, x = .ref a ∧ y = .ref b ∧ H a = some (.lst xs) ∧ H b = some (.lst []) ∧ Q (.bl (!xs.isEmpty)) H
theorem op_neNil {X : Cx} (hu : X.A.units + 64 < cLine) : OpR X (compareOp .NotEq) rNeNil := by
  intro pins s σ H x y v u Q I rx ry h
  obtain ⟨a, b, xs, rfl, rfl, ha, hb, q⟩ := h
  cases (show v = Value.ref a from rx)
  cases (show u = Value.ref b from ry)
  obtain ⟨us, r1, p1, _⟩ := I.list (SqL.of ha)
  obtain ⟨ws, r2, p2, _⟩ := I.list (SqL.of hb)
  cases r2
  cases r1 with
  | nil =>
    have z := SeqAt.RcNeAt.lists (A := X.A) (e := fun _ => true) p1.isList p2.isList rfl (by omega) (fun j h1 => absurd h1 (Nat.not_lt_zero j))
    exact z X.prog X.w _ _ ⟨.bl false, H, I, rfl, q⟩
  | cons c t =>
    have z := SeqAt.RcNeAt.lists_lengths (A := X.A) p1.isList p2.isList (by simp) (by omega)
    exact z X.prog X.w _ _ ⟨.bl true, H, I, rfl, q⟩
theorem RowV.tups' {H H' : Hp} {v : V} {r : Row} (s : Same H H') (h : RowV H v r) : RowV H' v r := h.same s
theorem RowV.len_of {c : Int} {r : Row} {H : Hp} {v : V} (h : RowV H v r) : ∃ p xs, v = .ref p ∧ H p = some (.tup xs) := by
  cases r with
  | copy b n => obtain ⟨p, e, x⟩ := h; exact ⟨p, _, e, x⟩
  | run b n => obtain ⟨p, e, x⟩ := h; exact ⟨p, _, e, x⟩
  | bring bs => obtain ⟨p, q, e, x, _⟩ := h; exact ⟨p, _, e, x⟩
theorem ixN_last {n : Nat} : ixN (n + 1) (-1) = some n := by
  unfold ixN
  rw [if_neg (by decide), if_pos (by omega)]
  congr 1
  omega
/-- the last row of the list exchanged -/
theorem rows_set {H : Hp} {p t q : Addr} {ws : List V} {u : V} {acc : List Row} {bs : List Int} (e : H p = some (.lst (ws ++ [u]))) (h : Paired (RowV H) ws acc) (ht : H t = some (.tup [.str "bring", .ref q])) (hq : H q = some (.lst (bs.map V.int))) (hqp : q ≠ p) :
    Paired (RowV (upd H p (.lst (ws ++ [.ref t])))) (ws ++ [.ref t]) (acc ++ [.bring bs]) := by
  refine pairedApp (pairedMem h fun a ha b _ x => ?_) (.cons ⟨t, q, rfl, Tups.lst e _ _ ht, by rw [upd_ne hqp]; exact hq⟩ .nil)
  refine x.keep (Tups.lst e) fun q ns z => ?_
  rw [upd_ne]
  · exact z
  · rintro rfl
    rw [e] at z
    obtain ⟨v, rfl⟩ := x.isRef
    have z' : ws ++ [u] = ns.map V.int := by injection z with z; injection z
    have : V.ref v ∈ ns.map V.int := by rw [← z']; exact List.mem_append_left _ ha
    obtain ⟨_, _, z2⟩ := List.mem_map.mp this
    cases z2
def cellD : Cell → PyData
  | .old k => .tuple [.str "old", .int k]
  | .new b => .tuple [.str "new", .int b]
theorem cellD_eqv (c d : Cell) : PyData.eqv (cellD c) (cellD d) = decide (c = d) := cell_eqv c d (by cases c <;> rfl) (by cases d <;> rfl)
def spPlainly : Sp := fun vs H Q _ => ∃ (p : Addr) (cs : List Cell), vs = [.ref p] ∧ CellsAt H p cs ∧ cs.length ≤ 200 ∧ ∀ H' q, Same H H' → H q = none → RowsAt H' q (plainOf cs) → Q (.ref q) H'
section
variable {P : Program} {w : World} {K : PySem.W.Frag} {mg : Str → Option Value} {base : Heap}
theorem cell_dp {H : Hp} {v : V} {c : Cell} (h : CellV H v c) : Dp K H v (cellD c) ∧ SeqAt.shaped (cellD c) = true := by
  obtain ⟨p, rfl, hp⟩ := h
  cases c with
  | old k => exact ⟨dp_cell hp, cell_shaped _ _ (by decide +kernel)⟩
  | new k => exact ⟨dp_cell hp, cell_shaped _ _ (by decide +kernel)⟩
theorem ok_law_plainly (T : All K mg) : FnOk P w K mg base CX0 1 T.d_law_plainly.f T.d_law_plainly.fd ["_law_some"] spPlainly := by
  refine T.d_law_plainly.F.ok sc_law_plainly (fun vs H Q E h => ?_) (fun cdv A outer s H vs Q E hr h => ?_)
  · obtain ⟨p, _, rfl, _⟩ := h
    rfl
  · obtain ⟨p, cs, rfl, ⟨vs, hv, hpr⟩, hlen, k⟩ := h
    have hvl : vs.length = cs.length := Paired.length hpr
    refine ⟨_, (pss_cons 
      (ps_par (i := 1) (j := 2) (by rfl) sc_law_plainly.nd rfl rfl (by decide) rfl rfl (pa_cons (pe_lst pa_nil) (pa_cons pe_int pa_nil)) (by rfl)) (pss_cons 
      (ps_while PassesOwn.never (pt_cmpR op_lt (pv 2) (pe_callB call_len (by rfl) T.b_len PySem.boot_len (pa_cons (pv 0) pa_nil)) (nomark _)) (pss_cons 
      (ps_asg (pe_ix ix_list (pv 0) (pv 2) (fun _ _ => rfl)) (pg_tup rfl (pgs_cons (pg_name (i := 3) sc_law_plainly.nd rfl (Or.inl rfl)) (pgs_cons (pg_name (i := 4) sc_law_plainly.nd rfl (Or.inl rfl)) pgs_nil)))) (pss_cons 
      (ps_set (i := 5) sc_law_plainly.nd rfl (Or.inl rfl) pe_int) (pss_cons 
      (ps_if (pt_cmpR op_eq (pv 3) pe_str (nomark _)) (pss_cons 
      (ps_while PassesOwn.never (PW.pt (pw_and (pt_cmpR op_lt (pe_op op_add (pv 2) (pv 5)) (pe_callB call_len (by rfl) T.b_len PySem.boot_len (pa_cons (pv 0) pa_nil)) (nomark _)) (pw_and1 (pt_cmpR (op_eqD hr.units) (pe_ix ix_list (pv 0) (pe_op op_add (pv 2) (pv 5)) (fun _ _ => rfl)) (pe_tup (pa_cons pe_str (pa_cons (pe_op op_add (pv 4) (pv 5)) pa_nil))) (nomark _))))) (pss_one 
      (ps_set (i := 5) sc_law_plainly.nd rfl (Or.inl rfl) (pe_op op_add (pv 5) pe_int)))) (pss_one 
      (ps_expr (pe_bm PySem.F.plainAttrs_list PySem.F.slot_list_append PySem.F.type_list_append mt_append (pv 1) (pa_cons (pe_tup (pa_cons pe_str (pa_cons (pv 4) (pa_cons (pv 5) pa_nil)))) pa_nil))))) (pss_cons 
      (ps_while PassesOwn.never (PW.pt (pw_and (pt_cmpR op_lt (pe_op op_add (pv 2) (pv 5)) (pe_callB call_len (by rfl) T.b_len PySem.boot_len (pa_cons (pv 0) pa_nil)) (nomark _)) (pw_and1 (pt_cmpR (op_eqD hr.units) (pe_ix ix_list (pv 0) (pe_op op_add (pv 2) (pv 5)) (fun _ _ => rfl)) (pe_ix ix_list (pv 0) (pv 2) (fun _ _ => rfl)) (nomark _))))) (pss_one 
      (ps_set (i := 5) sc_law_plainly.nd rfl (Or.inl rfl) (pe_op op_add (pv 5) pe_int)))) (pss_one 
      (ps_if (pt_cmpR op_gt (pv 5) pe_int (nomark _)) (pss_one 
      (ps_expr (pe_bm PySem.F.plainAttrs_list PySem.F.slot_list_append PySem.F.type_list_append mt_append (pv 1) (pa_cons (pe_tup (pa_cons pe_str (pa_cons (pv 4) (pa_cons (pv 5) pa_nil)))) pa_nil)))) (pss_one 
      (ps_if (PW.pt (pw_and (pt_cmpR (op_neNil hr.units) (pv 1) (pe_lst pa_nil) (nomark _)) (pw_and1 (pt_cmpR op_eq (pe_ix ix_tup (pe_ix ix_list (pv 1) (pe_un un_neg pe_int) (fun _ _ => rfl)) pe_int (fun _ _ => rfl)) pe_str (nomark _))))) (pss_one 
      (ps_asg (pe_tup (pa_cons pe_str (pa_cons (pe_op op_cat (pe_ix ix_tup (pe_ix ix_list (pv 1) (pe_un un_neg pe_int) (fun _ _ => rfl)) pe_int (fun _ _ => rfl)) (pe_op op_rep (pe_lst (pa_cons (pv 4) pa_nil)) (pv 5))) pa_nil))) (pg_sub (pv 1) (pe_un un_neg pe_int) set_list))) (pss_one 
      (ps_expr (pe_bm PySem.F.plainAttrs_list PySem.F.slot_list_append PySem.F.type_list_append mt_append (pv 1) (pa_cons (pe_tup (pa_cons pe_str (pa_cons (pe_op op_rep (pe_lst (pa_cons (pv 4) pa_nil)) (pv 5)) pa_nil))) pa_nil)))))))))) (pss_one 
      (ps_set (i := 2) sc_law_plainly.nd rfl (Or.inl rfl) (pe_op op_add (pv 2) (pv 5)))))))) (pss_one 
      (ps_ret (pv 1))))), ?_⟩
    refine ⟨sizeS (by show 0 ≤ 100000; decide), fun f hf => ⟨_, _, rfl, ?_⟩⟩
    -- the outer loop
    refine ⟨fun m σ H2 => ∃ (i : Nat) (ws : List V) (v3 v4 v5 : Option V), m = cs.length - i ∧ σ = [some (.ref p), some (.ref f), some (.int (i : Nat)), v3, v4, v5] ∧ i ≤ cs.length ∧ Bound cs i ∧ Same H H2 ∧ H2 f = some (.lst ws) ∧ ws.length ≤ i ∧ Paired (RowV H2) ws (rowsTo cs i),
      ⟨_, 0, [], none, none, none, rfl, rfl, Nat.zero_le _, bound_zero cs, Same.new hf, upd_same, Nat.le_refl _, .nil⟩, ?_⟩
    rintro m σ H2 ⟨i, ws, v3, v4, v5, rfl, rfl, hi, hB, s2, hw, wl, pw⟩
    refine ⟨_, rfl, _, rfl, _, vs.length, rfl, .inl ⟨_, SqL.of (s2 _ _ hv), rfl⟩, _, _, rfl, rfl, _, rfl, ite2 (fun hlt => ?lt) fun hge => ?ge⟩
    case ge =>
      have e : i = cs.length := by
        have : ¬ ((i : Int) < vs.length) := fun z => hge (decide_eq_true z)
        omega
      subst e
      have er : rowsTo cs cs.length = plainOf cs := by unfold rowsTo; rw [List.take_length]; rfl
      rw [er] at pw
      exact ⟨_, rfl, k H2 f s2 hf ⟨ws, hw, pw⟩⟩
    have hlt : i < cs.length := by have : (i : Int) < vs.length := of_decide_eq_true hlt; omega
    refine ⟨fun σ' H' => ∃ m', m' < cs.length - i ∧ ∃ (i : Nat) (ws : List V) (v3 v4 v5 : Option V), m' = cs.length - i ∧ σ' = [some (.ref p), some (.ref f), some (.int (i : Nat)), v3, v4, v5] ∧ i ≤ cs.length ∧ Bound cs i ∧ Same H H' ∧ H' f = some (.lst ws) ∧ ws.length ≤ i ∧ Paired (RowV H') ws (rowsTo cs i), fun _ _ h => h, ?_⟩
    obtain ⟨x, hx, cx⟩ := pairedAt' hpr (List.getElem?_eq_getElem hlt)
    obtain ⟨t, rfl, ht⟩ := cx
    have ht2 := s2 _ _ ht
    have one := bound_one hB (List.getElem?_eq_getElem hlt)
    generalize hcc : cs[i] = c at ht ht2 one
    have hci : cs[i]? = some c := by rw [List.getElem?_eq_getElem hlt, hcc]
    -- what is known of any cell of the list
    have cellAt : ∀ {H3 : Hp} {j : Nat}, Same H H3 → j < cs.length → ∃ x, vs[j]? = some x ∧ CellV H3 x (cs.getD j c) := fun {H3 j} s3 hj => by
      obtain ⟨x, h1, h2⟩ := pairedAt' hpr (List.getElem?_eq_getElem hj)
      refine ⟨x, h1, ?_⟩
      rw [List.getD_eq_getElem?_getD, List.getElem?_eq_getElem hj]
      exact h2.tups (Same.tups s3)
    refine ⟨_, rfl, _, rfl, p, _, _, _, rfl, rfl, SqL.of (s2 _ _ hv), at_of rfl hx, ?_⟩
    -- the loop's end: all it leaves
    have leave : ∀ (n : Nat), 1 ≤ n → i + n ≤ cs.length → strOf (cs.take (i + n)) = strOf (cs.take i) ++ [(c, n)] → (∀ d, cs[i + n]? = some d → goesB c n d = false) →
        ∀ (H4 : Hp) (ws' : List V) (v3 v4 : Option V), Same H H4 → H4 f = some (.lst ws') → ws'.length ≤ i + 1 → Paired (RowV H4) ws' (plStep (rowsTo cs i) (pieceOf c n)) →
        ∃ m', m' < cs.length - i ∧ ∃ (j : Nat) (ws : List V) (u3 u4 u5 : Option V), m' = cs.length - j ∧ [some (V.ref p), some (V.ref f), some (V.int ((i : Int) + (n : Int))), v3, v4, some (V.int (n : Int))] = [some (.ref p), some (.ref f), some (.int (j : Nat)), u3, u4, u5] ∧ j ≤ cs.length ∧ Bound cs j ∧ Same H H4 ∧ H4 f = some (.lst ws) ∧ ws.length ≤ j ∧ Paired (RowV H4) ws (rowsTo cs j) := by
      intro n n1 nle e stop H4 ws' v3 v4 s4 hw4 wl4 pw4
      refine ⟨cs.length - (i + n), by omega, i + n, ws', v3, v4, _, rfl, by rw [Int.natCast_add], nle, bound_end e stop, s4, hw4, by omega, ?_⟩
      rw [rowsTo_more e]; exact pw4
    have rlen : (rowsTo cs i).length = ws.length := (Paired.length pw).symm
    -- an append
    have put : ∀ (r : Row) (n : Nat) (H5 : Hp) (tq : Addr), Same H2 H5 → RowV H5 (.ref tq) r → (∀ bs p' q, r = .bring bs → H5 p' = some (.tup [.str "bring", .ref q]) → V.ref tq = .ref p' → q ≠ f) → rowsTo cs i ++ [r] = plStep (rowsTo cs i) (pieceOf c n) →
        H5 f = some (.lst ws) ∧ Same H (upd H5 f (.lst (ws ++ [.ref tq]))) ∧ (ws ++ [V.ref tq]).length ≤ i + 1 ∧ Paired (RowV (upd H5 f (.lst (ws ++ [.ref tq])))) (ws ++ [.ref tq]) (plStep (rowsTo cs i) (pieceOf c n)) := by
      intro r n H5 tq s5 hr hb e
      have hw5 := s5 _ _ hw
      obtain ⟨ws', r1, r2⟩ := rows_put hw5 (pairedMap pw fun _ _ x => x.same s5) hr hb
      rw [upd_same] at r1
      injection r1 with r1
      injection r1 with r1
      subst r1
      refine ⟨hw5, fun b o y => ?_, by rw [List.length_append]; show ws.length + 1 ≤ i + 1; omega, by rw [← e]; exact r2⟩
      rw [upd_ne (ne_of_none y hf)]; exact s5 _ _ (s2 _ _ y)
    have hf2 : f ≠ p := by
      rintro rfl
      rw [hv] at hf; cases hf
    cases c with
    | old z =>
      refine ⟨t, _, rfl, SqT.of ht2, rfl, _, _, rfl, _, _, rfl, rfl, ?_⟩
      refine ⟨_, rfl, rfl, _, rfl, ite2 (fun _ => ?_) fun h => absurd (by decide) h⟩
      refine ⟨fun m σ H3 => ∃ n : Nat, m = cs.length - (i + n) ∧ σ = [some (.ref p), some (.ref f), some (.int (i : Nat)), some (.str "old"), some (.int z), some (.int (n : Nat))] ∧ 1 ≤ n ∧ i + n ≤ cs.length ∧ strOf (cs.take (i + n)) = strOf (cs.take i) ++ [(.old z, n)] ∧ Same H2 H3,
        ⟨_, 1, rfl, rfl, Nat.le_refl _, hlt, one, Same.refl _⟩, ?_⟩
      rintro m σ H3 ⟨n, rfl, rfl, n1, nle, e, s3⟩
      have s23 := s2.trans s3
      refine ⟨_, rfl, _, rfl, _, _, rfl, rfl, _, rfl, _, vs.length, rfl, .inl ⟨_, SqL.of (s23 _ _ hv), rfl⟩, _, _, rfl, rfl, _, rfl, ite2 (fun hl2 => ?more1) fun hl2 => iteF ?_⟩
      case' more1 =>
        have hl2 : i + n < cs.length := by have : (i : Int) + (n : Int) < vs.length := of_decide_eq_true hl2; omega
        obtain ⟨y, hy, cy⟩ := cellAt s23 hl2
        have hd : cs[i + n]? = some (cs.getD (i + n) (.old z)) := by rw [List.getD_eq_getElem?_getD, List.getElem?_eq_getElem hl2]; rfl
        refine ⟨_, rfl, _, rfl, _, rfl, _, _, rfl, rfl, p, _, _, _, rfl, rfl, SqL.of (s23 _ _ hv), at_of (j := i + n) (by omega) hy, _, rfl, _, rfl, _, _, rfl, rfl, sizeS (by show 2 ≤ 100000; decide), fun l hl => ?_⟩
        have s3 := s3.trans (Same.new (o := .tup [.str "old", .int (z + n)]) hl)
        obtain ⟨hd1, hs1⟩ := cell_dp (K := K) (cy.tups (Same.tups (Same.new (o := .tup [.str "old", .int (z + n)]) hl)))
        refine ⟨_, _, hd1, dp_cell upd_same, hs1, cell_shaped _ _ (by decide +kernel), ?_⟩
        rw [show PyData.tuple [.str "old", .int (z + n)] = cellD (.old (z + n)) from rfl, cellD_eqv]
        refine ⟨_, rfl, ite2 (fun g => ?again1) fun g => ?_⟩
        case again1 =>
          have e2 := bound_more e hd g
          refine ⟨fun σ' H' => ∃ m', m' < cs.length - (i + n) ∧ ∃ n : Nat, m' = cs.length - (i + n) ∧ σ' = [some (.ref p), some (.ref f), some (.int (i : Nat)), some (.str "old"), some (.int z), some (.int (n : Nat))] ∧ 1 ≤ n ∧ i + n ≤ cs.length ∧ strOf (cs.take (i + n)) = strOf (cs.take i) ++ [(.old z, n)] ∧ Same H2 H', fun _ _ h => h, ?_⟩
          exact ⟨_, rfl, _, _, rfl, rfl, cs.length - (i + (n + 1)), by omega, n + 1, rfl, by rw [Int.natCast_add]; rfl, by omega, by omega, e2, s3⟩
      all_goals
        have stop : ∀ d, cs[i + n]? = some d → goesB (.old z) n d = false := by
          first
          | exact fun d hd' => by (rw [hd] at hd'; cases hd'; exact Bool.eq_false_iff.mpr g)
          | exact fun d hd' => by
              have := (List.getElem?_eq_some_iff.mp hd').1
              exact absurd (decide_eq_true (show (i : Int) + (n : Int) < vs.length by omega)) hl2
        refine ⟨_, rfl, .inl ⟨rfl, _, SqL.of (s3 _ _ hw)⟩, _, rfl, _, rfl, sizeS (by show 3 ≤ 100000; decide), fun tq htq => ?_⟩
        obtain ⟨b1, b2, b3, b4⟩ := put (.copy z n) n _ tq (s3.trans (Same.new htq)) ⟨tq, rfl, upd_same⟩ (fun _ _ _ e => by cases e) rfl
        refine ⟨f, ws, _, rfl, rfl, b1, sizeL (by omega), _, rfl, _, rfl, _, _, rfl, rfl, ?_⟩
        exact leave n n1 nle e stop _ _ _ _ b2 upd_same b3 b4
    | new z =>
      refine ⟨t, _, rfl, SqT.of ht2, rfl, _, _, rfl, _, _, rfl, rfl, ?_⟩
      refine ⟨_, rfl, rfl, _, rfl, ite2 (fun h => absurd h (by decide)) fun _ => ?_⟩
      refine ⟨fun m σ H3 => ∃ n : Nat, m = cs.length - (i + n) ∧ σ = [some (.ref p), some (.ref f), some (.int (i : Nat)), some (.str "new"), some (.int z), some (.int (n : Nat))] ∧ 1 ≤ n ∧ i + n ≤ cs.length ∧ strOf (cs.take (i + n)) = strOf (cs.take i) ++ [(.new z, n)] ∧ Same H2 H3,
        ⟨_, 1, rfl, rfl, Nat.le_refl _, hlt, one, Same.refl _⟩, ?_⟩
      rintro m σ H3 ⟨n, rfl, rfl, n1, nle, e, s3⟩
      have s23 := s2.trans s3
      refine ⟨_, rfl, _, rfl, _, _, rfl, rfl, _, rfl, _, vs.length, rfl, .inl ⟨_, SqL.of (s23 _ _ hv), rfl⟩, _, _, rfl, rfl, _, rfl, ite2 (fun hl2 => ?more2) fun hl2 => iteF ?_⟩
      case' more2 =>
        have hl2 : i + n < cs.length := by have : (i : Int) + (n : Int) < vs.length := of_decide_eq_true hl2; omega
        obtain ⟨y, hy, cy⟩ := cellAt s23 hl2
        have hd : cs[i + n]? = some (cs.getD (i + n) (.new z)) := by rw [List.getD_eq_getElem?_getD, List.getElem?_eq_getElem hl2]; rfl
        refine ⟨_, rfl, _, rfl, _, rfl, _, _, rfl, rfl, p, _, _, _, rfl, rfl, SqL.of (s23 _ _ hv), at_of (j := i + n) (by omega) hy, _, rfl, _, rfl, p, _, _, _, rfl, rfl, SqL.of (s23 _ _ hv), at_of (j := i) rfl hx, ?_⟩
        obtain ⟨hd1, hs1⟩ := cell_dp (K := K) cy
        obtain ⟨hd2, hs2⟩ := cell_dp (K := K) (c := .new z) ⟨t, rfl, s3 _ _ ht2⟩
        refine ⟨_, _, hd1, hd2, hs1, hs2, ?_⟩
        rw [cellD_eqv]
        refine ⟨_, rfl, ite2 (fun g => ?again2) fun g => ?_⟩
        case again2 =>
          have e2 := bound_more e hd g
          refine ⟨fun σ' H' => ∃ m', m' < cs.length - (i + n) ∧ ∃ n : Nat, m' = cs.length - (i + n) ∧ σ' = [some (.ref p), some (.ref f), some (.int (i : Nat)), some (.str "new"), some (.int z), some (.int (n : Nat))] ∧ 1 ≤ n ∧ i + n ≤ cs.length ∧ strOf (cs.take (i + n)) = strOf (cs.take i) ++ [(.new z, n)] ∧ Same H2 H', fun _ _ h => h, ?_⟩
          exact ⟨_, rfl, _, _, rfl, rfl, cs.length - (i + (n + 1)), by omega, n + 1, rfl, by rw [Int.natCast_add]; rfl, by omega, by omega, e2, s3⟩
      all_goals
        have stop : ∀ d, cs[i + n]? = some d → goesB (.new z) n d = false := by
          first
          | exact fun d hd' => by (rw [hd] at hd'; cases hd'; exact Bool.eq_false_iff.mpr g)
          | exact fun d hd' => by
              have := (List.getElem?_eq_some_iff.mp hd').1
              exact absurd (decide_eq_true (show (i : Int) + (n : Int) < vs.length by omega)) hl2
        have hw3 := s3 _ _ hw
        refine ⟨_, rfl, _, _, rfl, rfl, _, rfl, ite2 (fun g2 => ?_) fun g2 => ?_⟩
        · have g3 : 3 ≤ n := by have : (2 : Int) < n := of_decide_eq_true g2; omega
          refine ⟨_, rfl, .inl ⟨rfl, _, SqL.of hw3⟩, _, rfl, _, rfl, sizeS (by show 3 ≤ 100000; decide), fun tq htq => ?_⟩
          obtain ⟨b1, b2, b3, b4⟩ := put (.run z n) n _ tq (s3.trans (Same.new htq)) ⟨tq, rfl, upd_same⟩ (fun _ _ _ e => by cases e) (by show _ = plStep _ (if 3 ≤ n then Row.run z n else Row.bring (List.replicate n z)); rw [if_pos g3]; rfl)
          refine ⟨f, ws, _, rfl, rfl, b1, sizeL (by omega), _, rfl, _, rfl, _, _, rfl, rfl, ?_⟩
          exact leave n n1 nle e stop _ _ _ _ b2 upd_same b3 b4
        · have g3 : ¬ 3 ≤ n := fun h => g2 (decide_eq_true (show (2 : Int) < n by omega))
          have ep : pieceOf (.new z) n = .bring (List.replicate n z) := by show (if 3 ≤ n then Row.run z n else Row.bring (List.replicate n z)) = _; rw [if_neg g3]
          have erep : (List.replicate (n : Int).toNat [V.int z]).flatten = List.map V.int (List.replicate n z) := by rw [rep_flat, Int.toNat_natCast, List.map_replicate]
          have rsz : [V.int z].length * (n : Int).toNat ≤ sizeLine := sizeS (by show 1 * (n : Int).toNat ≤ 100000; omega)
          refine ⟨_, rfl, sizeS (by show 0 ≤ 100000; decide), fun l hl => ⟨f, l, ws, rfl, rfl, Same.new hl _ _ hw3, upd_same, _, rfl, ?_⟩⟩
          have s4 : Same H2 (upd H3 l (.lst [])) := s3.trans (Same.new hl)
          have hw4 := s4 _ _ hw
          -- a new row
          have fresh : rowsTo cs i ++ [.bring (List.replicate n z)] = plStep (rowsTo cs i) (pieceOf (.new z) n) → ∀ l1, (upd H3 l (.lst [])) l1 = none → ∀ l2, (upd (upd H3 l (.lst [])) l1 (.lst [.int z])) l2 = none → ∀ tq, (upd (upd (upd H3 l (.lst [])) l1 (.lst [.int z])) l2 (.lst (List.replicate (n : Int).toNat [V.int z]).flatten)) tq = none →
              (upd (upd (upd (upd H3 l (.lst [])) l1 (.lst [.int z])) l2 (.lst (List.replicate (n : Int).toNat [V.int z]).flatten)) tq (.tup [.str "bring", .ref l2])) f = some (.lst ws) ∧ _ := fun ee l1 hl1 l2 hl2 tq htq =>
            put (.bring (List.replicate n z)) n _ tq (((s4.trans (Same.new hl1)).trans (Same.new hl2)).trans (Same.new htq)) ⟨tq, l2, rfl, upd_same, Same.new htq _ _ (by rw [upd_same, erep])⟩ (fun bs p' q _ e2 e3 => by
              cases e3
              rw [upd_same] at e2
              injection e2 with e2
              injection e2 with e2
              injection e2 with _ e2
              injection e2 with e2 _
              injection e2 with e2
              rw [← e2]
              exact (ne_of_none ((s4.trans (Same.new hl1)) _ _ hw) hl2).symm) ee
          rcases List.eq_nil_or_concat ws with ew | ⟨ws0, y, ew⟩
          · have acc0 : rowsTo cs i = [] := List.length_eq_zero_iff.mp (by rw [rlen, ew]; rfl)
            have em : (!ws.isEmpty) = false := by rw [ew]; rfl
            rw [em]
            refine iteF (iteF ?_)
            refine ⟨_, rfl, .inl ⟨rfl, _, SqL.of hw4⟩, _, rfl, sizeS (by show 1 ≤ 100000; decide), fun l1 hl1 => ⟨_, rfl, l1, _, _, rfl, rfl, upd_same, by omega, by omega, rsz, fun l2 hl2 => ⟨sizeS (by show 2 ≤ 100000; decide), fun tq htq => ?_⟩⟩⟩
            obtain ⟨b1, b2, b3, b4⟩ := fresh (by rw [ep, acc0]; rfl) l1 hl1 l2 hl2 tq htq
            refine ⟨f, ws, _, rfl, rfl, b1, sizeL (by omega), _, rfl, _, rfl, _, _, rfl, rfl, ?_⟩
            exact leave n n1 nle e stop _ _ _ _ b2 upd_same b3 b4
          · rw [List.concat_eq_append] at ew
            have em : (!ws.isEmpty) = true := by rw [ew]; cases ws0 <;> rfl
            rw [em]
            refine iteT ?_
            obtain ⟨acc0, la, eacc⟩ : ∃ a b, rowsTo cs i = a ++ [b] := by
              rcases List.eq_nil_or_concat (rowsTo cs i) with q | ⟨a, b, q⟩
              · rw [q, ew, List.length_append] at rlen; simp at rlen
              · exact ⟨a, b, by rw [q, List.concat_eq_append]⟩
            have pw4 : Paired (RowV (upd H3 l (.lst []))) (ws0 ++ [y]) (acc0 ++ [la]) := by rw [← ew, ← eacc]; exact pairedMap pw fun _ _ x => x.same s4
            obtain ⟨pw0, hla⟩ := pairedSnoc pw4
            have hw4' := hw4
            rw [ew] at hw4'
            have st : plStep (acc0 ++ [la]) (.bring (List.replicate n z)) = match la with | .bring as => acc0 ++ [.bring (as ++ List.replicate n z)] | _ => acc0 ++ [la] ++ [.bring (List.replicate n z)] := by
              unfold plStep
              rw [List.getLast?_concat]
              cases la with
              | copy b n => rfl
              | run b n => rfl
              | bring as => show (acc0 ++ [Row.bring as]).dropLast ++ _ = _; rw [List.dropLast_concat]
            cases la with
            | copy b m =>
              obtain ⟨u, rfl, hu⟩ := hla
              refine ⟨_, rfl, _, rfl, f, _, _, _, rfl, rfl, SqL.of hw4', atI_last _ _, u, _, _, _, rfl, rfl, SqT.of hu, rfl, rfl, _, rfl, ite2 (fun h => absurd h (by decide)) fun _ => ?_⟩
              refine ⟨_, rfl, .inl ⟨rfl, _, SqL.of hw4⟩, _, rfl, sizeS (by show 1 ≤ 100000; decide), fun l1 hl1 => ⟨_, rfl, l1, _, _, rfl, rfl, upd_same, by omega, by omega, rsz, fun l2 hl2 => ⟨sizeS (by show 2 ≤ 100000; decide), fun tq htq => ?_⟩⟩⟩
              obtain ⟨b1, b2, b3, b4⟩ := fresh (by rw [ep, eacc, st]) l1 hl1 l2 hl2 tq htq
              refine ⟨f, ws, _, rfl, rfl, b1, sizeL (by omega), _, rfl, _, rfl, _, _, rfl, rfl, ?_⟩
              exact leave n n1 nle e stop _ _ _ _ b2 upd_same b3 b4
            | run b m =>
              obtain ⟨u, rfl, hu⟩ := hla
              refine ⟨_, rfl, _, rfl, f, _, _, _, rfl, rfl, SqL.of hw4', atI_last _ _, u, _, _, _, rfl, rfl, SqT.of hu, rfl, rfl, _, rfl, ite2 (fun h => absurd h (by decide)) fun _ => ?_⟩
              refine ⟨_, rfl, .inl ⟨rfl, _, SqL.of hw4⟩, _, rfl, sizeS (by show 1 ≤ 100000; decide), fun l1 hl1 => ⟨_, rfl, l1, _, _, rfl, rfl, upd_same, by omega, by omega, rsz, fun l2 hl2 => ⟨sizeS (by show 2 ≤ 100000; decide), fun tq htq => ?_⟩⟩⟩
              obtain ⟨b1, b2, b3, b4⟩ := fresh (by rw [ep, eacc, st]) l1 hl1 l2 hl2 tq htq
              refine ⟨f, ws, _, rfl, rfl, b1, sizeL (by omega), _, rfl, _, rfl, _, _, rfl, rfl, ?_⟩
              exact leave n n1 nle e stop _ _ _ _ b2 upd_same b3 b4
            | bring as =>
              obtain ⟨u, qa, rfl, hu, hqa⟩ := hla
              refine ⟨_, rfl, _, rfl, f, _, _, _, rfl, rfl, SqL.of hw4', atI_last _ _, u, _, _, _, rfl, rfl, SqT.of hu, rfl, rfl, _, rfl, ite2 (fun _ => ?_) fun h => absurd (by decide) h⟩
              have asl : as.length ≤ 200 := by
                have q := congrArg List.length (rowsTo_cells cs i)
                rw [eacc, cellsOf_app, cellsOf_one, List.length_append, List.length_take] at q
                have q2 : (cellsR (.bring as)).length = as.length := by show (as.map Cell.new).length = _; rw [List.length_map]
                omega
              refine ⟨_, rfl, _, rfl, f, _, _, _, rfl, rfl, SqL.of hw4', atI_last _ _, u, _, _, _, rfl, rfl, SqT.of hu, rfl, _, rfl, sizeS (by show 1 ≤ 100000; decide), fun l1 hl1 => ⟨_, rfl, l1, _, _, rfl, rfl, upd_same, by omega, by omega, rsz, fun l2 hl2 => ?_⟩⟩
              have s42 : Same (upd H3 l (.lst [])) (upd (upd (upd H3 l (.lst [])) l1 (.lst [.int z])) l2 (.lst (List.replicate (n : Int).toNat [V.int z]).flatten)) := (Same.new hl1).trans (Same.new hl2)
              refine ⟨qa, l2, _, _, rfl, rfl, s42 _ _ hqa, upd_same, sizeS (by rw [erep, List.length_map, List.length_map, List.length_replicate]; omega), fun l3 hl3 => ⟨sizeS (by show 2 ≤ 100000; decide), fun tq htq => ?_⟩⟩
              have s45 := s42.trans ((Same.new (o := .lst (List.map V.int as ++ (List.replicate (n : Int).toNat [V.int z]).flatten)) hl3).trans (Same.new (o := .tup [.str "bring", .ref l3]) htq))
              have hw5 := s45 _ _ hw4'
              have hl35 : (upd (upd (upd (upd (upd H3 l (.lst [])) l1 (.lst [.int z])) l2 (.lst (List.replicate (n : Int).toNat [V.int z]).flatten)) l3 (.lst (List.map V.int as ++ (List.replicate (n : Int).toNat [V.int z]).flatten))) tq (.tup [.str "bring", .ref l3])) l3 = some (.lst (List.map V.int (as ++ List.replicate n z))) := Same.new htq _ _ (by rw [upd_same, erep, List.map_append])
              have nf3 : l3 ≠ f := (ne_of_none (s42 _ _ hw4') hl3).symm
              have rs := rows_set hw5 (pairedMap pw0 fun _ _ x => x.same s45) upd_same hl35 nf3
              refine ⟨_, rfl, _, rfl, f, _, _, ws0.length, rfl, rfl, hw5, (by rw [List.length_append]; exact ixN_last), ?_⟩
              have eset : (ws0 ++ [V.ref u]).set ws0.length (.ref tq) = ws0 ++ [.ref tq] := by simp
              rw [eset]
              refine ⟨_, rfl, _, rfl, _, _, rfl, rfl, ?_⟩
              refine leave n n1 nle e stop _ (ws0 ++ [.ref tq]) _ _ (fun b o q => ?_) upd_same (by rw [ew, List.length_append] at wl; rw [List.length_append]; show ws0.length + 1 ≤ i + 1; have : ws0.length + 1 ≤ i := wl; omega) (by rw [ep, eacc, st]; exact rs)
              rw [upd_ne (ne_of_none q hf)]
              exact s45 _ _ (s4 _ _ (s2 _ _ q))
end
def spIsPatch : Sp := fun vs H Q _ => ∃ (v : V) (p : Addr) (rows : List Row) (c : Int), vs = [v, .ref p] ∧ PatchAt H v rows ∧ RowsAt H p rows ∧ (∀ r ∈ rows, r.ok c) ∧ total rows ≤ 10000 ∧ ∀ H', Same H H' → Q (.bl true) H'
def spSize : Sp := fun vs H Q _ => ∃ (v : V) (r : Row), vs = [v] ∧ RowV H v r ∧ r.len ≤ 10000 ∧ Q (.int r.len) H
theorem dp_ints' {K : PySem.W.Frag} {H : Hp} {p : Addr} {ns : List Int} (h : H p = some (.lst (List.map V.int ns))) : Dp K H (.ref p) (.list (ns.map PyData.int)) := by
  refine Dp.lst (SqL.of h) ?_
  clear h
  induction ns with
  | nil => exact .nil
  | cons n r ih => exact .cons (.int n) ih
theorem eqv_ints' (ns : List Int) : PyData.eqv (.list (ns.map PyData.int)) (.list (ns.map PyData.int)) = true :=
  SeqAt.eqv_refl _ (SeqAt.canLay_of_shaped (PySem.W.ke_shaped_ints ns))
theorem alk_tups {H : Hp} {p q : Addr} {xs : List V} (hp : H p = some (.tup xs)) (hq : H q = some (.tup xs)) (hl : xs.length ≤ 100000) (hs : ∀ x ∈ xs, (∃ i, x = .int i) ∨ ∃ s, x = .str s) : Alk H 2 (.ref p) (.ref q) := by
  refine .inr ⟨p, q, xs, xs, rfl, rfl, .inl ⟨hp, hq⟩, hl, ?_⟩
  clear hp hq hl
  induction xs with
  | nil => exact .nil
  | cons x xs ih => exact .cons (.inl ⟨rfl, hs x List.mem_cons_self⟩) (ih fun y hy => hs y (List.mem_cons_of_mem _ hy))
section
variable {P : Program} {w : World} {K : PySem.W.Frag} {mg : Str → Option Value} {base : Heap}
theorem ok_law_is_patch (T : All K mg) : FnOk P w K mg base CX0 3 T.d_law_is_patch.f T.d_law_is_patch.fd ["_law_told", "_law_rows_here"] spIsPatch := by
  have G_numbers_of : FnOk P w K mg base CX0 1 T.d_numbers_of.f T.d_numbers_of.fd ["some"] spNumsOf := ok_numbers_of T
  have G_law_like : FnOk P w K mg base CX0 2 T.d_law_like.f T.d_law_like.fd ["_law_found", "_law_due"] (spLike 2) := ok_law_like T 2
  refine T.d_law_is_patch.F.ok sc_law_is_patch (fun vs H Q E h => ?_) (fun cdv A outer s H vs Q E hr h => ?_)
  · obtain ⟨v, p, _, _, rfl, _⟩ := h
    rfl
  · obtain ⟨v, p, rows, c, rfl, ⟨u, us, rfl, hu, pu⟩, ⟨ws, hw, pw⟩, hok, htot, k⟩ := h
    refine ⟨_, (pss_cons 
      (ps_if (PW.pt (pw_or (pt_not (pt_val (pe_callB call_isi (by rfl) T.b_isinstance (by decide +kernel) (pa_cons (pv 0) (pa_cons (pe_bltn (v := .ty "tuple") (by rfl) T.b_tuple (by decide +kernel) rfl) pa_nil))))) (pw_or1 (pt_cmpR op_ne (pe_callB call_len (by rfl) T.b_len PySem.boot_len (pa_cons (pv 0) pa_nil)) (pe_callB call_len (by rfl) T.b_len PySem.boot_len (pa_cons (pv 1) pa_nil)) (nomark _))))) (pss_one 
      (ps_ret pe_bl)) pss_nil) (pss_cons 
      (ps_for PassesOwn.never rfl (pi_zipM (by rfl) T.b_zip (pa_cons (pv 0) (pa_cons (pv 1) pa_nil))) (pg_tup rfl (pgs_cons (pg_name (i := 2) sc_law_is_patch.nd rfl (Or.inl rfl)) (pgs_cons (pg_name (i := 3) sc_law_is_patch.nd rfl (Or.inl rfl)) pgs_nil))) (pss_cons 
      (ps_if (PW.pt (pw_or (pt_not (pt_val (pe_callB call_isi (by rfl) T.b_isinstance (by decide +kernel) (pa_cons (pv 2) (pa_cons (pe_bltn (v := .ty "tuple") (by rfl) T.b_tuple (by decide +kernel) rfl) pa_nil))))) (pw_or (pt_cmpR op_ne (pe_callB call_len (by rfl) T.b_len PySem.boot_len (pa_cons (pv 2) pa_nil)) (pe_callB call_len (by rfl) T.b_len PySem.boot_len (pa_cons (pv 3) pa_nil)) (nomark _)) (pw_or1 (pt_cmpR op_ne (pe_ix ix_tup (pv 2) pe_int (fun _ _ => rfl)) (pe_ix ix_tup (pv 3) pe_int (fun _ _ => rfl)) (nomark _)))))) (pss_one 
      (ps_ret pe_bl)) pss_nil) (pss_one 
      (ps_if (PW.pt (pw_or (PW.pt (pw_and (pt_cmpR op_eq (pe_ix ix_tup (pv 3) pe_int (fun _ _ => rfl)) pe_str (nomark _)) (pw_and1 (pt_cmpR (op_neD hr.units) (pe_call G_numbers_of (hr.mono (by decide)) rfl T.d_numbers_of.m T.d_numbers_of.F.kp T.d_numbers_of.b .nil pass0 (pa_cons (pe_ix ix_tup (pv 2) pe_int (fun _ _ => rfl)) pa_nil)) (pe_ix ix_tup (pv 3) pe_int (fun _ _ => rfl)) (nomark _))))) (pw_or1 (PW.pt (pw_and (pt_cmpR op_ne (pe_ix ix_tup (pv 3) pe_int (fun _ _ => rfl)) pe_str (nomark _)) (pw_and1 (pt_not (pt_val (pe_call G_law_like (hr.mono (by decide)) rfl T.d_law_like.m T.d_law_like.F.kp T.d_law_like.b .nil pass0 (pa_cons (pv 2) (pa_cons (pe_callTy call_tuple_of (by rfl) T.b_tuple (by decide +kernel) (pa_cons (pv 3) pa_nil)) pa_nil))))))))))) (pss_one 
      (ps_ret pe_bl)) pss_nil)))) (pss_one 
      (ps_ret pe_bl)))), ?_⟩
    have el : us.length = ws.length := by rw [Paired.length pu, Paired.length pw]
    refine ⟨_, rfl, _, _, _, _, true, rfl, .ty _, .base (.tup hu), kit_ty (by decide +kernel), true, rfl, iteF ?_⟩
    refine ⟨_, rfl, _, us.length, rfl, .inr ⟨_, SqT.of hu, rfl⟩, _, rfl, _, ws.length, rfl, .inl ⟨_, SqL.of hw, rfl⟩, rfl, _, rfl, iteNS (by rw [el]) ?_⟩
    refine ⟨_, rfl, _, rfl, u, p, us, ws, rfl, SqT.of hu, SqL.of hw, for_it (walk_zipM el) (fun i σ H2 => ∃ v2 v3 : Option V, σ = [some (.ref u), some (.ref p), v2, v3] ∧ Same H H2)
      ⟨none, none, rfl, Same.refl _⟩ (fun i σ H2 _ ⟨_, _, _, s2⟩ => ⟨SqT.of (s2 _ _ hu), SqL.of (s2 _ _ hw)⟩) ?_ ?_⟩
    · rintro i x σ H2 H3 hi ⟨v2, v3, rfl, s2⟩ ⟨t, x1, y1, rfl, ht, rfl, e1, e2⟩
      obtain ⟨r, hr1, q, rfl, hq⟩ := pairedAt pu e1
      obtain ⟨r', hr1', hrow⟩ := pairedAt pw e2
      rw [hr1] at hr1'
      cases hr1'
      have hro := hok r (List.mem_of_getElem? hr1)
      have hrl : r.len ≤ total rows := len_le_of hok (List.mem_of_getElem? hr1)
      have s3 : Same H (upd H2 t (.tup [.ref q, y1])) := s2.trans (Same.new ht)
      have hq3 := s3 _ _ hq
      refine ⟨t, _, rfl, SqT.of upd_same, rfl, _, _, rfl, _, _, rfl, rfl, ?_⟩
      refine ⟨_, rfl, _, _, _, _, true, rfl, .ty _, .base (.tup hq3), kit_ty (by decide +kernel), true, rfl, iteF ?_⟩
      cases r with
      | copy b n =>
        obtain ⟨z, rfl, hz⟩ := hrow.same s3
        refine ⟨_, rfl, _, 3, rfl, .inr ⟨_, SqT.of hq3, rfl⟩, _, rfl, _, 3, rfl, .inr ⟨_, SqT.of hz, rfl⟩, rfl, _, rfl, iteNS rfl ?_⟩
        refine ⟨_, rfl, q, _, _, _, rfl, rfl, SqT.of hq3, rfl, _, rfl, z, _, _, _, rfl, rfl, SqT.of hz, rfl, rfl, _, rfl, iteNS rfl ?_⟩
        refine ⟨_, rfl, z, _, _, _, rfl, rfl, SqT.of hz, rfl, rfl, _, rfl, ite2 (fun h => absurd h (by decide)) fun _ => iteF ?_⟩
        refine ⟨_, rfl, z, _, _, _, rfl, rfl, SqT.of hz, rfl, rfl, _, rfl, ite2 (fun _ => ?_) fun h => absurd (by decide) h⟩
        refine ⟨_, rfl, _, rfl, z, _, rfl, .inr ⟨SqT.of hz, .ref q, .ref z, rfl, alk_tups hq3 hz (by show 3 ≤ 100000; decide) ?_, fun H4 s4 => ⟨_, rfl, iteF ⟨_, _, rfl, s3.trans s4⟩⟩⟩⟩
        intro x hx
        simp [Row.tup] at hx
        rcases hx with rfl | rfl | rfl
        · exact .inr ⟨_, rfl⟩
        · exact .inl ⟨_, rfl⟩
        · exact .inl ⟨_, rfl⟩
      | run b n =>
        obtain ⟨z, rfl, hz⟩ := hrow.same s3
        refine ⟨_, rfl, _, 3, rfl, .inr ⟨_, SqT.of hq3, rfl⟩, _, rfl, _, 3, rfl, .inr ⟨_, SqT.of hz, rfl⟩, rfl, _, rfl, iteNS rfl ?_⟩
        refine ⟨_, rfl, q, _, _, _, rfl, rfl, SqT.of hq3, rfl, _, rfl, z, _, _, _, rfl, rfl, SqT.of hz, rfl, rfl, _, rfl, iteNS rfl ?_⟩
        refine ⟨_, rfl, z, _, _, _, rfl, rfl, SqT.of hz, rfl, rfl, _, rfl, ite2 (fun h => absurd h (by decide)) fun _ => iteF ?_⟩
        refine ⟨_, rfl, z, _, _, _, rfl, rfl, SqT.of hz, rfl, rfl, _, rfl, ite2 (fun _ => ?_) fun h => absurd (by decide) h⟩
        refine ⟨_, rfl, _, rfl, z, _, rfl, .inr ⟨SqT.of hz, .ref q, .ref z, rfl, alk_tups hq3 hz (by show 3 ≤ 100000; decide) ?_, fun H4 s4 => ⟨_, rfl, iteF ⟨_, _, rfl, s3.trans s4⟩⟩⟩⟩
        intro x hx
        simp [Row.tup] at hx
        rcases hx with rfl | rfl | rfl
        · exact .inr ⟨_, rfl⟩
        · exact .inl ⟨_, rfl⟩
        · exact .inl ⟨_, rfl⟩
      | bring bs =>
        obtain ⟨z, l, rfl, hz, hl⟩ := hrow.same s3
        have hbl : (bs.length : Int) ≤ total rows := hrl
        refine ⟨_, rfl, _, 2, rfl, .inr ⟨_, SqT.of hq3, rfl⟩, _, rfl, _, 2, rfl, .inr ⟨_, SqT.of hz, rfl⟩, rfl, _, rfl, iteNS rfl ?_⟩
        refine ⟨_, rfl, q, _, _, _, rfl, rfl, SqT.of hq3, rfl, _, rfl, z, _, _, _, rfl, rfl, SqT.of hz, rfl, rfl, _, rfl, iteNS rfl ?_⟩
        refine ⟨_, rfl, z, _, _, _, rfl, rfl, SqT.of hz, rfl, rfl, _, rfl, ite2 (fun _ => ?_) fun h => absurd (by decide) h⟩
        refine ⟨_, rfl, q, _, _, _, rfl, rfl, SqT.of hq3, rfl, bs, rfl, hro.2, by omega, fun m hm => ?_⟩
        have s4 := s3.trans (Same.new (o := .lst (List.map V.int bs)) hm)
        refine ⟨_, rfl, z, _, _, _, rfl, rfl, SqT.of (Same.new hm _ _ hz), rfl, _, _, dp_ints' upd_same, dp_ints' (Same.new hm _ _ hl), PySem.W.ke_shaped_ints _, PySem.W.ke_shaped_ints _, ?_⟩
        rw [eqv_ints']
        refine ⟨_, rfl, iteF ?_⟩
        refine ⟨_, rfl, z, _, _, _, rfl, rfl, SqT.of (Same.new hm _ _ hz), rfl, rfl, _, rfl, iteNS rfl (iteF ?_)⟩
        exact ⟨_, _, rfl, s4⟩
    · rintro σ H2 ⟨v2, v3, rfl, s2⟩
      exact k H2 s2
theorem ok_law_size (T : All K mg) : FnOk P w K mg base CX0 1 T.d_law_size.f T.d_law_size.fd ["_law_row"] spSize := by
  refine T.d_law_size.F.ok sc_law_size (fun vs H Q E h => ?_) (fun cdv A outer s H vs Q E hr h => ?_)
  · obtain ⟨v, _, rfl, _⟩ := h
    rfl
  · obtain ⟨v, r, rfl, hr, hl, k⟩ := h
    refine ⟨_, (pss_one 
      (ps_ret (pe_ifExp (pt_cmpR op_eq (pe_ix ix_tup (pv 0) pe_int (fun _ _ => rfl)) pe_str (nomark _)) (pe_callB call_len (by rfl) T.b_len PySem.boot_len (pa_cons (pe_ix ix_tup (pv 0) pe_int (fun _ _ => rfl)) pa_nil)) (pe_ix ix_tup (pv 0) pe_int (fun _ _ => rfl))))), ?_⟩
    cases r with
    | copy b n =>
      obtain ⟨p, rfl, hp⟩ := hr
      refine ⟨_, rfl, p, _, _, _, rfl, rfl, SqT.of hp, rfl, rfl, _, rfl, ite2 (fun h => absurd h (by decide)) fun _ => ?_⟩
      exact ⟨_, rfl, p, _, _, _, rfl, rfl, SqT.of hp, rfl, k⟩
    | run b n =>
      obtain ⟨p, rfl, hp⟩ := hr
      refine ⟨_, rfl, p, _, _, _, rfl, rfl, SqT.of hp, rfl, rfl, _, rfl, ite2 (fun h => absurd h (by decide)) fun _ => ?_⟩
      exact ⟨_, rfl, p, _, _, _, rfl, rfl, SqT.of hp, rfl, k⟩
    | bring bs =>
      obtain ⟨p, q, rfl, hp, hq⟩ := hr
      refine ⟨_, rfl, p, _, _, _, rfl, rfl, SqT.of hp, rfl, rfl, _, rfl, ite2 (fun _ => ?_) fun h => absurd (by decide) h⟩
      exact ⟨_, rfl, p, _, _, _, rfl, rfl, SqT.of hp, rfl, _, bs.length, rfl, .inl ⟨_, SqL.of hq, by rw [List.length_map]⟩, k⟩
end
def spLaw (K : PySem.W.Frag) : Sp := fun vs H Q _ => ∃ (a : Addr) (ns : List Int), vs = [.ref a] ∧ SqL K H a (ns.map V.int) ∧ ns.length ≤ 63 ∧ ∀ H', Q (.bl true) H'
theorem cut_to {xs : List V} {k : Nat} (h : k ≤ xs.length) : cutV xs none (some (k : Int)) = xs.take k := by
  unfold cutV
  rw [HT.sIx_none, HT.sIx_nat, List.drop_zero, Nat.min_eq_left h, Nat.sub_zero]
theorem cut_from {xs : List V} {k : Nat} (h : k ≤ xs.length) : cutV xs (some (k : Int)) none = xs.drop k := by
  unfold cutV
  rw [HT.sIx_none, HT.sIx_nat, Nat.min_eq_left h]
  exact List.take_of_length_le (by rw [List.length_drop]; exact Nat.le_refl _)
section
variable {P : Program} {w : World} {K : PySem.W.Frag} {mg : Str → Option Value} {base : Heap}
theorem ok_law (T : All K mg) {f : Addr} {fd : FuncData} (F : Fun K "law" "law" s_law f fd) : FnOk P w K mg base CX0 6 f fd ["_law_script"] (spLaw K) := by
  have G_law_dice : FnOk P w K mg base CX0 1 T.d_law_dice.f T.d_law_dice.fd ["_law_script"] (spDice K) := ok_law_dice T
  have G_law_next : FnOk P w K mg base CX0 1 T.d_law_next.f T.d_law_next.fd ["_law_dice_here", "_law_many"] (spNext K) := ok_law_next T
  have G_law_rows : FnOk P w K mg base CX0 2 T.d_law_rows.f T.d_law_rows.fd ["_law_d", "_law_count", "_law_most"] (spRows K) := ok_law_rows T
  have G_law_handed : FnOk P w K mg base CX0 3 T.d_law_handed.f T.d_law_handed.fd ["_law_rows_here"] spHanded := ok_law_handed T
  have G_plain : FnOk P w K mg base CX0 5 T.d_plain.f T.d_plain.fd ["patch"] spPlain := ok_plain T
  have G_law_size : FnOk P w K mg base CX0 1 T.d_law_size.f T.d_law_size.fd ["_law_row"] spSize := ok_law_size T
  have G_law_cells : FnOk P w K mg base CX0 1 T.d_law_cells.f T.d_law_cells.fd ["_law_rows_here"] spLCells := ok_law_cells T
  have G_law_plainly : FnOk P w K mg base CX0 1 T.d_law_plainly.f T.d_law_plainly.fd ["_law_some"] spPlainly := ok_law_plainly T
  have G_law_is_patch : FnOk P w K mg base CX0 3 T.d_law_is_patch.f T.d_law_is_patch.fd ["_law_told", "_law_rows_here"] spIsPatch := ok_law_is_patch T
  refine F.ok sc_law (fun vs H Q E h => ?_) (fun cdv A outer s H vs Q E hr h => ?_)
  · obtain ⟨a, ns, rfl, _⟩ := h
    rfl
  · obtain ⟨a, ns, rfl, hS, hl, k⟩ := h
    refine ⟨_, (pss_cons 
      (ps_set (i := 1) sc_law.nd rfl (Or.inl rfl) (pe_call G_law_dice (hr.mono (by decide)) rfl T.d_law_dice.m T.d_law_dice.F.kp T.d_law_dice.b .nil pass0 (pa_cons (pv 0) pa_nil))) (pss_cons 
      (ps_for PassesOwn.never rfl (pi_range1 (by rfl) T.b_range (pa_cons pe_int pa_nil)) (pg_name (i := 2) sc_law.nd rfl (Or.inl rfl)) (pss_cons 
      (ps_set (i := 3) sc_law.nd rfl (Or.inl rfl) (pe_lst pa_nil)) (pss_cons 
      (ps_for PassesOwn.never rfl (pi_list (pe_call G_law_rows (hr.mono (by decide)) rfl T.d_law_rows.m T.d_law_rows.F.kp T.d_law_rows.b .nil pass0 (pa_cons (pv 1) (pa_cons pe_int (pa_cons pe_int pa_nil))))) (pg_name (i := 4) sc_law.nd rfl (Or.inl rfl)) (pss_cons 
      (ps_set (i := 5) sc_law.nd rfl (Or.inl rfl) (pe_call G_law_size (hr.mono (by decide)) rfl T.d_law_size.m T.d_law_size.F.kp T.d_law_size.b .nil pass0 (pa_cons (pv 4) pa_nil))) (pss_cons 
      (ps_set (i := 6) sc_law.nd rfl (Or.inl rfl) (pe_op op_add pe_int (pe_call G_law_next (hr.mono (by decide)) rfl T.d_law_next.m T.d_law_next.F.kp T.d_law_next.b .nil pass0 (pa_cons (pv 1) (pa_cons (pv 5) pa_nil))))) (pss_one 
      (ps_if (pt_cmpR op_eq (pe_ix ix_tup (pv 4) pe_int (fun _ _ => rfl)) pe_str (nomark _)) (pss_one 
      (ps_set (i := 3) sc_law.nd rfl (Or.inl rfl) (pe_op op_cat (pe_op op_cat (pv 3) (pe_lst (pa_cons (pe_tup (pa_cons pe_str (pa_cons (pe_ix ix_tup (pv 4) pe_int (fun _ _ => rfl)) (pa_cons (pv 6) pa_nil)))) pa_nil))) (pe_op op_rep (pe_lst (pa_cons (pe_tup (pa_cons pe_str (pa_cons (pe_op op_add (pe_ix ix_tup (pv 4) pe_int (fun _ _ => rfl)) (pv 6)) (pa_cons (pe_op op_sub (pv 5) (pv 6)) pa_nil)))) pa_nil)) (pe_callTy call_int1 (by rfl) T.b_int PyProof.Rows.boot_int (pa_cons (pe_cmpR op_lt (pv 6) (pv 5) (nomark _)) pa_nil)))))) (pss_one 
      (ps_if (pt_cmpR op_eq (pe_ix ix_tup (pv 4) pe_int (fun _ _ => rfl)) pe_str (nomark _)) (pss_one 
      (ps_set (i := 3) sc_law.nd rfl (Or.inl rfl) (pe_op op_cat (pe_op op_cat (pv 3) (pe_lst (pa_cons (pe_tup (pa_cons pe_str (pa_cons (pe_ix ix_tup (pv 4) pe_int (fun _ _ => rfl)) (pa_cons (pv 6) pa_nil)))) pa_nil))) (pe_op op_rep (pe_lst (pa_cons (pe_tup (pa_cons pe_str (pa_cons (pe_op op_rep (pe_lst (pa_cons (pe_ix ix_tup (pv 4) pe_int (fun _ _ => rfl)) pa_nil)) (pe_op op_sub (pv 5) (pv 6))) pa_nil))) pa_nil)) (pe_callTy call_int1 (by rfl) T.b_int PyProof.Rows.boot_int (pa_cons (pe_cmpR op_lt (pv 6) (pv 5) (nomark _)) pa_nil)))))) (pss_one 
      (ps_set (i := 3) sc_law.nd rfl (Or.inl rfl) (pe_op op_cat (pe_op op_cat (pv 3) (pe_lst (pa_cons (pe_tup (pa_cons pe_str (pa_cons (pe_slice sl_list (pe_ix ix_tup (pv 4) pe_int (fun _ _ => rfl)) po_none (po_some (pv 6))) pa_nil))) pa_nil))) (pe_op op_rep (pe_lst (pa_cons (pe_tup (pa_cons pe_str (pa_cons (pe_slice sl_list (pe_ix ix_tup (pv 4) pe_int (fun _ _ => rfl)) (po_some (pv 6)) po_none) pa_nil))) pa_nil)) (pe_callTy call_int1 (by rfl) T.b_int PyProof.Rows.boot_int (pa_cons (pe_cmpR op_lt (pv 6) (pv 5) (nomark _)) pa_nil))))))))))))) (pss_one 
      (ps_if (pt_not (pt_val (pe_call G_law_is_patch (hr.mono (by decide)) rfl T.d_law_is_patch.m T.d_law_is_patch.F.kp T.d_law_is_patch.b .nil pass0 (pa_cons (pe_call G_plain (hr.mono (by decide)) rfl T.d_plain.m T.d_plain.F.kp T.d_plain.b .nil pass0 (pa_cons (pe_call G_law_handed (hr.mono (by decide)) rfl T.d_law_handed.m T.d_law_handed.F.kp T.d_law_handed.b .nil pass0 (pa_cons (pv 3) pa_nil)) pa_nil)) (pa_cons (pe_call G_law_plainly (hr.mono (by decide)) rfl T.d_law_plainly.m T.d_law_plainly.F.kp T.d_law_plainly.b .nil pass0 (pa_cons (pe_call G_law_cells (hr.mono (by decide)) rfl T.d_law_cells.m T.d_law_cells.F.kp T.d_law_cells.b .nil pass0 (pa_cons (pv 3) pa_nil)) pa_nil)) pa_nil))))) (pss_one 
      (ps_ret pe_bl)) pss_nil))))) (pss_one 
      (ps_ret pe_bl)))), ?_⟩
    refine ⟨_, rfl, a, ns, rfl, hS, hl, fun H1 d s1 hd D1 => ?_⟩
    refine ⟨4, rfl, by decide, by decide, for_range (lo := 0) (n := 4) (fun i σ H2 => ∃ v2 v3 v4 v5 v6 : Option V, σ = [some (.ref a), some (.ref d), v2, v3, v4, v5, v6] ∧ Dice K a ns H2 d)
      ⟨none, none, none, none, none, rfl, D1⟩ ?_ ?_⟩
    · rintro i σ H2 hi ⟨v2, v3, v4, v5, v6, rfl, D2⟩
      refine ⟨sizeS (by show 0 ≤ 100000; decide), fun f0 hf0 => ?_⟩
      refine ⟨_, rfl, a, ns, d, 60, 80, rfl, D2.same (Same.new hf0), by decide, by decide, by decide, by decide, fun H3 p rows b3 D3 hp hR hok htot => ?_⟩
      have f03 : H3 f0 = some (.lst []) := b3 f0 _ (D2.ne hf0) upd_same
      obtain ⟨vs, hv, hpr⟩ := hR
      have hlen := len_le_total hok
      have hvl : vs.length = rows.length := Paired.length hpr
      have npd : p ≠ d := (D2.same (Same.new (o := .lst []) hf0)).ne hp
      refine ⟨p, rfl, ⟨vs, SqL.of hv⟩, for_list (K := K) (a := p) (xs := vs) (fun j σ H4 => ∃ (f : Addr) (ws : List V) (rs : List Row) (v4 v5 v6 : Option V), σ = [some (.ref a), some (.ref d), some (.int (0 + (i : Nat))), some (.ref f), v4, v5, v6] ∧ But d H3 H4 ∧ Dice K a ns H4 d ∧ f ≠ d ∧ H4 f = some (.lst ws) ∧ Paired (RowV H4) ws rs ∧ (∀ r ∈ rs, r.ok 60) ∧ total rs = total (rows.take j))
        ⟨f0, [], [], _, _, _, rfl, But.refl _ _, D3, D2.ne hf0, f03, .nil, fun r hr => (List.not_mem_nil hr).elim, rfl⟩ (fun j σ H4 _ ⟨_, _, _, _, _, _, _, b4, _⟩ => SqL.of (b4 _ _ npd hv)) ?_ ?_⟩
      · rintro j x σ H4 hj ⟨f, ws, rs, v4, v5, v6, rfl, b4, D4, nfd, hf4, pf4, hrs, htr⟩
        obtain ⟨r, hr1, hrow3⟩ := pairedAt hpr hj
        have hro := hok r (List.mem_of_getElem? hr1)
        have hrl : r.len ≤ total rows := len_le_of hok (List.mem_of_getElem? hr1)
        have hrp := Row.len_pos hro
        have hrow := hrow3.but D3 b4
        have tt := total_take_le hok j
        have rsl := len_le_total hrs
        have wl : ws.length = rs.length := Paired.length pf4
        refine ⟨_, rfl, x, r, rfl, hrow, by omega, ?_⟩
        refine ⟨_, rfl, _, rfl, a, ns, d, r.len, rfl, D4, hrp, by omega, fun H5 kz b5 D5 k0 k1 => ⟨_, _, rfl, rfl, ?_⟩⟩
        obtain ⟨kk, hk⟩ : ∃ kk : Nat, 1 + kz = (kk : Int) := ⟨(1 + kz).toNat, by omega⟩
        show gName 6 (V.int (1 + kz)) _ _ _
        rw [hk]
        have kk1 : 1 ≤ kk := by omega
        have kk2 : (kk : Int) ≤ r.len := by omega
        have b45 := b4.trans b5
        have hf5 : H5 f = some (.lst ws) := b5 f _ nfd hf4
        have pf5 := pairedMap pf4 fun _ _ x => x.but D4 b5
        have row5 := hrow.but D4 b5
        -- the list's new rows
        have fin : ∀ (H6 : Hp) (q : Addr) (t1 t2 : V) (r1 r2 : Row) (m : Nat), Same H5 H6 → H6 q = some (.lst (ws ++ [t1] ++ (List.replicate m [t2]).flatten)) → (∀ o, H5 q = some o → False) → RowV H6 t1 r1 → RowV H6 t2 r2 → r1.ok 60 → (m = 1 → r2.ok 60) → (m = 0 ∧ r1.len = r.len ∨ m = 1 ∧ r1.len + r2.len = r.len) →
            ∃ (f : Addr) (ws : List V) (rs : List Row) (v4 v5 v6 : Option V), [some (V.ref a), some (V.ref d), some (V.int (0 + (i : Nat))), some (V.ref q), some x, some (V.int r.len), some (V.int (kk : Int))] = [some (.ref a), some (.ref d), some (.int (0 + (i : Nat))), some (.ref f), v4, v5, v6] ∧ But d H3 H6 ∧ Dice K a ns H6 d ∧ f ≠ d ∧ H6 f = some (.lst ws) ∧ Paired (RowV H6) ws rs ∧ (∀ r ∈ rs, r.ok 60) ∧ total rs = total (rows.take (j + 1)) := by
          intro H6 q t1 t2 r1 r2 m s6 hq hnew h1 h2 o1 o2 hm
          have hqd : q ≠ d := by
            rintro rfl
            obtain ⟨_, e⟩ := D5.is
            exact hnew _ e
          have pf6 := pairedMap pf5 fun _ _ x => x.same s6
          rw [rep_flat] at hq
          have ht : total (rows.take (j + 1)) = total (rows.take j) + r.len := total_take hr1
          rcases hm with ⟨rfl, e⟩ | ⟨rfl, e⟩
          · refine ⟨q, _, rs ++ [r1], _, _, _, rfl, b45.trans (Same.but s6), D5.same s6, hqd, hq, ?_, ?_, ?_⟩
            · rw [List.replicate_zero, List.append_nil]
              exact pairedApp pf6 (.cons h1 .nil)
            · intro y hy
              rcases List.mem_append.mp hy with hy | hy
              · exact hrs y hy
              · rw [List.mem_singleton.mp hy]; exact o1
            · rw [total_app]
              have : total [r1] = r1.len := by show r1.len + 0 = _; omega
              omega
          · refine ⟨q, _, rs ++ [r1] ++ [r2], _, _, _, rfl, b45.trans (Same.but s6), D5.same s6, hqd, hq, ?_, ?_, ?_⟩
            · exact pairedApp (pairedApp pf6 (.cons h1 .nil)) (.cons h2 .nil)
            · intro y hy
              rcases List.mem_append.mp hy with hy | hy
              · rcases List.mem_append.mp hy with hy | hy
                · exact hrs y hy
                · rw [List.mem_singleton.mp hy]; exact o1
              · rw [List.mem_singleton.mp hy]; exact o2 rfl
            · rw [total_app, total_app]
              have e1 : total [r1] = r1.len := by show r1.len + 0 = _; omega
              have e2 : total [r2] = r2.len := by show r2.len + 0 = _; omega
              omega
        -- how often
        have often : ∃ m : Nat, (m = 0 ∧ (kk : Int) = r.len ∨ m = 1 ∧ (kk : Int) < r.len) ∧ (if decide ((kk : Int) < r.len) = true then (1 : Int) else 0) = m := by
          by_cases c : (kk : Int) < r.len
          · exact ⟨1, .inr ⟨rfl, c⟩, by rw [decide_eq_true c]; rfl⟩
          · exact ⟨0, .inl ⟨rfl, by omega⟩, by rw [decide_eq_false c]; rfl⟩
        obtain ⟨m, hm, em⟩ := often
        have m1 : m ≤ 1 := by rcases hm with ⟨rfl, _⟩ | ⟨rfl, _⟩ <;> omega
        have wsz : ws.length ≤ 1000 := by omega
        cases r with
        | copy b n =>
          obtain ⟨t, rfl, ht⟩ := row5
          have h1 := hro.1
          have h3 := hro.2.2
          have kn : (kk : Int) ≤ n := kk2
          refine ⟨_, rfl, t, _, _, _, rfl, rfl, SqT.of ht, rfl, rfl, _, rfl, ite2 (fun _ => ?_) fun h => absurd (by decide) h⟩
          refine ⟨_, rfl, _, rfl, t, _, _, _, rfl, rfl, SqT.of ht, rfl, _, rfl, sizeS (by show 3 ≤ 100000; decide), fun t1 ht1 => ⟨sizeS (by show 1 ≤ 100000; decide), fun l1 hl1 => ?_⟩⟩
          have sa := (Same.new (o := .tup [.str "copy", .int b, .int (kk : Int)]) ht1).trans (Same.new (o := .lst [.ref t1]) hl1)
          refine ⟨f, l1, _, _, rfl, rfl, sa _ _ hf5, upd_same, sizeS (by show ws.length + 1 ≤ 100000; omega), fun c1 hc1 => ?_⟩
          have sb := sa.trans (Same.new (o := .lst (ws ++ [.ref t1])) hc1)
          refine ⟨_, rfl, t, _, _, _, rfl, rfl, SqT.of (sb _ _ ht), rfl, _, rfl, _, _, rfl, rfl, _, rfl, _, rfl, _, _, rfl, rfl, sizeS (by show 3 ≤ 100000; decide), fun t2 ht2 => ⟨sizeS (by show 1 ≤ 100000; decide), fun l2 hl2 => ?_⟩⟩
          have sc := (Same.new (o := .tup [.str "copy", .int (b + kk), .int (n - kk)]) ht2).trans (Same.new (o := .lst [.ref t2]) hl2)
          refine ⟨_, rfl, _, rfl, _, _, rfl, rfl, .inr ⟨_, rfl, ?_⟩⟩
          rw [show (if decide ((kk : Int) < (Row.copy b n).len) = true then (1 : Int) else 0) = m from em]
          refine ⟨l2, _, _, rfl, rfl, upd_same, by omega, by omega, sizeS (by show 1 * ((m : Int)).toNat ≤ 100000; omega), fun l3 hl3 => ?_⟩
          rw [Int.toNat_natCast]
          have sd := sc.trans (Same.new (o := .lst (List.replicate m [V.ref t2]).flatten) hl3)
          refine ⟨c1, l3, _, _, rfl, rfl, sd _ _ upd_same, upd_same, sizeS (by rw [rep_flat, List.length_append, List.length_replicate]; show ws.length + 1 + m ≤ 100000; omega), fun q hq => ?_⟩
          have se := (sb.trans sd).trans (Same.new (o := .lst (ws ++ [V.ref t1] ++ (List.replicate m [V.ref t2]).flatten)) hq)
          refine fin _ q (.ref t1) (.ref t2) (.copy b kk) (.copy (b + kk) (n - kk)) m se upd_same (fun o e => ?_) ⟨t1, rfl, ?_⟩ ⟨t2, rfl, ?_⟩ ⟨h1, by omega, by omega⟩ (fun e => ?_) ?_
          · rw [(sb.trans sd).free hq] at e; cases e
          · exact (((Same.new hl1).trans (Same.new hc1)).trans sd |>.trans (Same.new hq)) _ _ upd_same
          · exact (((Same.new hl2).trans (Same.new hl3)).trans (Same.new hq)) _ _ upd_same
          · rcases hm with ⟨rfl, _⟩ | ⟨rfl, hh⟩
            · cases e
            · have hh : (kk : Int) < n := hh
              exact ⟨by omega, by omega, by omega⟩
          · rcases hm with ⟨rfl, hh⟩ | ⟨rfl, hh⟩
            · exact .inl ⟨rfl, hh⟩
            · exact .inr ⟨rfl, by show (kk : Int) + (n - kk) = n; omega⟩
        | run b n =>
          obtain ⟨t, rfl, ht⟩ := row5
          have kn : (kk : Int) ≤ n := kk2
          have hn : n ≤ 80 := by have : n ≤ total rows := hrl; omega
          refine ⟨_, rfl, t, _, _, _, rfl, rfl, SqT.of ht, rfl, rfl, _, rfl, ite2 (fun h => absurd h (by decide)) fun _ => ?_⟩
          refine ⟨_, rfl, t, _, _, _, rfl, rfl, SqT.of ht, rfl, rfl, _, rfl, ite2 (fun _ => ?_) fun h => absurd (by decide) h⟩
          refine ⟨_, rfl, _, rfl, t, _, _, _, rfl, rfl, SqT.of ht, rfl, _, rfl, sizeS (by show 3 ≤ 100000; decide), fun t1 ht1 => ⟨sizeS (by show 1 ≤ 100000; decide), fun l1 hl1 => ?_⟩⟩
          have sa := (Same.new (o := .tup [.str "run", .int b, .int (kk : Int)]) ht1).trans (Same.new (o := .lst [.ref t1]) hl1)
          refine ⟨f, l1, _, _, rfl, rfl, sa _ _ hf5, upd_same, sizeS (by show ws.length + 1 ≤ 100000; omega), fun c1 hc1 => ?_⟩
          have sb := sa.trans (Same.new (o := .lst (ws ++ [.ref t1])) hc1)
          refine ⟨_, rfl, t, _, _, _, rfl, rfl, SqT.of (sb _ _ ht), rfl, sizeS (by show 1 ≤ 100000; decide), fun e1 he1 => ⟨_, rfl, _, rfl, _, _, rfl, rfl, e1, _, _, rfl, rfl, upd_same, ?_, ?_, sizeS ?_, fun e2 he2 => ⟨sizeS (by show 2 ≤ 100000; decide), fun t2 ht2 => ⟨sizeS (by show 1 ≤ 100000; decide), fun l2 hl2 => ?_⟩⟩⟩⟩
          · show -(2 ^ 63) ≤ n - (kk : Int); omega
          · show n - (kk : Int) < 2 ^ 63; omega
          · show 1 * (n - (kk : Int)).toNat ≤ 100000; omega
          have sc0 := (Same.new (o := .lst [.int b]) he1).trans (Same.new (o := .lst (List.replicate (n - (kk : Int)).toNat [V.int b]).flatten) he2)
          have sc := sc0.trans ((Same.new (o := .tup [.str "bring", .ref e2]) ht2).trans (Same.new (o := .lst [.ref t2]) hl2))
          refine ⟨_, rfl, _, rfl, _, _, rfl, rfl, .inr ⟨_, rfl, ?_⟩⟩
          rw [show (if decide ((kk : Int) < (Row.run b n).len) = true then (1 : Int) else 0) = m from em]
          refine ⟨l2, _, _, rfl, rfl, upd_same, by omega, by omega, sizeS (by show 1 * ((m : Int)).toNat ≤ 100000; omega), fun l3 hl3 => ?_⟩
          rw [Int.toNat_natCast]
          have sd := sc.trans (Same.new (o := .lst (List.replicate m [V.ref t2]).flatten) hl3)
          refine ⟨c1, l3, _, _, rfl, rfl, sd _ _ upd_same, upd_same, sizeS (by rw [rep_flat, List.length_append, List.length_replicate]; show ws.length + 1 + m ≤ 100000; omega), fun q hq => ?_⟩
          have se := (sb.trans sd).trans (Same.new (o := .lst (ws ++ [V.ref t1] ++ (List.replicate m [V.ref t2]).flatten)) hq)
          refine fin _ q (.ref t1) (.ref t2) (.run b kk) (.bring (List.replicate (n - (kk : Int)).toNat b)) m se upd_same (fun o e => ?_) ⟨t1, rfl, ?_⟩ ⟨t2, e2, rfl, ?_, ?_⟩ ⟨hro.1, hro.2.1, by omega⟩ (fun e => ?_) ?_
          · rw [(sb.trans sd).free hq] at e; cases e
          · exact (((Same.new hl1).trans (Same.new hc1)).trans sd |>.trans (Same.new hq)) _ _ upd_same
          · exact (((Same.new hl2).trans (Same.new hl3)).trans (Same.new hq)) _ _ upd_same
          · refine ((((Same.new ht2).trans (Same.new hl2)).trans (Same.new hl3)).trans (Same.new hq)) _ _ ?_
            rw [upd_same, rep_flat, List.map_replicate]
            rfl
          · rcases hm with ⟨rfl, _⟩ | ⟨rfl, hh⟩
            · cases e
            · have hh : (kk : Int) < n := hh
              exact ⟨by rw [List.length_replicate]; omega, fun y hy => by rw [List.eq_of_mem_replicate hy]; exact ⟨hro.1, hro.2.1⟩⟩
          · rcases hm with ⟨rfl, hh⟩ | ⟨rfl, hh⟩
            · exact .inl ⟨rfl, hh⟩
            · exact .inr ⟨rfl, by show (kk : Int) + ((List.replicate (n - (kk : Int)).toNat b).length : Nat) = n; rw [List.length_replicate]; omega⟩
        | bring bs =>
          obtain ⟨t, u, rfl, ht, hu⟩ := row5
          have kn : (kk : Int) ≤ bs.length := kk2
          have kl : kk ≤ (List.map V.int bs).length := by rw [List.length_map]; omega
          refine ⟨_, rfl, t, _, _, _, rfl, rfl, SqT.of ht, rfl, rfl, _, rfl, ite2 (fun h => absurd h (by decide)) fun _ => ?_⟩
          refine ⟨_, rfl, t, _, _, _, rfl, rfl, SqT.of ht, rfl, rfl, _, rfl, ite2 (fun h => absurd h (by decide)) fun _ => ?_⟩
          refine ⟨_, rfl, _, rfl, t, _, _, _, rfl, rfl, SqT.of ht, rfl, _, rfl, kk, rfl, u, _, rfl, SqL.of hu, fun e1 he1 => ?_⟩
          rw [cut_to kl]
          refine ⟨sizeS (by show 2 ≤ 100000; decide), fun t1 ht1 => ⟨sizeS (by show 1 ≤ 100000; decide), fun l1 hl1 => ?_⟩⟩
          have sa := (Same.new (o := .lst ((List.map V.int bs).take kk)) he1).trans ((Same.new (o := .tup [.str "bring", .ref e1]) ht1).trans (Same.new (o := .lst [.ref t1]) hl1))
          refine ⟨f, l1, _, _, rfl, rfl, sa _ _ hf5, upd_same, sizeS (by show ws.length + 1 ≤ 100000; omega), fun c1 hc1 => ?_⟩
          have sb := sa.trans (Same.new (o := .lst (ws ++ [.ref t1])) hc1)
          refine ⟨_, rfl, t, _, _, _, rfl, rfl, SqT.of (sb _ _ ht), rfl, _, rfl, kk, rfl, u, _, rfl, SqL.of (sb _ _ hu), fun e2 he2 => ?_⟩
          rw [cut_from kl]
          refine ⟨sizeS (by show 2 ≤ 100000; decide), fun t2 ht2 => ⟨sizeS (by show 1 ≤ 100000; decide), fun l2 hl2 => ?_⟩⟩
          have sc := (Same.new (o := .lst ((List.map V.int bs).drop kk)) he2).trans ((Same.new (o := .tup [.str "bring", .ref e2]) ht2).trans (Same.new (o := .lst [.ref t2]) hl2))
          refine ⟨_, rfl, _, rfl, _, _, rfl, rfl, .inr ⟨_, rfl, ?_⟩⟩
          rw [show (if decide ((kk : Int) < (Row.bring bs).len) = true then (1 : Int) else 0) = m from em]
          refine ⟨l2, _, _, rfl, rfl, upd_same, by omega, by omega, sizeS (by show 1 * ((m : Int)).toNat ≤ 100000; omega), fun l3 hl3 => ?_⟩
          rw [Int.toNat_natCast]
          have sd := sc.trans (Same.new (o := .lst (List.replicate m [V.ref t2]).flatten) hl3)
          refine ⟨c1, l3, _, _, rfl, rfl, sd _ _ upd_same, upd_same, sizeS (by rw [rep_flat, List.length_append, List.length_replicate]; show ws.length + 1 + m ≤ 100000; omega), fun q hq => ?_⟩
          have se := (sb.trans sd).trans (Same.new (o := .lst (ws ++ [V.ref t1] ++ (List.replicate m [V.ref t2]).flatten)) hq)
          refine fin _ q (.ref t1) (.ref t2) (.bring (bs.take kk)) (.bring (bs.drop kk)) m se upd_same (fun o e => ?_) ⟨t1, e1, rfl, ?_, ?_⟩ ⟨t2, e2, rfl, ?_, ?_⟩ ⟨by rw [List.length_take]; omega, fun y hy => hro.2 y (List.mem_of_mem_take hy)⟩ (fun e => ?_) ?_
          · rw [(sb.trans sd).free hq] at e; cases e
          · exact (((Same.new hl1).trans (Same.new hc1)).trans sd |>.trans (Same.new hq)) _ _ upd_same
          · refine ((((Same.new ht1).trans (Same.new hl1)).trans (Same.new hc1)).trans sd |>.trans (Same.new hq)) _ _ ?_
            rw [upd_same, List.map_take]
          · exact (((Same.new hl2).trans (Same.new hl3)).trans (Same.new hq)) _ _ upd_same
          · refine ((((Same.new ht2).trans (Same.new hl2)).trans (Same.new hl3)).trans (Same.new hq)) _ _ ?_
            rw [upd_same, List.map_drop]
          · rcases hm with ⟨rfl, _⟩ | ⟨rfl, hh⟩
            · cases e
            · have hh : (kk : Int) < bs.length := hh
              exact ⟨by rw [List.length_drop]; omega, fun y hy => hro.2 y (List.mem_of_mem_drop hy)⟩
          · rcases hm with ⟨rfl, hh⟩ | ⟨rfl, hh⟩
            · have hh : (kk : Int) = bs.length := hh
              exact .inl ⟨rfl, by show ((bs.take kk).length : Int) = bs.length; rw [List.length_take]; omega⟩
            · exact .inr ⟨rfl, by show ((bs.take kk).length : Int) + ((bs.drop kk).length : Nat) = bs.length; rw [List.length_take, List.length_drop]; omega⟩
      · rintro σ H4 ⟨f, ws, rs, v4, v5, v6, rfl, b4, D4, nfd, hf4, pf4, hrs, htr⟩
        rw [hvl, List.take_length] at htr
        have rsl := len_le_total hrs
        have hG : Good rs := ⟨fun r hr => Row.ok_mono (by decide) (hrs r hr), by omega⟩
        have hcl := cellsOf_len hrs
        have hfit : Fit 60 (cellsOf rs) := cells_fit hrs
        have hfit2 : Fit 200 (cellsOf rs) := hfit.mono (by decide)
        refine ⟨_, rfl, f, rs, 60, rfl, ⟨ws, hf4, pf4⟩, hrs, by omega, fun H5 v s5 hP => ?_⟩
        refine ⟨v, rs, rfl, hP, hG, fun H6 v' s6 hP' => ?_⟩
        refine ⟨_, rfl, f, rs, 60, rfl, RowsAt.same (s5.trans s6) ⟨ws, hf4, pf4⟩, hrs, by decide, by omega, fun H7 c s7 hc hcs => ?_⟩
        refine ⟨c, cellsOf rs, rfl, hcs, by omega, fun H8 q s8 hq hrows => ?_⟩
        have ok2 : ∀ r ∈ plainOf (cellsOf rs), r.ok 200 := plain_ok hfit2
        refine ⟨v', q, _, 200, rfl, hP'.tups (Same.tups (s7.trans s8)), hrows, ok2, by rw [plain_total hfit2]; omega, fun H9 s9 => ⟨_, rfl, iteF ?_⟩⟩
        exact ⟨_, _, _, _, _, rfl, D4.same ((s5.trans s6).trans ((s7.trans s8).trans s9))⟩
    · rintro σ H2 ⟨v2, v3, v4, v5, v6, rfl, D2⟩
      exact k H2
end
theorem all_mk {l : PySem.W.OpenLaw} {w : World} {K : PySem.W.Frag} {h : Heap} {mg : Str → Option Value} {fa f0 f1 f2 f3 f4 f5 f6 f7 f8 f9 f10 f11 f12 f13 f14 f15 f16 f17 f18 f19 f20 f21 f22 : Addr} (X : K.In h) (G : h.Ns mainGlobals mg) (hfa : mg "law" = some (.ref fa))
    {od0 an0 od1 an1 od2 an2 od3 an3 od4 an4 od5 an5 od6 an6 od7 an7 od8 an8 od9 an9 od10 an10 od11 an11 od12 an12 od13 an13 od14 an14 od15 an15 od16 an16 od17 an17 od18 an18 od19 an19 od20 an20 od21 an21 od22 an22 : Option Addr} {sl0 sl1 sl2 sl3 sl4 sl5 sl6 sl7 sl8 sl9 sl10 sl11 sl12 sl13 sl14 sl15 sl16 sl17 sl18 sl19 sl20 sl21 sl22 : Array (Option Value)} {oc0 kV0 dc0 pm0 cd0 ct0 oc1 kV1 dc1 pm1 cd1 ct1 oc2 kV2 dc2 pm2 cd2 ct2 oc3 kV3 dc3 pm3 cd3 ct3 oc4 kV4 dc4 pm4 cd4 ct4 oc5 kV5 dc5 pm5 cd5 ct5 oc6 kV6 dc6 pm6 cd6 ct6 oc7 kV7 dc7 pm7 cd7 ct7 oc8 kV8 dc8 pm8 cd8 ct8 oc9 kV9 dc9 pm9 cd9 ct9 oc10 kV10 dc10 pm10 cd10 ct10 oc11 kV11 dc11 pm11 cd11 ct11 oc12 kV12 dc12 pm12 cd12 ct12 oc13 kV13 dc13 pm13 cd13 ct13 oc14 kV14 dc14 pm14 cd14 ct14 oc15 kV15 dc15 pm15 cd15 ct15 oc16 kV16 dc16 pm16 cd16 ct16 oc17 kV17 dc17 pm17 cd17 ct17 oc18 kV18 dc18 pm18 cd18 ct18 oc19 kV19 dc19 pm19 cd19 ct19 oc20 kV20 dc20 pm20 cd20 ct20 oc21 kV21 dc21 pm21 cd21 ct21 oc22 kV22 dc22 pm22 cd22 ct22 : Value}
    (a0 : PySem.W.nsIn K mainGlobals "bytes_of" = some (some (.ref f0)))
    (l0 : K.lookup f0 = some ⟨oc0, od0, .func (PySem.W.fnOf "bytes_of" "bytes_of" (defArgs s_bytes_of) (defBody s_bytes_of) (defScope s_bytes_of) .none kV0 dc0 pm0 an0 cd0 ct0), sl0⟩)
    (c0 : PySem.W.codeIn K cd0 "bytes_of" = true) (k0 : PySem.W.keepIn K (.ref f0) = true)
    (a1 : PySem.W.nsIn K mainGlobals "numbers_of" = some (some (.ref f1)))
    (l1 : K.lookup f1 = some ⟨oc1, od1, .func (PySem.W.fnOf "numbers_of" "numbers_of" (defArgs s_numbers_of) (defBody s_numbers_of) (defScope s_numbers_of) .none kV1 dc1 pm1 an1 cd1 ct1), sl1⟩)
    (c1 : PySem.W.codeIn K cd1 "numbers_of" = true) (k1 : PySem.W.keepIn K (.ref f1) = true)
    (a2 : PySem.W.nsIn K mainGlobals "is_number" = some (some (.ref f2)))
    (l2 : K.lookup f2 = some ⟨oc2, od2, .func (PySem.W.fnOf "is_number" "is_number" (defArgs s_is_number) (defBody s_is_number) (defScope s_is_number) .none kV2 dc2 pm2 an2 cd2 ct2), sl2⟩)
    (c2 : PySem.W.codeIn K cd2 "is_number" = true) (k2 : PySem.W.keepIn K (.ref f2) = true)
    (a3 : PySem.W.nsIn K mainGlobals "can_be" = some (some (.ref f3)))
    (l3 : K.lookup f3 = some ⟨oc3, od3, .func (PySem.W.fnOf "can_be" "can_be" (defArgs s_can_be) (defBody s_can_be) (defScope s_can_be) .none kV3 dc3 pm3 an3 cd3 ct3), sl3⟩)
    (c3 : PySem.W.codeIn K cd3 "can_be" = true) (k3 : PySem.W.keepIn K (.ref f3) = true)
    (a4 : PySem.W.nsIn K mainGlobals "length_of" = some (some (.ref f4)))
    (l4 : K.lookup f4 = some ⟨oc4, od4, .func (PySem.W.fnOf "length_of" "length_of" (defArgs s_length_of) (defBody s_length_of) (defScope s_length_of) .none kV4 dc4 pm4 an4 cd4 ct4), sl4⟩)
    (c4 : PySem.W.codeIn K cd4 "length_of" = true) (k4 : PySem.W.keepIn K (.ref f4) = true)
    (a5 : PySem.W.nsIn K mainGlobals "cells_of" = some (some (.ref f5)))
    (l5 : K.lookup f5 = some ⟨oc5, od5, .func (PySem.W.fnOf "cells_of" "cells_of" (defArgs s_cells_of) (defBody s_cells_of) (defScope s_cells_of) .none kV5 dc5 pm5 an5 cd5 ct5), sl5⟩)
    (c5 : PySem.W.codeIn K cd5 "cells_of" = true) (k5 : PySem.W.keepIn K (.ref f5) = true)
    (a6 : PySem.W.nsIn K mainGlobals "check_patch" = some (some (.ref f6)))
    (l6 : K.lookup f6 = some ⟨oc6, od6, .func (PySem.W.fnOf "check_patch" "check_patch" (defArgs s_check_patch) (defBody s_check_patch) (defScope s_check_patch) .none kV6 dc6 pm6 an6 cd6 ct6), sl6⟩)
    (c6 : PySem.W.codeIn K cd6 "check_patch" = true) (k6 : PySem.W.keepIn K (.ref f6) = true)
    (a7 : PySem.W.nsIn K mainGlobals "cells" = some (some (.ref f7)))
    (l7 : K.lookup f7 = some ⟨oc7, od7, .func (PySem.W.fnOf "cells" "cells" (defArgs s_cells) (defBody s_cells) (defScope s_cells) .none kV7 dc7 pm7 an7 cd7 ct7), sl7⟩)
    (c7 : PySem.W.codeIn K cd7 "cells" = true) (k7 : PySem.W.keepIn K (.ref f7) = true)
    (a8 : PySem.W.nsIn K mainGlobals "plain" = some (some (.ref f8)))
    (l8 : K.lookup f8 = some ⟨oc8, od8, .func (PySem.W.fnOf "plain" "plain" (defArgs s_plain) (defBody s_plain) (defScope s_plain) .none kV8 dc8 pm8 an8 cd8 ct8), sl8⟩)
    (c8 : PySem.W.codeIn K cd8 "plain" = true) (k8 : PySem.W.keepIn K (.ref f8) = true)
    (a9 : PySem.W.nsIn K mainGlobals "plain_of" = some (some (.ref f9)))
    (l9 : K.lookup f9 = some ⟨oc9, od9, .func (PySem.W.fnOf "plain_of" "plain_of" (defArgs s_plain_of) (defBody s_plain_of) (defScope s_plain_of) .none kV9 dc9 pm9 an9 cd9 ct9), sl9⟩)
    (c9 : PySem.W.codeIn K cd9 "plain_of" = true) (k9 : PySem.W.keepIn K (.ref f9) = true)
    (a10 : PySem.W.nsIn K mainGlobals "stretches" = some (some (.ref f10)))
    (l10 : K.lookup f10 = some ⟨oc10, od10, .func (PySem.W.fnOf "stretches" "stretches" (defArgs s_stretches) (defBody s_stretches) (defScope s_stretches) .none kV10 dc10 pm10 an10 cd10 ct10), sl10⟩)
    (c10 : PySem.W.codeIn K cd10 "stretches" = true) (k10 : PySem.W.keepIn K (.ref f10) = true)
    (a11 : PySem.W.nsIn K mainGlobals "goes_on" = some (some (.ref f11)))
    (l11 : K.lookup f11 = some ⟨oc11, od11, .func (PySem.W.fnOf "goes_on" "goes_on" (defArgs s_goes_on) (defBody s_goes_on) (defScope s_goes_on) .none kV11 dc11 pm11 an11 cd11 ct11), sl11⟩)
    (c11 : PySem.W.codeIn K cd11 "goes_on" = true) (k11 : PySem.W.keepIn K (.ref f11) = true)
    (a12 : PySem.W.nsIn K mainGlobals "plain_piece" = some (some (.ref f12)))
    (l12 : K.lookup f12 = some ⟨oc12, od12, .func (PySem.W.fnOf "plain_piece" "plain_piece" (defArgs s_plain_piece) (defBody s_plain_piece) (defScope s_plain_piece) .none kV12 dc12 pm12 an12 cd12 ct12), sl12⟩)
    (c12 : PySem.W.codeIn K cd12 "plain_piece" = true) (k12 : PySem.W.keepIn K (.ref f12) = true)
    (a13 : PySem.W.nsIn K mainGlobals "_law_dice" = some (some (.ref f13)))
    (l13 : K.lookup f13 = some ⟨oc13, od13, .func (PySem.W.fnOf "_law_dice" "_law_dice" (defArgs s_law_dice) (defBody s_law_dice) (defScope s_law_dice) .none kV13 dc13 pm13 an13 cd13 ct13), sl13⟩)
    (c13 : PySem.W.codeIn K cd13 "_law_dice" = true) (k13 : PySem.W.keepIn K (.ref f13) = true)
    (a14 : PySem.W.nsIn K mainGlobals "_law_next" = some (some (.ref f14)))
    (l14 : K.lookup f14 = some ⟨oc14, od14, .func (PySem.W.fnOf "_law_next" "_law_next" (defArgs s_law_next) (defBody s_law_next) (defScope s_law_next) .none kV14 dc14 pm14 an14 cd14 ct14), sl14⟩)
    (c14 : PySem.W.codeIn K cd14 "_law_next" = true) (k14 : PySem.W.keepIn K (.ref f14) = true)
    (a15 : PySem.W.nsIn K mainGlobals "_law_like" = some (some (.ref f15)))
    (l15 : K.lookup f15 = some ⟨oc15, od15, .func (PySem.W.fnOf "_law_like" "_law_like" (defArgs s_law_like) (defBody s_law_like) (defScope s_law_like) .none kV15 dc15 pm15 an15 cd15 ct15), sl15⟩)
    (c15 : PySem.W.codeIn K cd15 "_law_like" = true) (k15 : PySem.W.keepIn K (.ref f15) = true)
    (a16 : PySem.W.nsIn K mainGlobals "_law_rows" = some (some (.ref f16)))
    (l16 : K.lookup f16 = some ⟨oc16, od16, .func (PySem.W.fnOf "_law_rows" "_law_rows" (defArgs s_law_rows) (defBody s_law_rows) (defScope s_law_rows) .none kV16 dc16 pm16 an16 cd16 ct16), sl16⟩)
    (c16 : PySem.W.codeIn K cd16 "_law_rows" = true) (k16 : PySem.W.keepIn K (.ref f16) = true)
    (a17 : PySem.W.nsIn K mainGlobals "_law_handed" = some (some (.ref f17)))
    (l17 : K.lookup f17 = some ⟨oc17, od17, .func (PySem.W.fnOf "_law_handed" "_law_handed" (defArgs s_law_handed) (defBody s_law_handed) (defScope s_law_handed) .none kV17 dc17 pm17 an17 cd17 ct17), sl17⟩)
    (c17 : PySem.W.codeIn K cd17 "_law_handed" = true) (k17 : PySem.W.keepIn K (.ref f17) = true)
    (a18 : PySem.W.nsIn K mainGlobals "_law_size" = some (some (.ref f18)))
    (l18 : K.lookup f18 = some ⟨oc18, od18, .func (PySem.W.fnOf "_law_size" "_law_size" (defArgs s_law_size) (defBody s_law_size) (defScope s_law_size) .none kV18 dc18 pm18 an18 cd18 ct18), sl18⟩)
    (c18 : PySem.W.codeIn K cd18 "_law_size" = true) (k18 : PySem.W.keepIn K (.ref f18) = true)
    (a19 : PySem.W.nsIn K mainGlobals "_law_cells" = some (some (.ref f19)))
    (l19 : K.lookup f19 = some ⟨oc19, od19, .func (PySem.W.fnOf "_law_cells" "_law_cells" (defArgs s_law_cells) (defBody s_law_cells) (defScope s_law_cells) .none kV19 dc19 pm19 an19 cd19 ct19), sl19⟩)
    (c19 : PySem.W.codeIn K cd19 "_law_cells" = true) (k19 : PySem.W.keepIn K (.ref f19) = true)
    (a20 : PySem.W.nsIn K mainGlobals "_law_is_patch" = some (some (.ref f20)))
    (l20 : K.lookup f20 = some ⟨oc20, od20, .func (PySem.W.fnOf "_law_is_patch" "_law_is_patch" (defArgs s_law_is_patch) (defBody s_law_is_patch) (defScope s_law_is_patch) .none kV20 dc20 pm20 an20 cd20 ct20), sl20⟩)
    (c20 : PySem.W.codeIn K cd20 "_law_is_patch" = true) (k20 : PySem.W.keepIn K (.ref f20) = true)
    (a21 : PySem.W.nsIn K mainGlobals "_law_plainly" = some (some (.ref f21)))
    (l21 : K.lookup f21 = some ⟨oc21, od21, .func (PySem.W.fnOf "_law_plainly" "_law_plainly" (defArgs s_law_plainly) (defBody s_law_plainly) (defScope s_law_plainly) .none kV21 dc21 pm21 an21 cd21 ct21), sl21⟩)
    (c21 : PySem.W.codeIn K cd21 "_law_plainly" = true) (k21 : PySem.W.keepIn K (.ref f21) = true)
    (a22 : PySem.W.nsIn K mainGlobals "law" = some (some (.ref f22)))
    (l22 : K.lookup f22 = some ⟨oc22, od22, .func (PySem.W.fnOf "law" "law" (defArgs s_law) (defBody s_law) (defScope s_law) .none kV22 dc22 pm22 an22 cd22 ct22), sl22⟩)
    (c22 : PySem.W.codeIn K cd22 "law" = true) (k22 : PySem.W.keepIn K (.ref f22) = true)
    {t0 : Tok} (z0 : PySem.W.nsIn K mainGlobals "MOST" = some (some (.int 200 t0)))
    {t1 : Tok} (z1 : PySem.W.nsIn K mainGlobals "LAST_BYTE" = some (some (.int 255 t1)))
    {t2 : Tok} (z2 : PySem.W.nsIn K mainGlobals "LEAST_RUN" = some (some (.int 3 t2)))
    (y_bool : PySem.W.nsIn K mainGlobals "bool" = some none)
    (y_bytes : PySem.W.nsIn K mainGlobals "bytes" = some none)
    (y_enumerate : PySem.W.nsIn K mainGlobals "enumerate" = some none)
    (y_int : PySem.W.nsIn K mainGlobals "int" = some none)
    (y_isinstance : PySem.W.nsIn K mainGlobals "isinstance" = some none)
    (y_len : PySem.W.nsIn K mainGlobals "len" = some none)
    (y_list : PySem.W.nsIn K mainGlobals "list" = some none)
    (y_min : PySem.W.nsIn K mainGlobals "min" = some none)
    (y_range : PySem.W.nsIn K mainGlobals "range" = some none)
    (y_str : PySem.W.nsIn K mainGlobals "str" = some none)
    (y_tuple : PySem.W.nsIn K mainGlobals "tuple" = some none)
    (y_zip : PySem.W.nsIn K mainGlobals "zip" = some none)
    : ∃ fd : FuncData, (∀ (s : Shared) (v : Value), BindsTo s fd ⟨[v], []⟩ [("_law_script", v)]) ∧ ∀ base : Heap, K.In base → base.Ns mainGlobals mg → FnOk l.prog w K mg base CX0 6 fa fd ["_law_script"] (spLaw K) := by
  have e := hfa.symm.trans (PySem.W.mg_of X G a22)
  cases e
  have F0 := fun_mk (st := s_bytes_of) l0 c0 k0
  have b0 := F0.binds (ps := ["numbers"]) fun _ _ _ _ _ _ us hl => match us, hl with | [_], _ => rfl
  have F1 := fun_mk (st := s_numbers_of) l1 c1 k1
  have b1 := F1.binds (ps := ["some"]) fun _ _ _ _ _ _ us hl => match us, hl with | [_], _ => rfl
  have F2 := fun_mk (st := s_is_number) l2 c2 k2
  have b2 := F2.binds (ps := ["what", "least", "most"]) fun _ _ _ _ _ _ us hl => match us, hl with | [_, _, _], _ => rfl
  have F3 := fun_mk (st := s_can_be) l3 c3 k3
  have b3 := F3.binds (ps := ["piece"]) fun _ _ _ _ _ _ us hl => match us, hl with | [_], _ => rfl
  have F4 := fun_mk (st := s_length_of) l4 c4 k4
  have b4 := F4.binds (ps := ["piece"]) fun _ _ _ _ _ _ us hl => match us, hl with | [_], _ => rfl
  have F5 := fun_mk (st := s_cells_of) l5 c5 k5
  have b5 := F5.binds (ps := ["piece"]) fun _ _ _ _ _ _ us hl => match us, hl with | [_], _ => rfl
  have F6 := fun_mk (st := s_check_patch) l6 c6 k6
  have b6 := F6.binds (ps := ["patch"]) fun _ _ _ _ _ _ us hl => match us, hl with | [_], _ => rfl
  have F7 := fun_mk (st := s_cells) l7 c7 k7
  have b7 := F7.binds (ps := ["patch"]) fun _ _ _ _ _ _ us hl => match us, hl with | [_], _ => rfl
  have F8 := fun_mk (st := s_plain) l8 c8 k8
  have b8 := F8.binds (ps := ["patch"]) fun _ _ _ _ _ _ us hl => match us, hl with | [_], _ => rfl
  have F9 := fun_mk (st := s_plain_of) l9 c9 k9
  have b9 := F9.binds (ps := ["told"]) fun _ _ _ _ _ _ us hl => match us, hl with | [_], _ => rfl
  have F10 := fun_mk (st := s_stretches) l10 c10 k10
  have b10 := F10.binds (ps := ["told"]) fun _ _ _ _ _ _ us hl => match us, hl with | [_], _ => rfl
  have F11 := fun_mk (st := s_goes_on) l11 c11 k11
  have b11 := F11.binds (ps := ["stretch", "cell"]) fun _ _ _ _ _ _ us hl => match us, hl with | [_, _], _ => rfl
  have F12 := fun_mk (st := s_plain_piece) l12 c12 k12
  have b12 := F12.binds (ps := ["cell", "many"]) fun _ _ _ _ _ _ us hl => match us, hl with | [_, _], _ => rfl
  have F13 := fun_mk (st := s_law_dice) l13 c13 k13
  have b13 := F13.binds (ps := ["_law_script"]) fun _ _ _ _ _ _ us hl => match us, hl with | [_], _ => rfl
  have F14 := fun_mk (st := s_law_next) l14 c14 k14
  have b14 := F14.binds (ps := ["_law_dice_here", "_law_many"]) fun _ _ _ _ _ _ us hl => match us, hl with | [_, _], _ => rfl
  have F15 := fun_mk (st := s_law_like) l15 c15 k15
  have b15 := F15.binds (ps := ["_law_found", "_law_due"]) fun _ _ _ _ _ _ us hl => match us, hl with | [_, _], _ => rfl
  have F16 := fun_mk (st := s_law_rows) l16 c16 k16
  have b16 := F16.binds (ps := ["_law_d", "_law_count", "_law_most"]) fun _ _ _ _ _ _ us hl => match us, hl with | [_, _, _], _ => rfl
  have F17 := fun_mk (st := s_law_handed) l17 c17 k17
  have b17 := F17.binds (ps := ["_law_rows_here"]) fun _ _ _ _ _ _ us hl => match us, hl with | [_], _ => rfl
  have F18 := fun_mk (st := s_law_size) l18 c18 k18
  have b18 := F18.binds (ps := ["_law_row"]) fun _ _ _ _ _ _ us hl => match us, hl with | [_], _ => rfl
  have F19 := fun_mk (st := s_law_cells) l19 c19 k19
  have b19 := F19.binds (ps := ["_law_rows_here"]) fun _ _ _ _ _ _ us hl => match us, hl with | [_], _ => rfl
  have F20 := fun_mk (st := s_law_is_patch) l20 c20 k20
  have b20 := F20.binds (ps := ["_law_told", "_law_rows_here"]) fun _ _ _ _ _ _ us hl => match us, hl with | [_, _], _ => rfl
  have F21 := fun_mk (st := s_law_plainly) l21 c21 k21
  have b21 := F21.binds (ps := ["_law_some"]) fun _ _ _ _ _ _ us hl => match us, hl with | [_], _ => rfl
  have F22 := fun_mk (st := s_law) l22 c22 k22
  have T : All K mg := ⟨⟨f0, _, F0, PySem.W.mg_of X G a0, b0⟩, ⟨f1, _, F1, PySem.W.mg_of X G a1, b1⟩, ⟨f2, _, F2, PySem.W.mg_of X G a2, b2⟩, ⟨f3, _, F3, PySem.W.mg_of X G a3, b3⟩, ⟨f4, _, F4, PySem.W.mg_of X G a4, b4⟩, ⟨f5, _, F5, PySem.W.mg_of X G a5, b5⟩, ⟨f6, _, F6, PySem.W.mg_of X G a6, b6⟩, ⟨f7, _, F7, PySem.W.mg_of X G a7, b7⟩, ⟨f8, _, F8, PySem.W.mg_of X G a8, b8⟩, ⟨f9, _, F9, PySem.W.mg_of X G a9, b9⟩, ⟨f10, _, F10, PySem.W.mg_of X G a10, b10⟩, ⟨f11, _, F11, PySem.W.mg_of X G a11, b11⟩, ⟨f12, _, F12, PySem.W.mg_of X G a12, b12⟩, ⟨f13, _, F13, PySem.W.mg_of X G a13, b13⟩, ⟨f14, _, F14, PySem.W.mg_of X G a14, b14⟩, ⟨f15, _, F15, PySem.W.mg_of X G a15, b15⟩, ⟨f16, _, F16, PySem.W.mg_of X G a16, b16⟩, ⟨f17, _, F17, PySem.W.mg_of X G a17, b17⟩, ⟨f18, _, F18, PySem.W.mg_of X G a18, b18⟩, ⟨f19, _, F19, PySem.W.mg_of X G a19, b19⟩, ⟨f20, _, F20, PySem.W.mg_of X G a20, b20⟩, ⟨f21, _, F21, PySem.W.mg_of X G a21, b21⟩, t0, PySem.W.mg_of X G z0, t1, PySem.W.mg_of X G z1, t2, PySem.W.mg_of X G z2, PySem.W.mg_none_of X G y_bool, PySem.W.mg_none_of X G y_bytes, PySem.W.mg_none_of X G y_enumerate, PySem.W.mg_none_of X G y_int, PySem.W.mg_none_of X G y_isinstance, PySem.W.mg_none_of X G y_len, PySem.W.mg_none_of X G y_list, PySem.W.mg_none_of X G y_min, PySem.W.mg_none_of X G y_range, PySem.W.mg_none_of X G y_str, PySem.W.mg_none_of X G y_tuple, PySem.W.mg_none_of X G y_zip⟩
  exact ⟨PySem.W.fnOf "law" "law" (defArgs s_law) (defBody s_law) (defScope s_law) .none kV22 dc22 pm22 an22 cd22 ct22, fun s v => .of_eq rfl, fun base _ _ => ok_law T F22⟩
theorem walk {l : PySem.W.OpenLaw} {q : Program} {loose : List Str} {XP : (Str → Option Value) → Heap → Prop} {YP : World → Heap → Prop} {d : DefRec} {K : Params → PySem.W.Frag} (hn : l.most = some 63) (hdf : d.params.defaults = [])
    (hY : ∀ (w : World) (h : Heap), YP w h → (K w.params).In h)
    (F : ∀ (w : World) (mg : Str → Option Value) (fa : Addr) (h : Heap), (K w.params).In h → h.Ns mainGlobals mg → mg d.name = some (.ref fa) →
      ∃ fd : FuncData, (∀ (s : Shared) (u : Value), BindsTo s fd ⟨[u], []⟩ [("_law_script", u)]) ∧ ∀ base : Heap, (K w.params).In base → base.Ns mainGlobals mg → FnOk l.prog w (K w.params) mg base CX0 6 fa fd ["_law_script"] (spLaw (K w.params))) :
    PySem.W.WalkO q loose XP YP l.row.toRowW d [] (fun f vs => PySem.call f vs) :=
  L2.walk_of (n := 63) (k := 6) (x := "_law_script") (CX := fun _ => CX0) (sp := fun w => spLaw (K w.params)) hn (by decide) hdf ⟨rfl, by decide, by decide⟩ hY F (fun _ _ a ns hl _ hS => ⟨a, ns, rfl, hS, hl, fun _ => rfl⟩) fun _ _ _ _ _ z => z
end My
open PySem PySem.W PyProof.Rows
set_option maxRecDepth 100000 in
set_option maxHeartbeats 0 in
theorem PySem.Challenge.cw_patchover_k04_plain_told_holds : PySem.Challenge.rw_patchover_k04_plain_told.Holds := by
  w_on; o_law; k_head; (case hw => w_witness2)
  k_fill
  first | refine My.walk (l := PySem.Challenge.rw_patchover_k04_plain_told) rfl rfl (fun w h Y => PySem.W.kIn_of Y) ?F | refine My.walk (l := PySem.Challenge.rw_patchover_k04_plain_told) rfl rfl (fun w h Y => PySem.W.km_in_of Y) ?F
  case F =>
    intro w mg fa h KX G hmg
    refine' My.all_mk KX G hmg ?a0 ?l0 ?c0 ?k0 ?a1 ?l1 ?c1 ?k1 ?a2 ?l2 ?c2 ?k2 ?a3 ?l3 ?c3 ?k3 ?a4 ?l4 ?c4 ?k4 ?a5 ?l5 ?c5 ?k5 ?a6 ?l6 ?c6 ?k6 ?a7 ?l7 ?c7 ?k7 ?a8 ?l8 ?c8 ?k8 ?a9 ?l9 ?c9 ?k9 ?a10 ?l10 ?c10 ?k10 ?a11 ?l11 ?c11 ?k11 ?a12 ?l12 ?c12 ?k12 ?a13 ?l13 ?c13 ?k13 ?a14 ?l14 ?c14 ?k14 ?a15 ?l15 ?c15 ?k15 ?a16 ?l16 ?c16 ?k16 ?a17 ?l17 ?c17 ?k17 ?a18 ?l18 ?c18 ?k18 ?a19 ?l19 ?c19 ?k19 ?a20 ?l20 ?c20 ?k20 ?a21 ?l21 ?c21 ?k21 ?a22 ?l22 ?c22 ?k22 ?z0 ?z1 ?z2 ?y_bool ?y_bytes ?y_enumerate ?y_int ?y_isinstance ?y_len ?y_list ?y_min ?y_range ?y_str ?y_tuple ?y_zip
    (case a0 => k_is)
    (case l0 => k_is)
    (case c0 => k_is)
    (case k0 => k_is)
    (case a1 => k_is)
    (case l1 => k_is)
    (case c1 => k_is)
    (case k1 => k_is)
    (case a2 => k_is)
    (case l2 => k_is)
    (case c2 => k_is)
    (case k2 => k_is)
    (case a3 => k_is)
    (case l3 => k_is)
    (case c3 => k_is)
    (case k3 => k_is)
    (case a4 => k_is)
    (case l4 => k_is)
    (case c4 => k_is)
    (case k4 => k_is)
    (case a5 => k_is)
    (case l5 => k_is)
    (case c5 => k_is)
    (case k5 => k_is)
    (case a6 => k_is)
    (case l6 => k_is)
    (case c6 => k_is)
    (case k6 => k_is)
    (case a7 => k_is)
    (case l7 => k_is)
    (case c7 => k_is)
    (case k7 => k_is)
    (case a8 => k_is)
    (case l8 => k_is)
    (case c8 => k_is)
    (case k8 => k_is)
    (case a9 => k_is)
    (case l9 => k_is)
    (case c9 => k_is)
    (case k9 => k_is)
    (case a10 => k_is)
    (case l10 => k_is)
    (case c10 => k_is)
    (case k10 => k_is)
    (case a11 => k_is)
    (case l11 => k_is)
    (case c11 => k_is)
    (case k11 => k_is)
    (case a12 => k_is)
    (case l12 => k_is)
    (case c12 => k_is)
    (case k12 => k_is)
    (case a13 => k_is)
    (case l13 => k_is)
    (case c13 => k_is)
    (case k13 => k_is)
    (case a14 => k_is)
    (case l14 => k_is)
    (case c14 => k_is)
    (case k14 => k_is)
    (case a15 => k_is)
    (case l15 => k_is)
    (case c15 => k_is)
    (case k15 => k_is)
    (case a16 => k_is)
    (case l16 => k_is)
    (case c16 => k_is)
    (case k16 => k_is)
    (case a17 => k_is)
    (case l17 => k_is)
    (case c17 => k_is)
    (case k17 => k_is)
    (case a18 => k_is)
    (case l18 => k_is)
    (case c18 => k_is)
    (case k18 => k_is)
    (case a19 => k_is)
    (case l19 => k_is)
    (case c19 => k_is)
    (case k19 => k_is)
    (case a20 => k_is)
    (case l20 => k_is)
    (case c20 => k_is)
    (case k20 => k_is)
    (case a21 => k_is)
    (case l21 => k_is)
    (case c21 => k_is)
    (case k21 => k_is)
    (case a22 => k_is)
    (case l22 => k_is)
    (case c22 => k_is)
    (case k22 => k_is)
    (case z0 => k_is)
    (case z1 => k_is)
    (case z2 => k_is)
    (case y_bool => k_is)
    (case y_bytes => k_is)
    (case y_enumerate => k_is)
    (case y_int => k_is)
    (case y_isinstance => k_is)
    (case y_len => k_is)
    (case y_list => k_is)
    (case y_min => k_is)
    (case y_range => k_is)
    (case y_str => k_is)
    (case y_tuple => k_is)
    (case y_zip => k_is)
