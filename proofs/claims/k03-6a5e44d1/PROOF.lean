import PyProof.Rows.All
import Wide.All
import OpenK.AllK
import Wide.FinOn
import HandS.ForMost
import HandS.More
import HandS.IsInst
import HandS.Bytes
import HandS.Walk
import HandS.TupAny
import HandS.Style
import HandS.SortKw
import KE.GoesEnum
import KE.KMinKey
import PySem.Challenge.RW_patchover_k03_done_told
set_option Elab.async false
set_option linter.all false
set_option maxRecDepth 100000
set_option maxHeartbeats 4000000
namespace My
open PySem PySem.Spec PyProof.Rows L2
/-! ### the text by places -/
def top (i : Nat) : Stmt := PySem.Challenge.pw_patchover_k03_done_told.main.body.getD i (.Pass ⟨0, 0, 0, 0⟩)
abbrev s_bytes_of : Stmt := top 9
theorem sc_bytes_of : FnScope ["numbers", "number"] ["numbers"] (defScope s_bytes_of) := ⟨rfl, rfl, rfl, by decide +kernel, rfl, by decide +kernel, by decide +kernel⟩
abbrev s_numbers_of : Stmt := top 10
theorem sc_numbers_of : FnScope ["some"] ["some"] (defScope s_numbers_of) := ⟨rfl, rfl, rfl, by decide +kernel, rfl, by decide +kernel, by decide +kernel⟩
abbrev s_is_number : Stmt := top 11
theorem sc_is_number : FnScope ["what", "least", "most"] ["what", "least", "most"] (defScope s_is_number) := ⟨rfl, rfl, rfl, by decide +kernel, rfl, by decide +kernel, by decide +kernel⟩
abbrev s_can_be : Stmt := top 12
theorem sc_can_be : FnScope ["piece", "word", "some", "first", "many"] ["piece"] (defScope s_can_be) := ⟨rfl, rfl, rfl, by decide +kernel, rfl, by decide +kernel, by decide +kernel⟩
abbrev s_length_of : Stmt := top 13
theorem sc_length_of : FnScope ["piece"] ["piece"] (defScope s_length_of) := ⟨rfl, rfl, rfl, by decide +kernel, rfl, by decide +kernel, by decide +kernel⟩
abbrev s_cells_of : Stmt := top 14
theorem sc_cells_of : FnScope ["piece", "number", "byte"] ["piece"] (defScope s_cells_of) := ⟨rfl, rfl, rfl, by decide +kernel, rfl, by decide +kernel, by decide +kernel⟩
abbrev s_check_edition : Stmt := top 15
theorem sc_check_edition : FnScope ["edition"] ["edition"] (defScope s_check_edition) := ⟨rfl, rfl, rfl, by decide +kernel, rfl, by decide +kernel, by decide +kernel⟩
abbrev s_check_patch : Stmt := top 16
theorem sc_check_patch : FnScope ["patch", "total", "at", "piece"] ["patch"] (defScope s_check_patch) := ⟨rfl, rfl, rfl, by decide +kernel, rfl, by decide +kernel, by decide +kernel⟩
abbrev s_check_reach : Stmt := top 17
theorem sc_check_reach : FnScope ["patch", "edition", "at", "piece"] ["patch", "edition"] (defScope s_check_reach) := ⟨rfl, rfl, rfl, by decide +kernel, rfl, by decide +kernel, by decide +kernel⟩
abbrev s_done : Stmt := top 19
theorem sc_done : FnScope ["patch", "edition", "told", "word", "worth"] ["patch", "edition"] (defScope s_done) := ⟨rfl, rfl, rfl, by decide +kernel, rfl, by decide +kernel, by decide +kernel⟩
abbrev s_needs : Stmt := top 20
theorem sc_needs : FnScope ["patch", "piece"] ["patch"] (defScope s_needs) := ⟨rfl, rfl, rfl, by decide +kernel, rfl, by decide +kernel, by decide +kernel⟩
abbrev s_makes : Stmt := top 21
theorem sc_makes : FnScope ["patch", "piece"] ["patch"] (defScope s_makes) := ⟨rfl, rfl, rfl, by decide +kernel, rfl, by decide +kernel, by decide +kernel⟩
abbrev s_cells : Stmt := top 22
theorem sc_cells : FnScope ["patch", "told", "piece"] ["patch"] (defScope s_cells) := ⟨rfl, rfl, rfl, by decide +kernel, rfl, by decide +kernel, by decide +kernel⟩
abbrev s_law_dice : Stmt := top 24
theorem sc_law_dice : FnScope ["_law_script", "_law_mixed", "_law_cell"] ["_law_script"] (defScope s_law_dice) := ⟨rfl, rfl, rfl, by decide +kernel, rfl, by decide +kernel, by decide +kernel⟩
abbrev s_law_next : Stmt := top 25
theorem sc_law_next : FnScope ["_law_dice_here", "_law_many", "_law_found", "_law_cell"] ["_law_dice_here", "_law_many"] (defScope s_law_next) := ⟨rfl, rfl, rfl, by decide +kernel, rfl, by decide +kernel, by decide +kernel⟩
abbrev s_law_like : Stmt := top 26
theorem sc_law_like : FnScope ["_law_found", "_law_due", "_law_k"] ["_law_found", "_law_due"] (defScope s_law_like) := ⟨rfl, rfl, rfl, by decide +kernel, rfl, by decide +kernel, by decide +kernel⟩
abbrev s_law_bytes : Stmt := top 27
theorem sc_law_bytes : FnScope ["_law_d", "_law_most", "_law_kinds", "_law_k"] ["_law_d", "_law_most"] (defScope s_law_bytes) := ⟨rfl, rfl, rfl, by decide +kernel, rfl, by decide +kernel, by decide +kernel⟩
abbrev s_law_rows : Stmt := top 28
theorem sc_law_rows : FnScope ["_law_d", "_law_count", "_law_most", "_law_rows_here", "_law_left", "_law_turn", "_law_n", "_law_pick", "_law_k"] ["_law_d", "_law_count", "_law_most"] (defScope s_law_rows) := ⟨rfl, rfl, rfl, by decide +kernel, rfl, by decide +kernel, by decide +kernel⟩
abbrev s_law_handed : Stmt := top 29
theorem sc_law_handed : FnScope ["_law_rows_here", "_law_found", "_law_row"] ["_law_rows_here"] (defScope s_law_handed) := ⟨rfl, rfl, rfl, by decide +kernel, rfl, by decide +kernel, by decide +kernel⟩
abbrev s_law_cells : Stmt := top 30
theorem sc_law_cells : FnScope ["_law_rows_here", "_law_found", "_law_row", "_law_k", "_law_byte"] ["_law_rows_here"] (defScope s_law_cells) := ⟨rfl, rfl, rfl, by decide +kernel, rfl, by decide +kernel, by decide +kernel⟩
abbrev s_law_new : Stmt := top 31
theorem sc_law_new : FnScope ["_law_rows_here", "_law_old", "_law_word", "_law_k"] ["_law_rows_here", "_law_old"] (defScope s_law_new) := ⟨rfl, rfl, rfl, by decide +kernel, rfl, by decide +kernel, by decide +kernel⟩
abbrev s_law : Stmt := top 32
theorem sc_law : FnScope ["_law_script", "_law_d", "_law_turn", "_law_old", "_law_rows_here", "_law_handed_here", "_law_ends", "_law_row"] ["_law_script"] (defScope s_law) := ⟨rfl, rfl, rfl, by decide +kernel, rfl, by decide +kernel, by decide +kernel⟩
structure Df (K : PySem.W.Frag) (mg : Str → Option Value) (x : Str) (st : Stmt) (ps : List Str) where
  f : Addr
  fd : FuncData
  F : Fun K x x st f fd
  m : mg x = some (.ref f)
  b : Binds K fd ps []
structure All (K : PySem.W.Frag) (mg : Str → Option Value) where
  d_bytes_of : Df K mg "bytes_of" s_bytes_of ["numbers"]
  d_numbers_of : Df K mg "numbers_of" s_numbers_of ["some"]
  d_is_number : Df K mg "is_number" s_is_number ["what", "least", "most"]
  d_can_be : Df K mg "can_be" s_can_be ["piece"]
  d_length_of : Df K mg "length_of" s_length_of ["piece"]
  d_cells_of : Df K mg "cells_of" s_cells_of ["piece"]
  d_check_edition : Df K mg "check_edition" s_check_edition ["edition"]
  d_check_patch : Df K mg "check_patch" s_check_patch ["patch"]
  d_check_reach : Df K mg "check_reach" s_check_reach ["patch", "edition"]
  d_done : Df K mg "done" s_done ["patch", "edition"]
  d_needs : Df K mg "needs" s_needs ["patch"]
  d_makes : Df K mg "makes" s_makes ["patch"]
  d_cells : Df K mg "cells" s_cells ["patch"]
  d_law_dice : Df K mg "_law_dice" s_law_dice ["_law_script"]
  d_law_next : Df K mg "_law_next" s_law_next ["_law_dice_here", "_law_many"]
  d_law_like : Df K mg "_law_like" s_law_like ["_law_found", "_law_due"]
  d_law_bytes : Df K mg "_law_bytes" s_law_bytes ["_law_d", "_law_most"]
  d_law_rows : Df K mg "_law_rows" s_law_rows ["_law_d", "_law_count", "_law_most"]
  d_law_handed : Df K mg "_law_handed" s_law_handed ["_law_rows_here"]
  d_law_cells : Df K mg "_law_cells" s_law_cells ["_law_rows_here"]
  d_law_new : Df K mg "_law_new" s_law_new ["_law_rows_here", "_law_old"]
  t_MOST : Tok
  c_MOST : mg "MOST" = some (.int 200 t_MOST)
  t_LAST_BYTE : Tok
  c_LAST_BYTE : mg "LAST_BYTE" = some (.int 255 t_LAST_BYTE)
  b_bool : mg "bool" = none
  b_bytes : mg "bytes" = none
  b_enumerate : mg "enumerate" = none
  b_int : mg "int" = none
  b_isinstance : mg "isinstance" = none
  b_len : mg "len" = none
  b_list : mg "list" = none
  b_max : mg "max" = none
  b_min : mg "min" = none
  b_range : mg "range" = none
  b_str : mg "str" = none
  b_sum : mg "sum" = none
  b_tuple : mg "tuple" = none
/-! ### rules within a comprehension's block -/
theorem ixlK {X : Cx} {K : PySem.W.Frag} (h : X.K = K) : IxR X (rIxL K) := by subst h; exact ix_list
theorem ixtK {X : Cx} {K : PySem.W.Frag} (h : X.K = K) : IxR X (rIxT K) := by subst h; exact ix_tup
theorem ixsK {X : Cx} {K : PySem.W.Frag} (h : X.K = K) : IxR X (rIx K) := by subst h; exact ix_seq
theorem lenK {X : Cx} {K : PySem.W.Frag} (h : X.K = K) : CallR X (.builtin "len") (fun xs H Q => ∃ x n, xs = [x] ∧ LenV K x H n ∧ Q (.int n) H) := by subst h; exact call_len
theorem pg_tupK {X : Cx} {K : PySem.W.Frag} {es : List Expr} {k : Nat} {t : TGs} {n : Nat} {pos : Pos} (hK : X.K = K) (hc : X.calm = true) (h : PGs X es t)
    (hn : (assignEach es X.env).length = n := by rfl) (hst : (assignEach es X.env).findIdx? (·.1) = none := by rfl) : PG X (.Tuple es k pos) (gTup K n t) := by subst hK; exact pg_tup hc h hn hst
/-! ### heaps -/
/-- all but d is as it was -/
def But (d : Addr) (H H' : Hp) : Prop := ∀ b o, b ≠ d → H b = some o → H' b = some o
theorem But.refl (d : Addr) (H : Hp) : But d H H := fun _ _ _ h => h
theorem But.trans {d : Addr} {H H1 H2 : Hp} (a : But d H H1) (b : But d H1 H2) : But d H H2 := fun c o n h => b c o n (a c o n h)
theorem Same.but {d : Addr} {H H' : Hp} (a : Same H H') : But d H H' := fun c o _ h => a c o h
theorem But.put {d : Addr} {H : Hp} {o : HO} : But d H (upd H d o) := fun c u n h => by rw [upd_ne n]; exact h
theorem Same.new {p : Addr} {H : Hp} {o : HO} (n : H p = none) : Same H (upd H p o) := fun c u h => by rw [upd_ne (ne_of_none h n)]; exact h
theorem But.new {d p : Addr} {H : Hp} {o : HO} (n : H p = none) : But d H (upd H p o) := Same.but (Same.new n)
theorem But.at {d p : Addr} {H H' : Hp} {o u : HO} (b : But d H H') (hd : H d = some u) (h : H p = some o) (hn : o ≠ u) : H' p = some o := b p o (ne_of h hd hn) h
theorem But.free {d p : Addr} {H H' : Hp} {u : HO} (b : But d H H') (hd : H d = some u) (h : H' d = some u ∨ ∃ u', H' d = some u') (n : H' p = none) : H p = none := by
  cases e : H p with
  | none => rfl
  | some o =>
    by_cases hp : p = d
    · subst hp
      rcases h with h | ⟨_, h⟩ <;> (rw [n] at h; cases h)
    · rw [b p o hp e] at n; cases n
theorem tup_lst {xs ys : List V} : HO.tup xs ≠ HO.lst ys := by intro z; cases z
theorem sizeS {n : Nat} (h : n ≤ 100000) : n ≤ sizeLine := by rw [sizeLine_eq]; omega
theorem sizeL {n : Nat} (h : n ≤ 100000) : n < sizeLine := by rw [sizeLine_eq]; omega
/-! ### the dice -/
structure Dice (K : PySem.W.Frag) (a : Addr) (ns : List Int) (H : Hp) (d : Addr) : Prop where
  sq : SqL K H a (ns.map V.int)
  len : ns.length ≤ 63
  ex : ∃ p m g : Int, 0 ≤ p ∧ H d = some (.lst [.ref a, .int p, .int m, .int g])
theorem sq_but {K : PySem.W.Frag} {H H' : Hp} {a d : Addr} {ns : List Int} {x : Addr} {xs : List V} (b : But d H H') (hd : H d = some (.lst (.ref x :: xs))) (h : SqL K H a (ns.map V.int)) : SqL K H' a (ns.map V.int) := by
  rcases h with (h | ⟨o, h⟩) | h
  · refine .inl (.inl (b.at hd h ?_))
    intro z
    cases ns with
    | nil => cases z
    | cons n r => cases z
  · exact .inl (.inr ⟨o, b.at hd h (by intro z; cases z)⟩)
  · exact .inr h
section
variable {K : PySem.W.Frag} {a : Addr} {ns : List Int} {d : Addr}
theorem Dice.same {H H' : Hp} (D : Dice K a ns H d) (s : Same H H') : Dice K a ns H' d := by
  obtain ⟨h1, h2, p, m, g, h3, h4⟩ := D
  exact ⟨s.seq h1, h2, p, m, g, h3, s _ _ h4⟩
/-- the dice's list is no tuple, no list of ints -/
theorem Dice.is {H : Hp} (D : Dice K a ns H d) : ∃ xs, H d = some (.lst (.ref a :: xs)) := by
  obtain ⟨h1, h2, p, m, g, h3, h4⟩ := D
  exact ⟨_, h4⟩
theorem Dice.put {H : Hp} {p m g p' m' g' : Int} (h1 : SqL K H a (ns.map V.int)) (h2 : ns.length ≤ 63) (h3 : 0 ≤ p') (h4 : H d = some (.lst [.ref a, .int p, .int m, .int g])) :
    Dice K a ns (upd H d (.lst [.ref a, .int p', .int m', .int g'])) d :=
  ⟨sq_but But.put h4 h1, h2, p', m', g', h3, upd_same⟩
theorem tup_but {H H' : Hp} {p : Addr} {xs : List V} (D : Dice K a ns H d) (b : But d H H') (h : H p = some (.tup xs)) : H' p = some (.tup xs) := by
  obtain ⟨ys, e⟩ := D.is
  exact b.at e h tup_lst
theorem ints_but {H H' : Hp} {p : Addr} {ms : List Int} (D : Dice K a ns H d) (b : But d H H') (h : H p = some (.lst (ms.map V.int))) : H' p = some (.lst (ms.map V.int)) := by
  obtain ⟨ys, e⟩ := D.is
  refine b.at e h ?_
  intro z
  cases ms with
  | nil => cases z
  | cons n r => cases z
theorem none_but {H H' : Hp} {p : Addr} (D : Dice K a ns H d) (D' : Dice K a ns H' d) (b : But d H H') (h : H' p = none) : H p = none := by
  obtain ⟨ys, e⟩ := D.is
  obtain ⟨ys', e'⟩ := D'.is
  exact b.free e (.inr ⟨_, e'⟩) h
theorem Dice.ne {H : Hp} {p : Addr} (D : Dice K a ns H d) (h : H p = none) : p ≠ d := by
  obtain ⟨ys, e⟩ := D.is
  exact (ne_of_none e h).symm
/-- what was made since H0 may be changed -/
theorem But.fresh {H0 H : Hp} {p : Addr} {o : HO} (b : But d H0 H) (h : H0 p = none) : But d H0 (upd H p o) := fun c u n e => by rw [upd_ne (ne_of_none e h)]; exact b c u n e
theorem Dice.fresh {H0 H : Hp} {p : Addr} {o : HO} (D0 : Dice K a ns H0 d) (b : But d H0 H) (h : H0 p = none) (D : Dice K a ns H d) : Dice K a ns (upd H p o) d := by
  obtain ⟨ys, e⟩ := D0.is
  obtain ⟨h1, h2, q, m, g, h3, h4⟩ := D
  exact ⟨sq_but (But.fresh b h) e D0.sq, h2, q, m, g, h3, by rw [upd_ne (D0.ne h).symm]; exact h4⟩
end
/-- _law_dice(script) -/
def spDice (K : PySem.W.Frag) : Sp := fun vs H Q _ => ∃ (a : Addr) (ns : List Int), vs = [.ref a] ∧ SqL K H a (ns.map V.int) ∧ ns.length ≤ 63 ∧ ∀ H' d, Same H H' → H d = none → Dice K a ns H' d → Q (.ref d) H'
/-- _law_next(d, n): any number below n -/
def spNext (K : PySem.W.Frag) : Sp := fun vs H Q _ => ∃ (a : Addr) (ns : List Int) (d : Addr) (n : Int), vs = [.ref d, .int n] ∧ Dice K a ns H d ∧ 1 ≤ n ∧ n < 1073741824 ∧ ∀ H' r, But d H H' → Dice K a ns H' d → 0 ≤ r → r < n → Q (.int r) H'
section
variable {P : Program} {w : World} {K : PySem.W.Frag} {mg : Str → Option Value} {base : Heap}
theorem at_map {ns : List Int} {i : Nat} {x : V} (h : (ns.map V.int)[i]? = some x) : ∃ z, x = V.int z ∧ ns[i]? = some z := by
  rw [List.getElem?_map] at h
  cases e : ns[i]? with
  | none => rw [e] at h; cases h
  | some z => rw [e] at h; exact ⟨z, (Option.some.inj h).symm, rfl⟩
theorem ok_law_dice (T : All K mg) : FnOk P w K mg base CX0 1 T.d_law_dice.f T.d_law_dice.fd ["_law_script"] (spDice K) := by
  refine T.d_law_dice.F.ok sc_law_dice (fun vs H Q E h => ?_) (fun cdv A outer s H vs Q E hr h => ?_)
  · obtain ⟨a, ns, rfl, _⟩ := h
    rfl
  · obtain ⟨a, ns, rfl, hS, hl, k⟩ := h
    refine ⟨_, (pss_cons 
      (ps_set (i := 1) sc_law_dice.nd rfl (Or.inl rfl) pe_int) (pss_cons 
      (ps_for PassesOwn.never rfl (pi_list (pv 0)) (pg_name (i := 2) sc_law_dice.nd rfl (Or.inl rfl)) (pss_one 
      (ps_set (i := 1) sc_law_dice.nd rfl (Or.inl rfl) (pe_op op_mod (pe_op op_add (pe_op op_add (pe_op op_mul (pv 1) pe_int) (pe_op op_mul (pe_op op_mod (pe_callTy call_int1 (by rfl) T.b_int PyProof.Rows.boot_int (pa_cons (pv 2) pa_nil)) pe_int) pe_int)) pe_int) pe_int)))) (pss_one 
      (ps_ret (pe_lst (pa_cons (pv 0) (pa_cons pe_int (pa_cons (pe_op op_mul (pv 1) (pe_callTy call_int1 (by rfl) T.b_int PyProof.Rows.boot_int (pa_cons (pe_cmpR op_gt (pe_callB call_len (by rfl) T.b_len PySem.boot_len (pa_cons (pv 0) pa_nil)) pe_int (nomark _)) pa_nil))) (pa_cons pe_int pa_nil))))))))), ?_⟩
    refine ⟨_, rfl, a, rfl, ⟨_, hS⟩, for_list (K := K) (a := a) (xs := ns.map V.int) (fun i σ H' => ∃ (m : Int) (v : Option V), σ = [some (.ref a), some (.int m), v] ∧ H' = H ∧ 0 ≤ m ∧ m < 2147483647)
      ⟨0, none, rfl, rfl, by decide, by decide⟩ (fun i σ H' _ ⟨_, _, _, e, _⟩ => by rw [e]; exact hS) ?_ ?_⟩
    · rintro i y σ H' hi ⟨m, v, rfl, rfl, h0, h1⟩
      obtain ⟨z, rfl, _⟩ := at_map hi
      refine ⟨_, rfl, _, _, rfl, rfl, .inl ⟨by omega, by omega⟩, _, rfl, .inl ⟨_, rfl, _, _, rfl, rfl, (by show (0 : Int) < 2147483647; decide), ?_⟩⟩
      have b0 : 0 ≤ z % 2147483647 := Int.emod_nonneg _ (by decide)
      have b1 : z % 2147483647 < 2147483647 := Int.emod_lt_of_pos _ (by decide)
      refine ⟨_, _, rfl, rfl, .inl ⟨by omega, by omega⟩, _, _, rfl, rfl, _, _, rfl, rfl, _, _, rfl, rfl, (by show (0 : Int) < 2147483647; decide), ?_⟩
      exact ⟨_, _, rfl, rfl, Int.emod_nonneg _ (by decide), Int.emod_lt_of_pos _ (by decide)⟩
    · rintro σ H' ⟨m, v, rfl, rfl, h0, h1⟩
      refine ⟨_, rfl, _, rfl, _, rfl, _, ns.length, rfl, .inl ⟨_, hS, by rw [List.length_map]⟩, _, _, rfl, rfl, .inr ⟨_, rfl, _, _, rfl, rfl, .inl ⟨by omega, by omega⟩, sizeS (by show 4 ≤ 100000; decide), fun d hd => ?_⟩⟩
      exact k _ d (Same.new hd) hd ⟨(Same.new hd).seq hS, hl, 0, _, 0, by decide, upd_same⟩
theorem ok_law_next (T : All K mg) : FnOk P w K mg base CX0 1 T.d_law_next.f T.d_law_next.fd ["_law_dice_here", "_law_many"] (spNext K) := by
  refine T.d_law_next.F.ok sc_law_next (fun vs H Q E h => ?_) (fun cdv A outer s H vs Q E hr h => ?_)
  · obtain ⟨_, _, d, n, rfl, _⟩ := h
    rfl
  · obtain ⟨a, ns, d, n, rfl, ⟨hS, hl, p, m, g, hp, hd⟩, n1, n2, k⟩ := h
    refine ⟨_, (pss_cons 
      (ps_if (pt_cmpR op_gt (pe_ix ix_list (pv 0) pe_int (fun _ _ => rfl)) pe_int (nomark _)) (pss_cons 
      (ps_set (i := 2) sc_law_next.nd rfl (Or.inl rfl) (pe_op op_mod (pe_callTy call_int1 (by rfl) T.b_int PyProof.Rows.boot_int (pa_cons (pe_ix ix_list (pv 0) pe_int (fun _ _ => rfl)) pa_nil)) (pv 1))) (pss_cons 
      (ps_asg (pe_op op_fdiv (pe_ix ix_list (pv 0) pe_int (fun _ _ => rfl)) (pv 1)) (pg_sub (pv 0) pe_int set_list)) (pss_one 
      (ps_ret (pv 2))))) pss_nil) (pss_cons 
      (ps_asg (pe_op op_add (pe_ix ix_list (pv 0) pe_int (fun _ _ => rfl)) pe_int) (pg_sub (pv 0) pe_int set_list)) (pss_cons 
      (ps_if (pt_cmpR op_le (pe_ix ix_list (pv 0) pe_int (fun _ _ => rfl)) (pe_callB call_len (by rfl) T.b_len PySem.boot_len (pa_cons (pe_ix ix_list (pv 0) pe_int (fun _ _ => rfl)) pa_nil)) (nomark _)) (pss_cons 
      (ps_set (i := 3) sc_law_next.nd rfl (Or.inl rfl) (pe_ix ix_list (pe_ix ix_list (pv 0) pe_int (fun _ _ => rfl)) (pe_op op_sub (pe_ix ix_list (pv 0) pe_int (fun _ _ => rfl)) pe_int) (fun _ _ => rfl))) (pss_cons 
      (ps_asg (pe_ifExp (pt_cmpR op_ge (pv 3) (pe_op op_pow pe_int pe_int) (nomark _)) (pe_op op_fdiv (pv 3) (pv 1)) pe_int) (pg_sub (pv 0) pe_int set_list)) (pss_one 
      (ps_ret (pe_op op_mod (pe_callTy call_int1 (by rfl) T.b_int PyProof.Rows.boot_int (pa_cons (pv 3) pa_nil)) (pv 1)))))) pss_nil) (pss_cons 
      (ps_asg (pe_op op_mod (pe_callTy call_int1 (by rfl) T.b_int PyProof.Rows.boot_int (pa_cons (pe_op op_mul (pe_ix ix_list (pv 0) pe_int (fun _ _ => rfl)) pe_int) pa_nil)) pe_int) (pg_sub (pv 0) pe_int set_list)) (pss_one 
      (ps_ret (pe_op op_mod (pe_op op_fdiv (pe_ix ix_list (pv 0) pe_int (fun _ _ => rfl)) pe_int) (pv 1)))))))), ?_⟩
    have i0 : ∀ {x0 x1 x2 x3 : V}, atI [x0, x1, x2, x3] 0 = some x0 := rfl
    have i1 : ∀ {x0 x1 x2 x3 : V}, atI [x0, x1, x2, x3] 1 = some x1 := rfl
    have i2 : ∀ {x0 x1 x2 x3 : V}, atI [x0, x1, x2, x3] 2 = some x2 := rfl
    have i3 : ∀ {x0 x1 x2 x3 : V}, atI [x0, x1, x2, x3] 3 = some x3 := rfl
    have npos : 0 < n := by omega
    refine ⟨_, rfl, d, _, _, _, rfl, rfl, SqL.of hd, i3, _, _, rfl, rfl, _, rfl, ite2 (fun hg => ?_) fun hg => ?_⟩
    · refine ⟨_, rfl, d, _, _, _, rfl, rfl, SqL.of hd, i3, .inl ⟨_, rfl, _, rfl, _, _, rfl, rfl, npos, ?_⟩⟩
      refine ⟨_, rfl, d, _, _, _, rfl, rfl, SqL.of hd, i3, _, rfl, _, _, rfl, rfl, ⟨npos, n2⟩, _, rfl, d, _, _, _, rfl, rfl, hd, rfl, _, rfl, ?_⟩
      exact k _ _ But.put (Dice.put hS hl hp hd) (Int.emod_nonneg _ (by omega)) (Int.emod_lt_of_pos _ npos)
    · refine ⟨_, rfl, d, _, _, _, rfl, rfl, SqL.of hd, i1, _, _, rfl, rfl, _, rfl, d, _, _, _, rfl, rfl, hd, rfl, ?_⟩
      have hd1 : (upd H d (.lst [V.ref a, V.int (p + 1), V.int m, V.int g])) d = some (.lst [V.ref a, V.int (p + 1), V.int m, V.int g]) := upd_same
      have hS1 : SqL K (upd H d (.lst [V.ref a, V.int (p + 1), V.int m, V.int g])) a (ns.map V.int) := sq_but But.put hd hS
      refine ⟨_, rfl, d, _, _, _, rfl, rfl, SqL.of hd1, i1, _, rfl, d, _, _, _, rfl, rfl, SqL.of hd1, i0, _, _, rfl, .inl ⟨_, hS1, rfl⟩, _, _, rfl, rfl, _, rfl, ite2 (fun hc => ?_) fun hc => ?_⟩
      · have hc' : p + 1 ≤ (ns.length : Int) := by
          have := of_decide_eq_true hc
          rw [List.length_map] at this
          exact this
        obtain ⟨j, hj⟩ : ∃ j : Nat, p = (j : Int) := ⟨p.toNat, by omega⟩
        have hlt : j < ns.length := by omega
        have hat : atI (ns.map V.int) (p + 1 - 1) = some (V.int ns[j]) := at_of (j := j) (by omega) (by rw [List.getElem?_map, List.getElem?_eq_getElem hlt]; rfl)
        refine ⟨_, rfl, d, _, _, _, rfl, rfl, SqL.of hd1, i0, _, rfl, d, _, _, _, rfl, rfl, SqL.of hd1, i1, _, _, rfl, rfl, a, _, _, _, rfl, rfl, hS1, hat, ?_⟩
        refine ⟨_, rfl, _, _, rfl, rfl, ⟨by decide, by decide, by decide⟩, _, _, rfl, rfl, _, rfl, ite2 (fun hb => ?_) fun hb => ?_⟩
        · refine ⟨_, rfl, _, rfl, _, _, rfl, rfl, ⟨npos, n2⟩, _, rfl, d, _, _, _, rfl, rfl, hd1, rfl, ?_⟩
          refine ⟨_, rfl, .inl ⟨_, rfl, _, rfl, _, _, rfl, rfl, npos, ?_⟩⟩
          exact k _ _ (But.put.trans But.put) (Dice.put hS1 hl (by omega) hd1) (Int.emod_nonneg _ (by omega)) (Int.emod_lt_of_pos _ npos)
        · refine ⟨_, rfl, d, _, _, _, rfl, rfl, hd1, rfl, ?_⟩
          refine ⟨_, rfl, .inl ⟨_, rfl, _, rfl, _, _, rfl, rfl, npos, ?_⟩⟩
          exact k _ _ (But.put.trans But.put) (Dice.put hS1 hl (by omega) hd1) (Int.emod_nonneg _ (by omega)) (Int.emod_lt_of_pos _ npos)
      · refine ⟨_, rfl, d, _, _, _, rfl, rfl, SqL.of hd1, i2, _, _, rfl, rfl, .inr ⟨by decide, by decide⟩, .inl ⟨_, rfl, _, _, rfl, rfl, (by show (0 : Int) < 2147483647; decide), _, rfl, d, _, _, _, rfl, rfl, hd1, rfl, ?_⟩⟩
        have hd2 : (upd (upd H d (.lst [V.ref a, V.int (p + 1), V.int m, V.int g])) d (.lst [V.ref a, V.int (p + 1), V.int (m * 48271 % 2147483647), V.int g])) d = some (.lst [V.ref a, V.int (p + 1), V.int (m * 48271 % 2147483647), V.int g]) := upd_same
        refine ⟨_, rfl, d, _, _, _, rfl, rfl, SqL.of hd2, i2, _, _, rfl, rfl, ⟨by decide, by decide⟩, _, rfl, _, _, rfl, rfl, npos, ?_⟩
        exact k _ _ (But.put.trans But.put) (Dice.put hS1 hl (by omega) hd1) (Int.emod_nonneg _ (by omega)) (Int.emod_lt_of_pos _ npos)
end
/-! ### enumerate(tuple) -/
open AutoSeq1 (wpAny_loadPart') in
set_option maxHeartbeats 1000000 in
theorem meets_enumT (t : Addr) (items : Array Value) :
    Meets (Builtin.«enumerate.__new__» ⟨[.type "enumerate", .ref t], []⟩) (fun _ R s => s.heap.IsTuple t items ∧
      R (.ok (.ret (.ref (s.heap.push { cls := .type "tuple_iterator", data := .fields #[.ref t, .int 0 0] }).objs.size)))
        { s with heap := (s.heap.push { cls := .type "tuple_iterator", data := .fields #[.ref t, .int 0 0] }).push { cls := .type "enumerate", data := .fields #[.none, .bool false, .ref s.heap.objs.size, rawInt 0, .none, .none] } }) :=
  .of_wp fun prog w A R s h => by
    obtain ⟨hp, g, d, tk, os⟩ := s; obtain ⟨hl, h⟩ := h
    have hsub := sub_enumerate
    have q1 : ∀ {A' : Around} {E : Value → Shared → Prop} {Q : Value → Shared → Prop}, Q (.ref hp.objs.size) ⟨hp.push { cls := .type "tuple_iterator", data := .fields #[.ref t, .int 0 0] }, g, d, tk, os⟩ → wpAny (model prog w) A' (pyIter (.ref t)) Q E ⟨hp, g, d, tk, os⟩ :=
      fun q => (begins_tuple t items).iter prog w _ _ ⟨hp, g, d, tk, os⟩ _ hl q
    wp_walk using q1
    refine wpAny_stack_any fun st => wpAny_pure ?_
    split
    · rename_i c _ _ _ _ _
      cases (c == Value.type "enumerate")
      · wp_walk using q1
        exact ⟨_, rfl, h⟩
      · wp_walk using q1
        exact ⟨_, rfl, h⟩
    · wp_walk using q1
      exact ⟨_, rfl, h⟩
theorem call_enumT {prog : Program} {w : World} {A : Around} {E : Value → Shared → Prop} {s : Shared} {t : Addr} {items : Array Value} {Q : Value → Shared → Prop} (ht : s.heap.IsTuple t items)
    (h : ∀ h', IsEnum h' (s.heap.objs.size + 1) s.heap.objs.size 0 .none → h'.IsTupleIter s.heap.objs.size t 0 → h'.objs.size = s.heap.objs.size + 2 →
      (∀ b o, s.heap.get? b = some o → h'.get? b = some o) → Q (.ref (s.heap.objs.size + 1)) { s with heap := h' }) :
    wpAny (model prog w) A (call (.type "enumerate") [.ref t]) Q E s := by
  refine callType_new F.called_enumerate (by decide) (F.typeCall_enumerate_1 _) (F.newCall_enumerate_1 _) (fun obj => F.args_object_init_2 obj _) F.entry_enumerate_new
    (meets_enumT t items) ⟨ht, ?_⟩
  have hz : (s.heap.push { cls := .type "tuple_iterator", data := .fields #[.ref t, .int 0 0] }).objs.size = s.heap.objs.size + 1 := Heap.size_push ..
  show _ ∧ _
  rw [hz]
  have he : IsEnum ((s.heap.push { cls := .type "tuple_iterator", data := .fields #[.ref t, .int 0 0] }).push
      { cls := .type "enumerate", data := .fields #[.none, .bool false, .ref s.heap.objs.size, rawInt 0, .none, .none] }) (s.heap.objs.size + 1) s.heap.objs.size 0 .none := by
    have := Heap.get?_push_size (s.heap.push { cls := .type "tuple_iterator", data := .fields #[.ref t, .int 0 0] })
      (o := { cls := .type "enumerate", data := .fields #[.none, .bool false, .ref s.heap.objs.size, rawInt 0, .none, .none] }) rfl
    rw [hz] at this; exact this
  refine ⟨⟨_, he, rfl⟩, h _ he ⟨_, Heap.get?_push_of_some _ (Heap.get?_push_size _ rfl), rfl, rfl⟩ (by rw [Heap.size_push, hz]) fun b o x => Heap.get?_push_of_some _ (Heap.get?_push_of_some _ x)⟩
theorem pyNext_enumT_end {prog : Program} {w : World} {A : Around} {E : Value → Shared → Prop} {s : Shared} {e it t : Addr} {i : Nat} {c : Int} {items : Array Value} {old : Value} {Q : Option Value → Shared → Prop} (hh : A.handled = none)
    (he : IsEnum s.heap e it c old) (hit : s.heap.IsTupleIter it t i) (ht : s.heap.IsTuple t items) (hx : items[i]? = none)
    (hQ : ∀ h', Heap.ExtBut it s.heap h' → Q none { s with heap := h' }) : wpAny (model prog w) A (pyNext (.ref e)) Q E s := by
  have hT : s.TypeIs (.ref e) "enumerate" := ⟨_, he, rfl⟩
  unfold pyNext
  refine wpAny_bind (wpAny_attempt (wpAny_callSpecial?_slot (name := Str.ofString "__next__") hT F.slot_enumerate_next
    (wpAny_call_entry F.slot_enumerate_next hT F.entry_enumerate_next ?_ (F.args_enumerate_next_1 _))))
  show wpAny _ _ (field (.ref e) 2 >>= _) _ _ _
  refine wpAny_bind (wpAny_field he rfl (x := .ref it) rfl ?_)
  refine wpAny_bind (wpAny_nextOf_tuple_end (by exact hh) hit ht hx fun h' x he' hx' => ?_)
  obtain ⟨o, ho, hc⟩ := hx'
  refine wpAny_bind (wpAny_isInstance (T := "StopIteration") (b := true) ⟨o, ho, hc⟩ isSubtype_stop ?_)
  exact wpAny_pure (hQ _ he')
/-- the tuple at a, each item in a new pair -/
def Itet (K : PySem.W.Frag) (a : Addr) : It :=
  ⟨fun i H => ∃ (xs : List V) (x : V), SqT K H a xs ∧ xs[i]? = some x, fun i H v H' => ∃ T x, v = .ref T ∧ H T = none ∧ H' = upd H T (.tup [.int (i : Nat), x]) ∧ ∀ xs, SqT K H a xs → xs[i]? = some x, fun i H => ∃ xs : List V, SqT K H a xs ∧ xs.length ≤ i⟩
theorem turn_enumT {P : Program} {w : World} {K : PySem.W.Frag} {elts : List Expr} {kk : Nat} {tpos : Pos} (a e it : Addr) :
    Turn P w K (.Tuple elts kk tpos) (Itet K a) [e, it] e (fun i h => (∃ old, IsEnum h e it ((i : Nat) : Int) old) ∧ h.IsTupleIter it a i ∧ e ≠ it ∧ a ≠ it ∧ e ≠ a) where
  mem := by simp
  obj := fun i h st b hb => by
    obtain ⟨⟨old, he⟩, ⟨o, ho, hc, hd⟩, _⟩ := st
    have e' : b = e ∨ b = it := by simpa using hb
    rcases e' with z | z
    · rw [z]; exact ⟨_, he, fun v q => nomatch q⟩
    · rw [z]; exact ⟨o, ho, fun v q => by rw [hd] at q; cases q⟩
  keep := fun i h h' st k => let ⟨⟨old, he⟩, hi, hne⟩ := st; ⟨⟨old, k e (by simp) _ he⟩, hi.at fun o q => k it (by simp) o q, hne⟩
  item := by
    intro X hP hw hK hc i pins s σ H E I hf st hg
    subst hP hw hK
    obtain ⟨⟨old, he⟩, hit, hne, hne2, hne3⟩ := st
    obtain ⟨xs, x, hq, hx⟩ := hg
    obtain ⟨its, rv, p, hz⟩ := I.tuple hq
    obtain ⟨u, hu, ru⟩ := rv.get hx
    have hel : e < s.heap.objs.size := Heap.lt_size he
    have hil : it < s.heap.objs.size := by obtain ⟨_, q, _⟩ := hit; exact Heap.lt_size q
    have ht : s.heap.IsTuple a its.toArray := p
    have hlt : i < its.toArray.size := by
      have := (List.getElem?_eq_some_iff.mp hu).1
      simpa using this
    refine wpAny_pyNext_enum_itemD (Draws.tuple (A := X.A.in1) (by exact I.ok.hd hc) it a hne2 its.toArray) he ⟨hit, ht⟩ hlt hne (by simp; exact ⟨hne, hne3⟩) fun y h' tk hPy ho hst' hT hsz hk => ?_
    have ey : y = u := by
      have z : its[i]? = some y := by simpa using hPy
      rw [hu] at z; exact (Option.some.inj z).symm
    subst ey
    refine ⟨_, rfl, wpAny_letOwnedTupleGo_enum (s := { s with heap := h', toks := tk + 1 }) ho fun h'' he' sb => ?_⟩
    have hT2 : h''.get? s.heap.objs.size = some { cls := .type "tuple", data := .seq #[.int i tk, y] } := (sb.2 _ (Nat.ne_of_gt hel)).trans hT
    have new : ObjOk X.prog X.w (upd H s.heap.objs.size (.tup [.int (i : Nat), x])) h'' s.heap.objs.size (.tup [.int (i : Nat), x]) :=
      ⟨by show 2 ≤ sizeLine; decide, [.int i tk, y], .cons ⟨_, rfl⟩ (.cons ru .nil), ⟨_, hT2, rfl, _, rfl⟩⟩
    have I1 : Inv X pins σ (upd H s.heap.objs.size (.tup [.int (i : Nat), x])) { s with heap := h'', toks := tk + 1 } :=
      I.turnedNew (ch := [e, it]) (fun b ob hb q => (sb.2 b (fun z => hb (by simp [z]))).trans (hk b ob (fun z => hb (by simp [z])) (fun z => hb (by simp [z])) q)) hf (Nat.le_refl _) new
    refine ⟨.ref s.heap.objs.size, _, I1, rfl, ⟨_, x, rfl, I.hok.fresh (Nat.le_refl _), rfl, fun ys hy => by rw [I.tuple_inj hy hq]; exact hx⟩, ⟨⟨y, ?_⟩, hst'.1.at fun o q => (sb.2 it (Ne.symm hne)).trans q, hne, hne2, hne3⟩, fun b hb => ?_⟩
    · have e1 : ((i + 1 : Nat) : Int) = (i : Int) + 1 := by omega
      rw [e1]; exact he'
    · have hb' : b < s.heap.objs.size := by
        have e' : b = e ∨ b = it := by simpa using hb
        rcases e' with z | z
        · rw [z]; exact hel
        · rw [z]; exact hil
      rw [upd_ne (Nat.ne_of_lt hb')]
      exact (hf b hb).1
  done := by
    intro X hP hw hK hc i pins s σ H E I hf st hg
    subst hP hw hK
    obtain ⟨⟨old, he⟩, hit, hne, hne2, hne3⟩ := st
    obtain ⟨xs, hq, hx⟩ := hg
    obtain ⟨its, rv, p, hz⟩ := I.tuple hq
    obtain ⟨f0, f1, f2, f3, f4, f5⟩ := hf it (by simp)
    have hl := rv.length
    have ht : s.heap.IsTuple a its.toArray := p
    exact pyNext_enumT_end (I.ok.hd hc) he hit ht (by simp; omega) fun h' eb => ⟨rfl, I.turned (t' := s.toks) (fun b o hb q => eb b o hb q) f0 f1 f3 f4 f5⟩
  self := fun A i s Q E st h => let ⟨⟨_, he⟩, _⟩ := st; wpAny_pyIter_enum he h
def iEnumT (K : PySem.W.Frag) (ta : TA) : TI := fun σ H R => ta σ H fun vs H1 => ∃ a xs, vs = [.ref a] ∧ SqT K H1 a xs ∧ R (Itet K a) H1
theorem pi_enumT {X : Cx} {e : Expr} {ta : TA} {p pos tpos : Pos} {elts : List Expr} {kk : Nat} (hg : Gl X "enumerate") (hm : X.mg "enumerate" = none) (ha : PA X [e] ta) (hs : starEach [e] X.env = [(false, eval e X.env)] := by rfl) :
    PI X (.Tuple elts kk tpos) (.Call (.Name "enumerate" p) [e] [] pos) (iEnumT X.K ta) := by
  refine ⟨fun pins s σ H R I h => ?_⟩
  refine Call_ (ld_blt I hg hm boot_enumerate (PyProof.Rows.callWith_type1 (thn (ha.run pos pins s σ H _ I h) fun us s1 ⟨vs, H1, I1, r1, q1⟩ => ?_) hs rfl))
  obtain ⟨a, xs, ex, hq, q⟩ := q1
  subst ex
  cases r1 with
  | cons r rr =>
    cases rr
    cases r
    obtain ⟨its, rv, p', hz⟩ := I1.tuple hq
    have ht : s1.heap.IsTuple a its.toArray := p'
    have hal : a < s1.heap.objs.size := by obtain ⟨_, q', _⟩ := id ht; exact Heap.lt_size q'
    refine call_enumT ht fun h' he hit hsz hk => wpAny_pyIter_enum he ?_
    have I2 : Inv X pins σ H1 { s1 with heap := h' } := I1.kept (t' := s1.toks) hk
    refine ⟨s1.heap.objs.size + 1, [s1.heap.objs.size + 1, s1.heap.objs.size], _, _, H1, rfl, I2, turn_enumT a (s1.heap.objs.size + 1) s1.heap.objs.size, ⟨⟨.none, he⟩, hit, Nat.succ_ne_self _, Nat.ne_of_lt hal, Nat.ne_of_gt (Nat.lt_succ_of_lt hal)⟩, fun b hb => ?_, q⟩
    have e' : b = s1.heap.objs.size + 1 ∨ b = s1.heap.objs.size := by simpa using hb
    have hle : s1.heap.objs.size ≤ b := by
      rcases e' with z | z
      · rw [z]; exact Nat.le_add_right _ _
      · rw [z]; exact Nat.le_refl _
    exact I1.fpOk hle (I1.hok.fresh hle)
theorem walk_enumT {K : PySem.W.Frag} {a : Addr} {xs : List V} : Walk (Itet K a) xs.length (fun H => SqT K H a xs) (YPair (fun i => some (.int (i : Nat))) (fun i => xs[i]?)) := by
  refine ⟨fun i _ hi q => ⟨xs, xs[i], q, by simp [hi]⟩, fun _ q => ⟨xs, q, Nat.le_refl _⟩, fun i H v H' _ q y => ?_⟩
  obtain ⟨T, x, h1, h2, h3, h4⟩ := y
  exact ⟨T, .int (i : Nat), x, h1, h2, h3, rfl, h4 xs q⟩
theorem walk_byt {x : Array UInt8} : Walk (Itb x) x.size (fun _ => True) (fun i H v H' => H' = H ∧ ∃ c, x[i]? = some c ∧ v = .int ((c.toNat : Nat) : Int)) :=
  ⟨fun _ _ hi _ => hi, fun _ _ => Nat.le_refl _, fun _ _ _ _ _ _ y => y⟩
/-- the i-th byte -/
theorem byt_at {bs : List Int} {i : Nat} {c : UInt8} (hb : B8 bs) (h : (byteArr bs)[i]? = some c) : bs[i]? = some ((c.toNat : Nat) : Int) := by
  have h1 : (bs.map fun n : Int => n.toNat.toUInt8)[i]? = some c := by
    have : (byteArr bs)[i]? = (bs.map fun n : Int => n.toNat.toUInt8)[i]? := by unfold byteArr; simp
    rw [← this]; exact h
  have hl : i < bs.length := by
    have := (List.getElem?_eq_some_iff.mp h1).1
    simpa using this
  have h2 := byte_at (j := i) hb (List.getElem?_eq_getElem hl)
  rw [List.getD_eq_getElem?_getD, h1] at h2
  rw [List.getElem?_eq_getElem hl, ← h2]
  rfl
/-! ### max(list of ints, default=int) -/
theorem args_maxD (a v : Value) : argsOk "max" ⟨[a], [(Str.ofString "default", v)]⟩ := by unfold argsOk; kernel_rfl
section
variable {prog : Program} {w : World} {A : Around} {R : Result → Shared → Prop} {I S : Addr} {fp wr : List Addr} {n : Nat} {P : Nat → Value → Prop} {St : Nat → Heap → Prop} {f : Nat → Int} {kw : List (Str × Value)}
theorem maxD_turns (W : Walks prog w A.in1 I fp wr n P St) (num : ∀ i v, P i v → ∃ t, v = Value.int (f i) t) (apart : S ∉ fp) : ∀ (left j b : Nat) (s : Shared) (best : Value) (c : Nat), n = j + 1 + left → St (j + 1) s.heap → P b best → b ≤ j → (∀ i, i ≤ j → f i ≤ f b) →
    s.heap.get? S = some { cls := .type "list", dict := none, data := .seq #[best, best] c, slots := #[] } →
    (∀ b v h' tk, b < n → P b v → (∀ i, i < n → f i ≤ f b) → (∀ a o, a ∉ wr → a ≠ S → s.heap.get? a = some o → h'.get? a = some o) → R (.ok (.ret v)) { s with heap := h', toks := tk }) →
    codeAny (model prog w) A (.builtin "max.loop" ⟨[.ref I, .none, .ref S], kw⟩) R s := by
  have outside : S ∉ wr := fun z => apart (W.sub _ z)
  have nm : (toString "max" ++ toString ".loop" : String) = "max.loop" := by decide
  intro left
  induction left with
  | zero =>
    intro j b s best c en st hb bj top hS fin
    refine codeAny_builtin F.entry_max_loop ?_
    rw [Around.under_plainId F.plain_max_loop _]
    refine wpAny_bind (wpAny_seqItems hS rfl (wpAny_bind (wpAny_tryCatch (W.done s _ _ (by rw [en]; exact st) fun h' tk kept => ?_))))
    refine wpAny_bind (wpAny_updateSeq (kept S _ outside hS) rfl (wpAny_bind (wpAny_letGo (wpAny_pure ?_))))
    exact fin b best _ tk (by omega) hb (fun i hi => top i (by omega)) fun a o ha hs e => (Heap.get?_update_other _ _ (Ne.symm hs)).trans (kept a o ha e)
  | succ left ih =>
    intro j b s best c en st hb bj top hS fin
    refine codeAny_builtin F.entry_max_loop ?_
    rw [Around.under_plainId F.plain_max_loop _]
    refine wpAny_bind (wpAny_seqItems hS rfl (wpAny_bind (wpAny_tryCatch (W.item (j + 1) s _ _ (by omega) st fun v h' tk hv st' kept => ?_))))
    have hS1 := kept S _ outside hS
    refine wpAny_bind (wpAny_pure ?_)
    refine wpAny_bind (wpAny_tryCatch (wpAny_holding (wpAny_bind (CmpOf.ints_gt f num (j + 1) b v best _ _ _ hv hb ?_))))
    refine wpAny_bind (wpAny_holding (wpAny_truthy_bool (wpAny_bind (wpAny_letGo (wpAny_pure ?_)))))
    by_cases gt : f (j + 1) > f b
    · rw [if_pos (by exact decide_eq_true gt)]
      refine wpAny_bind ?_
      refine wpAny_updateSeq hS1 rfl (wpAny_bind (wpAny_letGo ?_))
      rw [nm]
      refine wpAny_pure ⟨plainId_quiet F.plain_max_loop _, ?_⟩
      refine ih (j + 1) (j + 1) _ v c (by omega) (W.frame _ _ _ st' fun a ha o e => ?_) hv (Nat.le_refl _) (fun i hi => ?_) (Heap.get?_update_self _ hS1 rfl) fun b' v' h2 tk2 lt hv' top' kept' => ?_
      · exact (Heap.get?_update_other _ _ (fun z : S = a => apart (by rw [z]; exact ha))).trans e
      · by_cases e : i = j + 1
        · rw [e]; omega
        · have := top i (by omega)
          omega
      · exact fin b' v' h2 tk2 lt hv' top' fun a o ha hs e => kept' a o ha hs ((Heap.get?_update_other _ _ (Ne.symm hs)).trans (kept a o ha e))
    · rw [if_neg (by intro z; exact gt (of_decide_eq_true z))]
      refine wpAny_bind (wpAny_letGo ?_)
      rw [nm]
      refine wpAny_pure ⟨plainId_quiet F.plain_max_loop _, ?_⟩
      refine ih (j + 1) b _ best c (by omega) st' hb (by omega) (fun i hi => ?_) hS1 fun b' v' h2 tk2 lt hv' top' kept' => ?_
      · by_cases e : i = j + 1
        · rw [e]; omega
        · exact top i (by omega)
      · exact fin b' v' h2 tk2 lt hv' top' fun a o ha hs e => kept' a o ha hs (kept a o ha e)
end
theorem call_maxD {prog : Program} {w : World} {A : Around} {E : Value → Shared → Prop} {s : Shared} {l : Addr} {its : List Value} {ns : List Int} {d : Value} {Q : Value → Shared → Prop} (hh : A.handled = none) (hl : s.heap.IsList l its.toArray) (hi : ∀ i v, its[i]? = some v → ∃ t, v = Value.int (ns.getD i 0) t) (len : its.length = ns.length)
    (h0 : ns = [] → ∀ h' tk, (∀ b o, s.heap.get? b = some o → h'.get? b = some o) → Q d { s with heap := h', toks := tk })
    (h1 : ∀ m t h' tk, m ∈ ns → (∀ y, y ∈ ns → y ≤ m) → (∀ b o, s.heap.get? b = some o → h'.get? b = some o) → Q (Value.int m t) { s with heap := h', toks := tk }) :
    wpAny (model prog w) A (call (.builtin "max") [.ref l] [(Str.ofString "default", d)]) Q E s := by
  have nm : (toString "max" ++ toString ".loop" : String) = "max.loop" := by decide
  have below : l < s.heap.objs.size := by obtain ⟨_, q, _⟩ := id hl; exact Heap.lt_size q
  refine PyProof.Rows.kmk_tree F.kind_max F.plain_max F.entry_max (args_maxD _ _) ?_
  refine wpAny_bind (wpAny_of_eq (show Builtin.Builtins.bindParams "max" ["key", "default"] 0 ⟨[], [(Str.ofString "default", d)]⟩ = pure [none, some d] from rfl) (wpAny_bind (wpAny_pure ?_)))
  refine wpAny_bind (wpAny_pyIter_list hl (wpAny_bind (wpAny_newList ?_ (Nat.zero_le _))))
  rw [nm]
  have sz : (s.heap.push { cls := .type "list_iterator", data := .fields #[.ref l, .int 0 0] }).objs.size = s.heap.objs.size + 1 := Heap.size_push ..
  refine wpAny_pure ⟨plainId_quiet F.plain_max_loop _, ?_⟩
  have W := Walks.list (prog := prog) (w := w) (A := A.in1) hh s.heap.objs.size l (Nat.ne_of_lt below) its.toArray
  have hn : its.toArray.size = ns.length := by rw [List.size_toArray]; exact len
  have gI : ((s.heap.push { cls := .type "list_iterator", data := .fields #[.ref l, .int 0 0] }).push (PyProof.Rows.seqObj "list" #[] 0)).IsListIter s.heap.objs.size l 0 := ⟨_, Heap.get?_push_of_some _ (Heap.get?_push_size _ rfl), rfl, rfl⟩
  have gS : ((s.heap.push { cls := .type "list_iterator", data := .fields #[.ref l, .int 0 0] }).push (PyProof.Rows.seqObj "list" #[] 0)).get? (s.heap.push { cls := .type "list_iterator", data := .fields #[.ref l, .int 0 0] }).objs.size = some (PyProof.Rows.seqObj "list" #[] 0) := Heap.get?_push_size _ rfl
  have nS : (s.heap.push { cls := .type "list_iterator", data := .fields #[.ref l, .int 0 0] }).objs.size ≠ s.heap.objs.size := by rw [sz]; exact Nat.succ_ne_self _
  have old : ∀ b o, s.heap.get? b = some o → ((s.heap.push { cls := .type "list_iterator", data := .fields #[.ref l, .int 0 0] }).push (PyProof.Rows.seqObj "list" #[] 0)).get? b = some o := fun b o e => Heap.get?_push_of_some _ (Heap.get?_push_of_some _ e)
  have gl := hl.at fun o e => old l o e
  have away : ∀ b o, s.heap.get? b = some o → b ∉ [s.heap.objs.size] ∧ b ≠ (s.heap.push { cls := .type "list_iterator", data := .fields #[.ref l, .int 0 0] }).objs.size := fun b o e => by
    have := Heap.lt_size e
    constructor
    · intro hm; rw [List.mem_singleton.mp hm] at this; exact Nat.lt_irrefl _ this
    · rw [sz]; exact Nat.ne_of_lt (Nat.lt_succ_of_lt this)
  refine codeAny_builtin F.entry_max_loop ?_
  rw [Around.under_plainId F.plain_max_loop _]
  refine wpAny_bind (wpAny_seqItems gS rfl ?_)
  cases e : ns with
  | nil =>
    have z : its.toArray.size = 0 := by rw [hn, e]; rfl
    refine wpAny_bind (wpAny_tryCatch (W.done _ _ _ (by rw [z]; exact ⟨gI, gl⟩) fun h' tk kept => ?_))
    refine wpAny_bind (wpAny_rule (wpAny_pure ?_))
    exact h0 e _ tk fun b o q => kept b o (away b o q).1 (old b o q)
  | cons y r =>
    have pos : 0 < its.toArray.size := by rw [hn, e]; exact Nat.succ_pos _
    refine wpAny_bind (wpAny_tryCatch (W.item 0 _ _ _ pos ⟨gI, gl⟩ fun v h' tk hv st' kept => ?_))
    have hS1 := kept _ _ (by simpa using nS) gS
    refine wpAny_bind (wpAny_pure ?_)
    refine wpAny_bind ?_
    refine wpAny_updateSeq hS1 rfl ?_
    rw [nm]
    refine wpAny_pure ⟨plainId_quiet F.plain_max_loop _, ?_⟩
    have ap : (s.heap.push { cls := .type "list_iterator", data := .fields #[.ref l, .int 0 0] }).objs.size ∉ [s.heap.objs.size, l] := by
      intro hm
      rcases List.mem_cons.mp hm with hm | hm
      · exact nS hm
      · have q := List.mem_singleton.mp hm
        rw [sz] at q
        rw [← q] at below
        exact absurd below (by simp [Nat.not_lt])
    refine maxD_turns (f := fun i => ns.getD i 0) W (fun i v h => hi i v (by simpa using h)) ap (its.toArray.size - 1) 0 0 _ v _ (by omega) (W.frame _ _ _ st' fun a ha o q => ?_) hv (Nat.le_refl _) (fun i hi => by rw [Nat.le_zero.mp hi]; exact Int.le_refl _) (Heap.get?_update_self _ hS1 rfl) fun b v' h2 tk2 lt hv' top kept' => ?_
    · exact (Heap.get?_update_other _ _ (fun z => ap (by rw [z]; exact ha))).trans q
    · obtain ⟨t, ev⟩ := hi b v' (by simpa using hv')
      subst ev
      refine h1 _ t h2 tk2 ?_ (fun x hx => ?_) fun a o q => kept' a o (away a o q).1 (away a o q).2 ((Heap.get?_update_other _ _ (Ne.symm (away a o q).2)).trans (kept a o (away a o q).1 (old a o q)))
      · have lb : b < ns.length := by rw [← hn]; exact lt
        show ns.getD b 0 ∈ ns
        rw [List.getD_eq_getElem?_getD, List.getElem?_eq_getElem lb]
        exact List.getElem_mem lb
      · obtain ⟨i, hi', rfl⟩ := List.mem_iff_getElem.mp hx
        have := top i (by rw [hn]; exact hi')
        rw [List.getD_eq_getElem?_getD, List.getElem?_eq_getElem hi'] at this
        exact this
/-- max(xs, default=z) of a list of ints -/
def rMaxDf (K : PySem.W.Frag) : List V → List V → Hp → VK → Prop := fun vs zs H Q => ∃ (a : Addr) (ns : List Int) (z : Int), vs = [.ref a] ∧ zs = [.int z] ∧ SqL K H a (ns.map V.int) ∧ (ns = [] → Q (.int z) H) ∧ ∀ m, m ∈ ns → (∀ y, y ∈ ns → y ≤ m) → Q (.int m) H
theorem cr_maxDf {X : Cx} (hc : X.calm = true) : CallRK X (.builtin "max") [Str.ofString "default"] (rMaxDf X.K) := by
  intro pins s σ H vs zs us ws Q I r rz h
  obtain ⟨a, ns, z, rfl, rfl, hs, q0, q1⟩ := h
  obtain ⟨its, rv, hl, _⟩ := I.list hs
  obtain rfl := Vals.ref1 r
  obtain ⟨w1, rfl, e1⟩ := vals1 rz
  have len : its.length = ns.length := by rw [← rv.length, List.length_map]
  refine call_maxD (ns := ns) (I.ok.hd hc) hl.isList (fun i v hv => ?_) len (fun e h' tk hk => ⟨.int z, H, I.kept hk, e1, q0 e⟩) fun m t h' tk hm top hk => ⟨.int m, H, I.kept hk, ⟨t, rfl⟩, q1 m hm top⟩
  have lt : i < ns.length := by rw [← len]; exact (List.getElem?_eq_some_iff.mp hv).1
  obtain ⟨u, hu, ru⟩ := rv.get (i := i) (x := V.int ns[i]) (by rw [List.getElem?_map, List.getElem?_eq_getElem lt]; rfl)
  rw [hv] at hu
  cases hu
  obtain ⟨t, rfl⟩ := ru
  exact ⟨t, by rw [List.getD_eq_getElem?_getD, List.getElem?_eq_getElem lt]; rfl⟩
/-! ### rows, pieces, cells -/
inductive Cell where
  | old (k : Int) | new (b : Int)
  deriving DecidableEq
inductive Row where
  | copy (b n : Int) | run (b n : Int) | bring (bs : List Int)
  deriving DecidableEq
def Cell.tup : Cell → List V
  | .old k => [.str "old", .int k]
  | .new b => [.str "new", .int b]
def Row.tup : Row → List V
  | .copy b n => [.str "copy", .int b, .int n]
  | .run b n => [.str "run", .int b, .int n]
  | .bring bs => [.str "bring", .byt (byteArr bs)]
def Row.len : Row → Int
  | .copy _ n => n
  | .run _ n => n
  | .bring bs => bs.length
def Row.ok (c : Int) : Row → Prop
  | .copy b n => 0 ≤ b ∧ 1 ≤ n ∧ b + n ≤ c
  | .run b n => 0 ≤ b ∧ b < 256 ∧ 1 ≤ n
  | .bring bs => 1 ≤ (bs.length : Int) ∧ B8 bs
def total : List Row → Int
  | [] => 0
  | r :: l => r.len + total l
theorem total_app : ∀ (a b : List Row), total (a ++ b) = total a + total b
  | [], b => by show total b = 0 + total b; omega
  | r :: a, b => by
    have := total_app a b
    show r.len + total (a ++ b) = r.len + total a + total b
    omega
theorem Row.len_pos {c : Int} : ∀ {r : Row}, r.ok c → 1 ≤ r.len
  | .copy _ _, h => h.2.1
  | .run _ _, h => h.2.2
  | .bring _, h => h.1
theorem total_nn {c : Int} : ∀ {l : List Row}, (∀ r ∈ l, r.ok c) → 0 ≤ total l
  | [], _ => by show (0 : Int) ≤ 0; decide
  | r :: l, h => by
    have a := Row.len_pos (h r List.mem_cons_self)
    have b := total_nn (l := l) fun x hx => h x (List.mem_cons_of_mem _ hx)
    show 0 ≤ r.len + total l
    omega
theorem len_le_total {c : Int} : ∀ {l : List Row}, (∀ r ∈ l, r.ok c) → (l.length : Int) ≤ total l
  | [], _ => by show (0 : Int) ≤ 0; decide
  | r :: l, h => by
    have a := Row.len_pos (h r List.mem_cons_self)
    have b := len_le_total (l := l) fun x hx => h x (List.mem_cons_of_mem _ hx)
    show ((l.length + 1 : Nat) : Int) ≤ r.len + total l
    omega
def CellV (H : Hp) (v : V) (c : Cell) : Prop := ∃ p, v = .ref p ∧ H p = some (.tup c.tup)
def PieceV (H : Hp) (v : V) (r : Row) : Prop := ∃ p, v = .ref p ∧ H p = some (.tup r.tup)
def RowV (H : Hp) (v : V) : Row → Prop
  | .bring bs => ∃ p q, v = .ref p ∧ H p = some (.tup [.str "bring", .ref q]) ∧ H q = some (.lst (bs.map V.int))
  | r => ∃ p, v = .ref p ∧ H p = some (.tup r.tup)
/-- the tuples stay -/
def Tups (H H' : Hp) : Prop := ∀ p xs, H p = some (.tup xs) → H' p = some (.tup xs)
theorem Same.tups {H H' : Hp} (s : Same H H') : Tups H H' := fun p xs h => s p _ h
theorem But.tups {K : PySem.W.Frag} {a : Addr} {ns : List Int} {d : Addr} {H H' : Hp} (b : But d H H') (D : Dice K a ns H d) : Tups H H' := fun p xs h => tup_but D b h
theorem Tups.lst {H : Hp} {p : Addr} {xs : List V} {o : HO} (h : H p = some (.lst xs)) : Tups H (upd H p o) := fun q ys e => by rw [upd_ne (ne_of e h tup_lst)]; exact e
theorem Tups.trans {H H1 H2 : Hp} (a : Tups H H1) (b : Tups H1 H2) : Tups H H2 := fun p xs h => b p xs (a p xs h)
theorem CellV.tups {H H' : Hp} {v : V} {c : Cell} (t : Tups H H') (h : CellV H v c) : CellV H' v c := let ⟨p, e, x⟩ := h; ⟨p, e, t _ _ x⟩
theorem PieceV.tups {H H' : Hp} {v : V} {c : Row} (t : Tups H H') (h : PieceV H v c) : PieceV H' v c := let ⟨p, e, x⟩ := h; ⟨p, e, t _ _ x⟩
theorem RowV.keep {H H' : Hp} {v : V} : ∀ {r : Row}, Tups H H' → (∀ q ns, H q = some (.lst (List.map V.int ns)) → H' q = some (.lst (List.map V.int ns))) → RowV H v r → RowV H' v r
  | .copy _ _, t, _, ⟨p, e, x⟩ => ⟨p, e, t _ _ x⟩
  | .run _ _, t, _, ⟨p, e, x⟩ => ⟨p, e, t _ _ x⟩
  | .bring _, t, l, ⟨p, q, e, x, y⟩ => ⟨p, q, e, t _ _ x, l _ _ y⟩
theorem RowV.same {H H' : Hp} {v : V} {r : Row} (s : Same H H') (h : RowV H v r) : RowV H' v r := h.keep (Same.tups s) (fun q ns e => s _ _ e)
theorem RowV.but {K : PySem.W.Frag} {a : Addr} {ns : List Int} {H H' : Hp} {d : Addr} {v : V} {r : Row} (D : Dice K a ns H d) (b : But d H H') (h : RowV H v r) : RowV H' v r := h.keep (But.tups b D) (fun q ns e => ints_but D b e)
theorem RowV.isRef {H : Hp} {v : V} : ∀ {r : Row}, RowV H v r → ∃ p, v = .ref p
  | .copy _ _, ⟨p, e, _⟩ => ⟨p, e⟩
  | .run _ _, ⟨p, e, _⟩ => ⟨p, e⟩
  | .bring _, ⟨p, _, e, _⟩ => ⟨p, e⟩
theorem pairedMem {α β : Type} {F G : α → β → Prop} : ∀ {l : List α} {m : List β}, Paired F l m → (∀ a ∈ l, ∀ b ∈ m, F a b → G a b) → Paired G l m
  | _, _, .nil, _ => .nil
  | _, _, .cons r t, f => .cons (f _ List.mem_cons_self _ List.mem_cons_self r) (pairedMem t fun a ha b hb => f a (List.mem_cons_of_mem _ ha) b (List.mem_cons_of_mem _ hb))
theorem pairedMap {α β : Type} {F G : α → β → Prop} {l : List α} {m : List β} (h : Paired F l m) (f : ∀ a b, F a b → G a b) : Paired G l m := pairedMem h fun a _ b _ => f a b
theorem pairedApp {α β : Type} {F : α → β → Prop} : ∀ {l l' : List α} {m m' : List β}, Paired F l m → Paired F l' m' → Paired F (l ++ l') (m ++ m')
  | _, _, _, _, .nil, s => s
  | _, _, _, _, .cons r t, s => .cons r (pairedApp t s)
theorem pairedAt {α β : Type} {F : α → β → Prop} : ∀ {l : List α} {m : List β} {i : Nat} {x : α}, Paired F l m → l[i]? = some x → ∃ y, m[i]? = some y ∧ F x y
  | _, _, _, _, .nil, e => by simp at e
  | _, _, 0, _, .cons r _, e => by simp at e; subst e; exact ⟨_, rfl, r⟩
  | _, _, i + 1, x, .cons _ t, e => by
    obtain ⟨y, h1, h2⟩ := pairedAt (i := i) (x := x) t (by simpa using e)
    exact ⟨y, by simpa using h1, h2⟩
theorem pairedAt' {α β : Type} {F : α → β → Prop} : ∀ {l : List α} {m : List β} {i : Nat} {y : β}, Paired F l m → m[i]? = some y → ∃ x, l[i]? = some x ∧ F x y
  | _, _, _, _, .nil, e => by simp at e
  | _, _, 0, _, .cons r _, e => by simp at e; subst e; exact ⟨_, rfl, r⟩
  | _, _, i + 1, y, .cons _ t, e => by
    obtain ⟨x, h1, h2⟩ := pairedAt' (i := i) (y := y) t (by simpa using e)
    exact ⟨x, by simpa using h1, h2⟩
/-- a list of rows at p -/
def RowsAt (H : Hp) (p : Addr) (rows : List Row) : Prop := ∃ vs, H p = some (.lst vs) ∧ Paired (RowV H) vs rows
def PatchAt (H : Hp) (v : V) (rows : List Row) : Prop := ∃ p vs, v = .ref p ∧ H p = some (.tup vs) ∧ Paired (PieceV H) vs rows
def CellsAt (H : Hp) (p : Addr) (cs : List Cell) : Prop := ∃ vs, H p = some (.lst vs) ∧ Paired (CellV H) vs cs
theorem RowsAt.same {H H' : Hp} {p : Addr} {rows : List Row} (s : Same H H') (h : RowsAt H p rows) : RowsAt H' p rows := let ⟨vs, e, r⟩ := h; ⟨vs, s _ _ e, pairedMap r fun _ _ x => x.same s⟩
theorem CellsAt.same {H H' : Hp} {p : Addr} {cs : List Cell} (s : Same H H') (h : CellsAt H p cs) : CellsAt H' p cs := let ⟨vs, e, r⟩ := h; ⟨vs, s _ _ e, pairedMap r fun _ _ x => x.tups (Same.tups s)⟩
theorem PatchAt.tups {H H' : Hp} {v : V} {rows : List Row} (s : Tups H H') (h : PatchAt H v rows) : PatchAt H' v rows := let ⟨p, vs, e, x, r⟩ := h; ⟨p, vs, e, s _ _ x, pairedMap r fun _ _ x => x.tups s⟩
theorem RowsAt.but {K : PySem.W.Frag} {a : Addr} {ns : List Int} {H H' : Hp} {d p : Addr} {rows : List Row} (D : Dice K a ns H d) (b : But d H H') (hn : p ≠ d) (h : RowsAt H p rows) : RowsAt H' p rows :=
  let ⟨vs, e, r⟩ := h; ⟨vs, b _ _ hn e, pairedMap r fun _ _ x => x.but D b⟩
/-- one row more at the end of the list -/
theorem rows_put {H : Hp} {p : Addr} {vs : List V} {rows : List Row} {v : V} {r : Row} (e : H p = some (.lst vs)) (h : Paired (RowV H) vs rows) (hv : RowV H v r) (hq : ∀ bs p' q, r = .bring bs → H p' = some (.tup [.str "bring", .ref q]) → v = .ref p' → q ≠ p) :
    RowsAt (upd H p (.lst (vs ++ [v]))) p (rows ++ [r]) := by
  refine ⟨_, upd_same, pairedApp (pairedMem h fun a ha b _ x => ?_) (.cons ?_ .nil)⟩
  · refine x.keep (Tups.lst e) fun q ns z => ?_
    rw [upd_ne]
    · exact z
    · rintro rfl
      rw [e] at z
      obtain ⟨u, rfl⟩ := x.isRef
      have z' : vs = ns.map V.int := by injection z with z; injection z
      rw [z'] at ha
      obtain ⟨_, _, z2⟩ := List.mem_map.mp ha
      cases z2
  · cases r with
    | copy b n => obtain ⟨u, e1, e2⟩ := hv; exact ⟨u, e1, Tups.lst e _ _ e2⟩
    | run b n => obtain ⟨u, e1, e2⟩ := hv; exact ⟨u, e1, Tups.lst e _ _ e2⟩
    | bring bs =>
      obtain ⟨u, q, e1, e2, e3⟩ := hv
      exact ⟨u, q, e1, Tups.lst e _ _ e2, by rw [upd_ne (hq bs u q rfl e2 e1)]; exact e3⟩
/-! ### _law_bytes, _law_rows, _law_handed, bytes_of, is_number, numbers_of -/
def spBytes (K : PySem.W.Frag) : Sp := fun vs H Q _ => ∃ (a : Addr) (ns : List Int) (d : Addr) (m : Int), vs = [.ref d, .int m] ∧ Dice K a ns H d ∧ 0 ≤ m ∧ m ≤ 1000 ∧
  ∀ H' p bs, But d H H' → Dice K a ns H' d → H p = none → H' p = some (.lst (List.map V.int bs)) → B8 bs → (bs.length : Int) ≤ m → Q (.ref p) H'
def spRows (K : PySem.W.Frag) : Sp := fun vs H Q _ => ∃ (a : Addr) (ns : List Int) (d : Addr) (c m : Int), vs = [.ref d, .int c, .int m] ∧ Dice K a ns H d ∧ 0 ≤ c ∧ c ≤ 1000 ∧ 0 ≤ m ∧ m ≤ 1000 ∧
  ∀ H' p rows, But d H H' → Dice K a ns H' d → H p = none → RowsAt H' p rows → (∀ r ∈ rows, r.ok c) → total rows ≤ m → Q (.ref p) H'
def spIsNum : Sp := fun vs H Q _ => ∃ z lo hi : Int, vs = [.int z, .int lo, .int hi] ∧ Q (.bl (decide (lo ≤ z) && decide (z ≤ hi))) H
def spBytesOf (K : PySem.W.Frag) : Sp := fun vs H Q _ => ∃ (p : Addr) (bs : List Int), vs = [.ref p] ∧ SqL K H p (bs.map V.int) ∧ B8 bs ∧ Q (.byt (byteArr bs)) H
def spNumsOf : Sp := fun vs H Q _ => ∃ bs : List Int, vs = [.byt (byteArr bs)] ∧ B8 bs ∧ bs.length ≤ 100000 ∧ ∀ p, H p = none → Q (.ref p) (upd H p (.lst (bs.map V.int)))
def spHanded : Sp := fun vs H Q _ => ∃ (p : Addr) (rows : List Row) (c : Int), vs = [.ref p] ∧ RowsAt H p rows ∧ (∀ r ∈ rows, r.ok c) ∧ rows.length ≤ 10000 ∧ ∀ H' v, Same H H' → PatchAt H' v rows → Q v H'
section
variable {P : Program} {w : World} {K : PySem.W.Frag} {mg : Str → Option Value} {base : Heap}
theorem ok_is_number (T : All K mg) : FnOk P w K mg base CX0 1 T.d_is_number.f T.d_is_number.fd ["what", "least", "most"] spIsNum := by
  refine T.d_is_number.F.ok sc_is_number (fun vs H Q E h => ?_) (fun cdv A outer s H vs Q E hr h => ?_)
  · obtain ⟨z, lo, hi, rfl, _⟩ := h
    rfl
  · obtain ⟨z, lo, hi, rfl, k⟩ := h
    refine ⟨_, (pss_one 
      (ps_ret (pe_and (pe_callB call_isi (by rfl) T.b_isinstance (by decide +kernel) (pa_cons (pv 0) (pa_cons (pe_bltn (v := .ty "int") (by rfl) T.b_int (by decide +kernel) rfl) pa_nil))) (pe_and (pe_not (pe_callB call_isi (by rfl) T.b_isinstance (by decide +kernel) (pa_cons (pv 0) (pa_cons (pe_bltn (v := .ty "bool") (by rfl) T.b_bool (by decide +kernel) rfl) pa_nil)))) (pe_one (pe_chain op_le op_le (pv 1) (pv 0) (pv 2))))))), ?_⟩
    refine ⟨_, rfl, _, _, _, _, true, rfl, .ty _, .base (.int z), kit_ty (by decide +kernel), true, rfl, iteT ?_⟩
    refine ⟨_, rfl, _, _, _, _, false, rfl, .ty _, .base (.int z), kit_ty (by decide +kernel), false, rfl, true, rfl, iteT ?_⟩
    refine ⟨_, rfl, _, rfl, _, _, rfl, rfl, decide (lo ≤ z), rfl, ?_⟩
    by_cases h1 : lo ≤ z
    · rw [decide_eq_true h1] at k ⊢
      refine iteT ⟨_, rfl, _, _, rfl, rfl, ?_⟩
      exact k
    · rw [decide_eq_false h1] at k ⊢
      exact iteF k
theorem ok_bytes_of (T : All K mg) : FnOk P w K mg base CX0 2 T.d_bytes_of.f T.d_bytes_of.fd ["numbers"] (spBytesOf K) := by
  have G_is_number : FnOk P w K mg base CX0 1 T.d_is_number.f T.d_is_number.fd ["what", "least", "most"] spIsNum := ok_is_number T
  refine T.d_bytes_of.F.ok sc_bytes_of (fun vs H Q E h => ?_) (fun cdv A outer s H vs Q E hr h => ?_)
  · obtain ⟨p, bs, rfl, _⟩ := h
    rfl
  · obtain ⟨p, bs, rfl, hS, hb, k⟩ := h
    refine ⟨_, (pss_cons 
      (ps_for PassesOwn.never rfl (pi_list (pv 0)) (pg_name (i := 1) sc_bytes_of.nd rfl (Or.inl rfl)) (pss_one 
      (ps_if (pt_not (pt_val (pe_call G_is_number (hr.mono (by decide)) rfl T.d_is_number.m T.d_is_number.F.kp T.d_is_number.b .nil pass0 (pa_cons (pv 1) (pa_cons pe_int (pa_cons (pe_glob (v := .int 255) rfl T.c_LAST_BYTE ⟨_, rfl⟩) pa_nil)))))) (pss_one ps_never) pss_nil))) (pss_one 
      (ps_ret (pe_bytesOf rfl (by rfl) T.b_bytes (pv 0))))), ?_⟩
    refine ⟨_, rfl, p, rfl, ⟨_, hS⟩, for_list (K := K) (a := p) (xs := bs.map V.int) (fun i σ H' => ∃ v : Option V, σ = [some (.ref p), v] ∧ H' = H)
      ⟨none, rfl, rfl⟩ (fun i σ H' _ ⟨_, _, e⟩ => by rw [e]; exact hS) ?_ ?_⟩
    · rintro i y σ H' hi ⟨v, rfl, rfl⟩
      obtain ⟨z, rfl, hz⟩ := at_map hi
      have hm := hb z (List.mem_of_getElem? hz)
      refine ⟨_, rfl, z, 0, 255, rfl, _, rfl, ?_⟩
      rw [decide_eq_true hm.1, decide_eq_true (show z ≤ 255 by omega)]
      refine iteF ?_
      exact ⟨_, rfl, rfl⟩
    · rintro σ H' ⟨v, rfl, rfl⟩
      refine ⟨_, rfl, .inr ⟨p, bs, rfl, hS, hb, k⟩⟩
theorem ok_numbers_of (T : All K mg) : FnOk P w K mg base CX0 1 T.d_numbers_of.f T.d_numbers_of.fd ["some"] spNumsOf := by
  refine T.d_numbers_of.F.ok sc_numbers_of (fun vs H Q E h => ?_) (fun cdv A outer s H vs Q E hr h => ?_)
  · obtain ⟨bs, rfl, _⟩ := h
    rfl
  · obtain ⟨bs, rfl, hb, hl, k⟩ := h
    refine ⟨_, (pss_one 
      (ps_ret (pe_listOfB rfl (by rfl) T.b_list (pv 0)))), ?_⟩
    refine ⟨_, rfl, _, rfl, by rw [byteArr_size]; exact sizeS hl, fun q hq => ?_⟩
    rw [bi_make hb]
    exact k q hq
theorem ok_law_bytes (T : All K mg) : FnOk P w K mg base CX0 2 T.d_law_bytes.f T.d_law_bytes.fd ["_law_d", "_law_most"] (spBytes K) := by
  have G_law_next : FnOk P w K mg base CX0 1 T.d_law_next.f T.d_law_next.fd ["_law_dice_here", "_law_many"] (spNext K) := ok_law_next T
  refine T.d_law_bytes.F.ok sc_law_bytes (fun vs H Q E h => ?_) (fun cdv A outer s H vs Q E hr h => ?_)
  · obtain ⟨_, _, d, m, rfl, _⟩ := h
    rfl
  · obtain ⟨a, ns, d, m, rfl, D, m0, m1, k⟩ := h
    refine ⟨_, (pss_cons 
      (ps_set (i := 2) sc_law_bytes.nd rfl (Or.inr rfl) (pe_ix ix_list (pe_lst (pa_cons pe_int (pa_cons pe_int (pa_cons pe_int (pa_cons pe_int pa_nil))))) (pe_call G_law_next (hr.mono (by decide)) rfl T.d_law_next.m T.d_law_next.F.kp T.d_law_next.b .nil pass0 (pa_cons (pv 0) (pa_cons pe_int pa_nil))) (fun _ _ => rfl))) (pss_one 
      (ps_ret (pe_lc (own := [("_law_k", 3)]) (g := gName 3) (tt := tYes) rfl sc_law_bytes.nd (pi_range1 (by rfl) T.b_range (pa_cons (pe_call G_law_next (hr.mono (by decide)) rfl T.d_law_next.m T.d_law_next.F.kp T.d_law_next.b .nil pass0 (pa_cons (pv 0) (pa_cons (pe_op op_add (pv 1) pe_int) pa_nil))) pa_nil)) (blkOk_by (own := [("_law_k", 3)]) (N := ["_law_d", "_law_most", "_law_kinds", "_law_k"]) (sc := defScope s_law_bytes) (by decide +kernel)) (fun _ _ _ _ _ => (pg_name (i := 3) sc_law_bytes.nd rfl (Or.inl rfl))) (fun _ _ _ _ _ => pts_nil) (fun _ _ _ _ _ => (pe_op op_mod (pe_callTy call_int1 (by rfl) T.b_int PyProof.Rows.boot_int (pa_cons (pe_op op_mul (pe_call G_law_next (hr.mono (by decide)) rfl T.d_law_next.m T.d_law_next.F.kp T.d_law_next.b .nil pass0 (pa_cons (pv 0) (pa_cons (pv 2) pa_nil))) (pe_ix (ixlK (K := K) rfl) (pe_lst (pa_cons pe_int (pa_cons pe_int pa_nil))) (pe_callTy call_int1 (by rfl) T.b_int PyProof.Rows.boot_int (pa_cons (pe_cmpR op_lt (pv 2) pe_int (nomark _)) pa_nil)) (fun _ _ => rfl))) pa_nil)) pe_int)))))), ?_⟩
    -- _law_kinds
    refine ⟨sizeS (by show 4 ≤ 100000; decide), fun l hl => ⟨_, rfl, a, ns, d, 4, rfl, D.same (Same.new hl), by decide, by decide, fun H1 r b1 D1 r0 r1 => ?_⟩⟩
    have hl1 : H1 l = some (.lst (List.map V.int [1, 2, 3, 256])) := ints_but (D.same (Same.new hl)) b1 (by exact upd_same)
    obtain ⟨kd, hk, k0, k1⟩ : ∃ kd : Int, atI (List.map V.int [1, 2, 3, 256]) r = some (.int kd) ∧ 1 ≤ kd ∧ kd ≤ 256 := by
      have : r = 0 ∨ r = 1 ∨ r = 2 ∨ r = 3 := by omega
      rcases this with rfl | rfl | rfl | rfl
      · exact ⟨1, rfl, by decide, by decide⟩
      · exact ⟨2, rfl, by decide, by decide⟩
      · exact ⟨3, rfl, by decide, by decide⟩
      · exact ⟨256, rfl, by decide, by decide⟩
    have bb1 : But d H H1 := (But.new hl).trans b1
    refine ⟨l, _, _, _, rfl, rfl, SqL.of hl1, hk, ?_⟩
    -- the comprehension
    refine ⟨_, rfl, _, rfl, _, _, rfl, rfl, a, ns, d, m + 1, rfl, D1, by omega, by omega, fun H2 t b2 D2 t0 t1 => ?_⟩
    refine ⟨t, rfl, by omega, by omega, fun p hp => lc_range (lo := 0) (n := t.toNat) (fun i H3 => ∃ bs : List Int, But d H2 H3 ∧ Dice K a ns H3 d ∧ H3 p = some (.lst (bs.map V.int)) ∧ B8 bs ∧ bs.length ≤ i)
      ⟨[], But.new hp, D2.same (Same.new hp), upd_same, fun n hn => (List.not_mem_nil hn).elim, Nat.le_refl _⟩ ?_ ?_⟩
    · rintro i H3 hi ⟨bs, b3, D3, hp3, hb, hlen⟩
      refine ⟨rfl, ?_⟩
      refine ⟨_, rfl, _, rfl, a, ns, d, kd, rfl, D3, by omega, by omega, fun H4 u b4 D4 u0 u1 => ?_⟩
      refine ⟨sizeS (by show 2 ≤ 100000; decide), fun l2 hl2 => ⟨_, rfl, _, _, rfl, rfl, .inr ⟨_, rfl, ?_⟩⟩⟩
      have e2 : ∃ x : Int, atI (List.map V.int [1, 97]) (if decide (kd < 4) = true then 1 else 0) = some (.int x) ∧ 1 ≤ x ∧ x ≤ 97 := by
        by_cases c : kd < 4
        · rw [decide_eq_true c]; exact ⟨97, rfl, by decide, by decide⟩
        · rw [decide_eq_false c]; exact ⟨1, rfl, by decide, by decide⟩
      obtain ⟨x, hx, x0, x1⟩ := e2
      refine ⟨l2, _, _, _, rfl, rfl, SqL.of (by exact upd_same), hx, _, _, rfl, rfl, .inl ⟨by omega, by omega⟩, .inl ⟨_, rfl, _, _, rfl, rfl, (by show (0 : Int) < 256; decide), ?_⟩⟩
      have hp4 : H4 p = some (.lst (bs.map V.int)) := b4 p _ (D2.ne hp) hp3
      have np : p ≠ l2 := ne_of_none hp4 hl2
      have b5 : But d H2 (upd H4 l2 (.lst (List.map V.int [1, 97]))) := (b3.trans b4).trans (But.new hl2)
      refine ⟨_, (by rw [upd_ne np]; exact hp4), sizeL (by rw [List.length_map]; omega), bs ++ [u * x % 256], But.fresh b5 hp, Dice.fresh D2 b5 hp (D4.same (Same.new hl2)), ?_, ?_, ?_⟩
      · rw [upd_same, List.map_append]; rfl
      · exact hb.app (fun n hn => by
          rw [List.mem_singleton.mp hn]
          exact ⟨Int.emod_nonneg _ (by decide), Int.emod_lt_of_pos _ (by decide)⟩)
      · rw [List.length_append]; show bs.length + 1 ≤ i + 1; omega
    · rintro H3 ⟨bs, b3, D3, hp3, hb, hlen⟩
      exact k H3 p bs ((bb1.trans b2).trans b3) D3 (none_but D D2 (bb1.trans b2) hp) hp3 hb (by omega)
end
section
variable {P : Program} {w : World} {K : PySem.W.Frag} {mg : Str → Option Value} {base : Heap}
theorem RowsAt.at {H : Hp} {p : Addr} {rows : List Row} (h : RowsAt H p rows) : ∃ vs, H p = some (.lst vs) ∧ vs.length = rows.length := by
  obtain ⟨vs, e, r⟩ := h
  exact ⟨vs, e, Paired.length r⟩
theorem ok_law_rows (T : All K mg) : FnOk P w K mg base CX0 2 T.d_law_rows.f T.d_law_rows.fd ["_law_d", "_law_count", "_law_most"] (spRows K) := by
  have G_law_next : FnOk P w K mg base CX0 1 T.d_law_next.f T.d_law_next.fd ["_law_dice_here", "_law_many"] (spNext K) := ok_law_next T
  refine T.d_law_rows.F.ok sc_law_rows (fun vs H Q E h => ?_) (fun cdv A outer s H vs Q E hr h => ?_)
  · obtain ⟨_, _, d, c, m, rfl, _⟩ := h
    rfl
  · obtain ⟨a, ns, d, c, m, rfl, D, c0, c1, m0, m1, k⟩ := h
    refine ⟨_, (pss_cons 
      (ps_par (i := 3) (j := 4) (by rfl) sc_law_rows.nd rfl rfl (by decide) rfl rfl (pa_cons (pe_lst pa_nil) (pa_cons (pe_call G_law_next (hr.mono (by decide)) rfl T.d_law_next.m T.d_law_next.F.kp T.d_law_next.b .nil pass0 (pa_cons (pv 0) (pa_cons (pe_op op_add (pv 2) pe_int) pa_nil))) pa_nil)) (by rfl)) (pss_cons 
      (ps_for PassesOwn.never rfl (pi_range1 (by rfl) T.b_range (pa_cons pe_int pa_nil)) (pg_name (i := 5) sc_law_rows.nd rfl (Or.inl rfl)) (pss_cons 
      (ps_set (i := 6) sc_law_rows.nd rfl (Or.inl rfl) (pe_callB (call_min2 rfl) (by rfl) T.b_min (by decide +kernel) (pa_cons (pv 4) (pa_cons (pe_op op_add pe_int (pe_call G_law_next (hr.mono (by decide)) rfl T.d_law_next.m T.d_law_next.F.kp T.d_law_next.b .nil pass0 (pa_cons (pv 0) (pa_cons (pe_ix ix_list (pe_lst (pa_cons pe_int (pa_cons pe_int (pa_cons pe_int pa_nil)))) (pe_call G_law_next (hr.mono (by decide)) rfl T.d_law_next.m T.d_law_next.F.kp T.d_law_next.b .nil pass0 (pa_cons (pv 0) (pa_cons pe_int pa_nil))) (fun _ _ => rfl)) pa_nil)))) pa_nil)))) (pss_one 
      (ps_if (pt_cmpR op_gt (pv 6) pe_int (nomark _)) (pss_cons 
      (ps_set (i := 7) sc_law_rows.nd rfl (Or.inl rfl) (pe_call G_law_next (hr.mono (by decide)) rfl T.d_law_next.m T.d_law_next.F.kp T.d_law_next.b .nil pass0 (pa_cons (pv 0) (pa_cons pe_int pa_nil)))) (pss_cons 
      (ps_if (PW.pt (pw_and (pt_cmpR op_lt (pv 7) pe_int (nomark _)) (pw_and1 (pt_cmpR op_gt (pv 1) pe_int (nomark _))))) (pss_cons 
      (ps_set (i := 6) sc_law_rows.nd rfl (Or.inl rfl) (pe_callB (call_min2 rfl) (by rfl) T.b_min (by decide +kernel) (pa_cons (pv 6) (pa_cons (pv 1) pa_nil)))) (pss_one 
      (ps_expr (pe_bm PySem.F.plainAttrs_list PySem.F.slot_list_append PySem.F.type_list_append mt_append (pv 3) (pa_cons (pe_tup (pa_cons pe_str (pa_cons (pe_call G_law_next (hr.mono (by decide)) rfl T.d_law_next.m T.d_law_next.F.kp T.d_law_next.b .nil pass0 (pa_cons (pv 0) (pa_cons (pe_op op_add (pe_op op_sub (pv 1) (pv 6)) pe_int) pa_nil))) (pa_cons (pv 6) pa_nil)))) pa_nil))))) (pss_one 
      (ps_if (pt_cmpR op_eq (pv 7) pe_int (nomark _)) (pss_one 
      (ps_expr (pe_bm PySem.F.plainAttrs_list PySem.F.slot_list_append PySem.F.type_list_append mt_append (pv 3) (pa_cons (pe_tup (pa_cons pe_str (pa_cons (pe_op op_mod (pe_callTy call_int1 (by rfl) T.b_int PyProof.Rows.boot_int (pa_cons (pe_op op_mul (pe_call G_law_next (hr.mono (by decide)) rfl T.d_law_next.m T.d_law_next.F.kp T.d_law_next.b .nil pass0 (pa_cons (pv 0) (pa_cons pe_int pa_nil))) pe_int) pa_nil)) pe_int) (pa_cons (pv 6) pa_nil)))) pa_nil)))) (pss_one 
      (ps_expr (pe_bm PySem.F.plainAttrs_list PySem.F.slot_list_append PySem.F.type_list_append mt_append (pv 3) (pa_cons (pe_tup (pa_cons pe_str (pa_cons (pe_lc (own := [("_law_k", 8)]) (g := gName 8) (tt := tYes) rfl sc_law_rows.nd (pi_range1 (by rfl) T.b_range (pa_cons (pv 6) pa_nil)) (blkOk_by (own := [("_law_k", 8)]) (N := ["_law_d", "_law_count", "_law_most", "_law_rows_here", "_law_left", "_law_turn", "_law_n", "_law_pick", "_law_k"]) (sc := defScope s_law_rows) (by decide +kernel)) (fun _ _ _ _ _ => (pg_name (i := 8) sc_law_rows.nd rfl (Or.inl rfl))) (fun _ _ _ _ _ => pts_nil) (fun _ _ _ _ _ => (pe_op op_mod (pe_callTy call_int1 (by rfl) T.b_int PyProof.Rows.boot_int (pa_cons (pe_op op_mul (pe_call G_law_next (hr.mono (by decide)) rfl T.d_law_next.m T.d_law_next.F.kp T.d_law_next.b .nil pass0 (pa_cons (pv 0) (pa_cons pe_int pa_nil))) pe_int) pa_nil)) pe_int))) pa_nil))) pa_nil))))))) (pss_one 
      (ps_set (i := 4) sc_law_rows.nd rfl (Or.inl rfl) (pe_op op_sub (pv 4) (pv 6)))))) pss_nil)))) (pss_one 
      (ps_ret (pv 3))))), ?_⟩
    refine ⟨sizeS (by show 0 ≤ 100000; decide), fun p hp => ⟨_, rfl, _, rfl, _, _, rfl, rfl, a, ns, d, m + 1, rfl, D.same (Same.new hp), by omega, by omega, fun H1 l b1 D1 l0 l1 => ⟨_, _, rfl, ?_⟩⟩⟩
    have npd : p ≠ d := D.ne hp
    have B1 : But d H H1 := (But.new hp).trans b1
    have hp1 : H1 p = some (.lst []) := b1 p _ npd upd_same
    refine ⟨40, rfl, by decide, by decide, for_range (lo := 0) (n := 40) (fun i σ H2 => ∃ (l : Int) (rows : List Row) (v5 v6 v7 v8 : Option V),
      σ = [some (.ref d), some (.int c), some (.int m), some (.ref p), some (.int l), v5, v6, v7, v8] ∧ But d H H2 ∧ Dice K a ns H2 d ∧ RowsAt H2 p rows ∧ (∀ r ∈ rows, r.ok c) ∧ 0 ≤ l ∧ total rows + l ≤ m ∧ rows.length ≤ i)
      ⟨l, [], none, none, none, none, rfl, B1, D1, ⟨[], hp1, .nil⟩, fun r hr => (List.not_mem_nil hr).elim, l0, by show 0 + l ≤ m; omega, Nat.le_refl _⟩ ?_ ?_⟩
    · rintro i σ H2 hi ⟨l, rows, v5, v6, v7, v8, rfl, b2, D2, R2, hok, hl0, htot, hlen⟩
      -- _law_n = min(..)
      refine ⟨_, rfl, _, rfl, sizeS (by show 3 ≤ 100000; decide), fun q hq => ⟨_, rfl, a, ns, d, 3, rfl, D2.same (Same.new hq), by decide, by decide, fun H3 r b3 D3 r0 r1 => ?_⟩⟩
      have hq3 : H3 q = some (.lst (List.map V.int [3, 12, 40])) := ints_but (D2.same (Same.new hq)) b3 (by exact upd_same)
      obtain ⟨kd, hk, k0, k1⟩ : ∃ kd : Int, atI (List.map V.int [3, 12, 40]) r = some (.int kd) ∧ 1 ≤ kd ∧ kd ≤ 40 := by
        have : r = 0 ∨ r = 1 ∨ r = 2 := by omega
        rcases this with rfl | rfl | rfl
        · exact ⟨3, rfl, by decide, by decide⟩
        · exact ⟨12, rfl, by decide, by decide⟩
        · exact ⟨40, rfl, by decide, by decide⟩
      refine ⟨q, _, _, _, rfl, rfl, SqL.of hq3, hk, a, ns, d, kd, rfl, D3, by omega, by omega, fun H4 t b4 D4 t0 t1 => ?_⟩
      have b24 : But d H2 H4 := (But.new hq).trans (b3.trans b4)
      have R4 : RowsAt H4 p rows := R2.but D2 b24 npd
      refine ⟨_, _, rfl, rfl, _, _, rfl, ?_⟩
      generalize hn : (if 1 + t < l then 1 + t else l) = n
      have hnl : n ≤ l := by rw [← hn]; split <;> omega
      have hn41 : n ≤ 40 := by rw [← hn]; split <;> omega
      refine ⟨_, rfl, _, _, rfl, rfl, _, rfl, ite2 (fun hpos => ?_) fun hneg => ?_⟩
      · have hpos : 0 < n := of_decide_eq_true hpos
        refine ⟨_, rfl, a, ns, d, 6, rfl, D4, by decide, by decide, fun H5 pk b5 D5 p0 p1 => ?_⟩
        have b05 : But d H H5 := b2.trans (b24.trans b5)
        have R5 : RowsAt H5 p rows := R4.but D4 b5 npd
        obtain ⟨vs, hv, hvl⟩ := R5.at
        -- what comes behind an append
        have fin : ∀ (r : Row) (H7 : Hp) (tv : V) (n' : Int), But d H5 H7 → Dice K a ns H7 d → r.ok c → r.len = n' → n' ≤ n → RowV H7 tv r → (∀ bs p' q, r = .bring bs → H7 p' = some (.tup [.str "bring", .ref q]) → tv = .ref p' → q ≠ p) → 
            H7 p = some (.lst vs) ∧ (∃ rows' : List Row, But d H (upd H7 p (.lst (vs ++ [tv]))) ∧ Dice K a ns (upd H7 p (.lst (vs ++ [tv]))) d ∧ RowsAt (upd H7 p (.lst (vs ++ [tv]))) p rows' ∧ (∀ r ∈ rows', r.ok c) ∧ 0 ≤ l - n' ∧ total rows' + (l - n') ≤ m ∧ rows'.length ≤ i + 1) := by
          intro r H7 tv n' b7 D7 hro hrl hnn hrv hbr
          have hv7 : H7 p = some (.lst vs) := b7 p _ npd hv
          obtain ⟨vs', hv', hp'⟩ := R5.but D5 b7 npd
          have ev : vs' = vs := by rw [hv7] at hv'; injection hv' with z; injection z with z; exact z.symm
          subst ev
          refine ⟨hv7, rows ++ [r], But.fresh (b05.trans b7) hp, Dice.fresh D (b05.trans b7) hp D7, rows_put hv7 hp' hrv hbr, fun x hx => ?_, by omega, ?_, ?_⟩
          · rcases List.mem_append.mp hx with hx | hx
            · exact hok x hx
            · rw [List.mem_singleton.mp hx]; exact hro
          · rw [total_app]
            have : total [r] = n' := by show r.len + 0 = n'; omega
            omega
          · rw [List.length_append]; show rows.length + 1 ≤ i + 1; omega
        refine ⟨_, rfl, _, _, rfl, rfl, _, rfl, ite2 (fun h1 => ⟨_, rfl, _, _, rfl, rfl, _, rfl, ite2 (fun h2 => ?copy) (fun h2 => ?e1)⟩) (fun h1 => iteF ?e2)⟩
        case copy =>
          have h2 : 0 < c := of_decide_eq_true h2
          refine ⟨_, rfl, _, rfl, _, _, rfl, ?_⟩
          generalize hm : (if c < n then c else n) = n'
          have hm1 : n' ≤ n := by rw [← hm]; split <;> omega
          have hm2 : n' ≤ c := by rw [← hm]; split <;> omega
          have hm3 : 1 ≤ n' := by rw [← hm]; split <;> omega
          refine ⟨_, rfl, .inl ⟨rfl, _, SqL.of hv⟩, _, rfl, _, rfl, _, rfl, _, _, rfl, rfl, _, _, rfl, rfl, a, ns, d, c - n' + 1, rfl, D5, by omega, by omega, fun H6 b b6 D6 z0 z1 => ⟨_, rfl, sizeS (by show 3 ≤ 100000; decide), fun tq htq => ?_⟩⟩
          obtain ⟨hv7, rows', q1, q2, q3, q4, q5, q6, q7⟩ := fin (.copy b n') (upd H6 tq (.tup [.str "copy", .int b, .int n'])) (.ref tq) n' (b6.trans (But.new htq)) (D6.same (Same.new htq)) ⟨z0, hm3, by omega⟩ rfl hm1 ⟨tq, rfl, upd_same⟩ (fun _ _ _ e => by cases e)
          refine ⟨p, vs, _, rfl, rfl, hv7, sizeL (by omega), _, rfl, _, rfl, _, _, rfl, rfl, ?_⟩
          exact ⟨_, rows', _, _, _, _, rfl, q1, q2, q3, q4, q5, q6, q7⟩
        all_goals
          refine ⟨_, rfl, rfl, _, rfl, ite2 (fun h3 => ?_) fun h3 => ?_⟩
          · refine ⟨_, rfl, .inl ⟨rfl, _, SqL.of hv⟩, _, rfl, a, ns, d, 3, rfl, D5, by decide, by decide, fun H6 u b6 D6 u0 u1 => ⟨_, _, rfl, rfl, .inl ⟨by omega, by omega⟩, .inl ⟨_, rfl, _, _, rfl, rfl, (by show (0 : Int) < 256; decide), _, rfl, sizeS (by show 3 ≤ 100000; decide), fun tq htq => ?_⟩⟩⟩
            obtain ⟨hv7, rows', q1, q2, q3, q4, q5, q6, q7⟩ := fin (.run (u * 97 % 256) n) (upd H6 tq (.tup [.str "run", .int (u * 97 % 256), .int n])) (.ref tq) n (b6.trans (But.new htq)) (D6.same (Same.new htq)) ⟨Int.emod_nonneg _ (by decide), Int.emod_lt_of_pos _ (by decide), by omega⟩ rfl (Int.le_refl _) ⟨tq, rfl, upd_same⟩ (fun _ _ _ e => by cases e)
            refine ⟨p, vs, _, rfl, rfl, hv7, sizeL (by omega), _, rfl, _, rfl, _, _, rfl, rfl, ?_⟩
            exact ⟨_, rows', _, _, _, _, rfl, q1, q2, q3, q4, q5, q6, q7⟩
          · refine ⟨_, rfl, .inl ⟨rfl, _, SqL.of hv⟩, _, rfl, n, rfl, by omega, by omega, fun e he => lc_range (lo := 0) (n := n.toNat) (fun j H6 => ∃ bs : List Int, But d H5 H6 ∧ Dice K a ns H6 d ∧ H6 e = some (.lst (bs.map V.int)) ∧ B8 bs ∧ bs.length = j)
              ⟨[], But.new he, D5.same (Same.new he), upd_same, fun n hn => (List.not_mem_nil hn).elim, rfl⟩ ?_ ?_⟩
            · rintro j H6 hj ⟨bs, b6, D6, he6, hb, hblen⟩
              refine ⟨rfl, ?_⟩
              refine ⟨_, rfl, a, ns, d, 3, rfl, D6, by decide, by decide, fun H7 u b7 D7 u0 u1 => ⟨_, _, rfl, rfl, .inl ⟨by omega, by omega⟩, .inl ⟨_, rfl, _, _, rfl, rfl, (by show (0 : Int) < 256; decide), ?_⟩⟩⟩
              have he7 : H7 e = some (.lst (bs.map V.int)) := b7 e _ (D5.ne he) he6
              refine ⟨_, he7, sizeL (by rw [List.length_map]; omega), bs ++ [u * 97 % 256], But.fresh (b6.trans b7) he, Dice.fresh D5 (b6.trans b7) he D7, ?_, ?_, ?_⟩
              · rw [upd_same, List.map_append]; rfl
              · exact hb.app (fun n hn => by
                  rw [List.mem_singleton.mp hn]
                  exact ⟨Int.emod_nonneg _ (by decide), Int.emod_lt_of_pos _ (by decide)⟩)
              · rw [List.length_append]; show bs.length + 1 = j + 1; omega
            · rintro H6 ⟨bs, b6, D6, he6, hb, hblen⟩
              refine ⟨sizeS (by show 2 ≤ 100000; decide), fun tq htq => ?_⟩
              have nep : e ≠ p := (ne_of_none hv he).symm
              obtain ⟨hv7, rows', q1, q2, q3, q4, q5, q6, q7⟩ := fin (.bring bs) (upd H6 tq (.tup [.str "bring", .ref e])) (.ref tq) n (b6.trans (But.new htq)) (D6.same (Same.new htq)) ⟨by omega, hb⟩ (by show (bs.length : Int) = n; omega) (Int.le_refl _)
                ⟨tq, e, rfl, upd_same, by rw [upd_ne (ne_of_none he6 htq)]; exact he6⟩ (fun bs' p' q' e1 e2 e3 => by
                  cases e3
                  rw [upd_same] at e2
                  injection e2 with e2
                  injection e2 with e2
                  injection e2 with _ e2
                  injection e2 with e2 _
                  injection e2 with e2
                  rw [← e2]; exact nep)
              refine ⟨p, vs, _, rfl, rfl, hv7, sizeL (by omega), _, rfl, _, rfl, _, _, rfl, rfl, ?_⟩
              exact ⟨_, rows', _, _, _, _, rfl, q1, q2, q3, q4, q5, q6, q7⟩
      · exact ⟨l, rows, _, _, _, _, rfl, b2.trans b24, D4, R4, hok, hl0, htot, by omega⟩
    · rintro σ H2 ⟨l, rows, v5, v6, v7, v8, rfl, b2, D2, R2, hok, hl0, htot, hlen⟩
      refine ⟨_, rfl, ?_⟩
      exact k H2 p rows b2 D2 hp R2 hok (by omega)
theorem ok_law_handed (T : All K mg) : FnOk P w K mg base CX0 3 T.d_law_handed.f T.d_law_handed.fd ["_law_rows_here"] spHanded := by
  have G_bytes_of : FnOk P w K mg base CX0 2 T.d_bytes_of.f T.d_bytes_of.fd ["numbers"] (spBytesOf K) := ok_bytes_of T
  refine T.d_law_handed.F.ok sc_law_handed (fun vs H Q E h => ?_) (fun cdv A outer s H vs Q E hr h => ?_)
  · obtain ⟨p, _, _, rfl, _⟩ := h
    rfl
  · obtain ⟨p, rows, c, rfl, ⟨vs, hv, hpr⟩, hok, hlen, k⟩ := h
    have hvl : vs.length = rows.length := Paired.length hpr
    refine ⟨_, (pss_cons 
      (ps_set (i := 1) sc_law_handed.nd rfl (Or.inl rfl) (pe_lst pa_nil)) (pss_cons 
      (ps_for PassesOwn.never rfl (pi_list (pv 0)) (pg_name (i := 2) sc_law_handed.nd rfl (Or.inl rfl)) (pss_one 
      (ps_expr (pe_bm PySem.F.plainAttrs_list PySem.F.slot_list_append PySem.F.type_list_append mt_append (pv 1) (pa_cons (pe_ifExp (pt_cmpR op_eq (pe_ix ix_tup (pv 2) pe_int (fun _ _ => rfl)) pe_str (nomark _)) (pe_tup (pa_cons pe_str (pa_cons (pe_call G_bytes_of (hr.mono (by decide)) rfl T.d_bytes_of.m T.d_bytes_of.F.kp T.d_bytes_of.b .nil pass0 (pa_cons (pe_ix ix_tup (pv 2) pe_int (fun _ _ => rfl)) pa_nil)) pa_nil))) (pe_callTy call_tuple_of (by rfl) T.b_tuple (by decide +kernel) (pa_cons (pv 2) pa_nil))) pa_nil))))) (pss_one 
      (ps_ret (pe_callTy call_tuple_of (by rfl) T.b_tuple (by decide +kernel) (pa_cons (pv 1) pa_nil)))))), ?_⟩
    refine ⟨sizeS (by show 0 ≤ 100000; decide), fun f hf => ?_⟩
    refine ⟨_, rfl, p, rfl, ⟨vs, SqL.of (Same.new hf _ _ hv)⟩, for_list (K := K) (a := p) (xs := vs) (fun i σ H2 => ∃ (ws : List V) (v : Option V), σ = [some (.ref p), some (.ref f), v] ∧ Same H H2 ∧ H2 f = some (.lst ws) ∧ Paired (PieceV H2) ws (rows.take i))
      ⟨[], none, rfl, Same.new hf, upd_same, .nil⟩ (fun i σ H2 _ ⟨_, _, _, s2, _⟩ => SqL.of (s2 _ _ hv)) ?_ ?_⟩
    · rintro i y σ H2 hi ⟨ws, v, rfl, s2, hf2, hw⟩
      obtain ⟨r, hr1, hr2⟩ := pairedAt hpr hi
      have hro := hok r (List.mem_of_getElem? hr1)
      have hwl : ws.length = (rows.take i).length := Paired.length hw
      have hil : i < rows.length := (List.getElem?_eq_some_iff.mp hr1).1
      have hwi : ws.length = i := by rw [hwl, List.length_take]; omega
      have htk : rows.take (i + 1) = rows.take i ++ [r] := by rw [List.take_add_one, hr1]; rfl
      -- what comes behind the append
      have fin : ∀ (H3 : Hp) (tv : V), Same H2 H3 → PieceV H3 tv r → H3 f = some (.lst ws) ∧ Same H (upd H3 f (.lst (ws ++ [tv]))) ∧ Paired (PieceV (upd H3 f (.lst (ws ++ [tv])))) (ws ++ [tv]) (rows.take (i + 1)) := by
        intro H3 tv s3 hpv
        have hf3 := s3 _ _ hf2
        refine ⟨hf3, fun b o e => ?_, ?_⟩
        · rw [upd_ne (ne_of_none e hf)]; exact s3 _ _ (s2 _ _ e)
        · rw [htk]
          exact pairedApp (pairedMap hw fun _ _ x => (x.tups (Same.tups s3)).tups (Tups.lst hf3)) (.cons (hpv.tups (Tups.lst hf3)) .nil)
      refine ⟨_, rfl, .inl ⟨rfl, _, SqL.of hf2⟩, ?_⟩
      cases r with
      | copy b n =>
        obtain ⟨t, rfl, ht⟩ := hr2.same s2
        refine ⟨_, rfl, t, _, _, _, rfl, rfl, SqT.of ht, rfl, rfl, _, rfl, ite2 (fun h => absurd h (by decide)) fun _ => ?_⟩
        refine ⟨_, rfl, t, _, rfl, .inr ⟨SqT.of ht, ?_⟩⟩
        obtain ⟨q1, q2, q3⟩ := fin H2 (.ref t) (Same.refl _) ⟨t, rfl, ht⟩
        exact ⟨f, ws, _, rfl, rfl, q1, sizeL (by omega), _, _, rfl, q2, upd_same, q3⟩
      | run b n =>
        obtain ⟨t, rfl, ht⟩ := hr2.same s2
        refine ⟨_, rfl, t, _, _, _, rfl, rfl, SqT.of ht, rfl, rfl, _, rfl, ite2 (fun h => absurd h (by decide)) fun _ => ?_⟩
        refine ⟨_, rfl, t, _, rfl, .inr ⟨SqT.of ht, ?_⟩⟩
        obtain ⟨q1, q2, q3⟩ := fin H2 (.ref t) (Same.refl _) ⟨t, rfl, ht⟩
        exact ⟨f, ws, _, rfl, rfl, q1, sizeL (by omega), _, _, rfl, q2, upd_same, q3⟩
      | bring bs =>
        obtain ⟨t, q, rfl, ht, hq⟩ := hr2.same s2
        refine ⟨_, rfl, t, _, _, _, rfl, rfl, SqT.of ht, rfl, rfl, _, rfl, ite2 (fun _ => ?_) fun h => absurd (by decide) h⟩
        refine ⟨_, rfl, t, _, _, _, rfl, rfl, SqT.of ht, rfl, q, bs, rfl, SqL.of hq, hro.2, sizeS (by show 2 ≤ 100000; decide), fun t2 ht2 => ?_⟩
        obtain ⟨q1, q2, q3⟩ := fin (upd H2 t2 (.tup [.str "bring", .byt (byteArr bs)])) (.ref t2) (Same.new ht2) ⟨t2, rfl, upd_same⟩
        exact ⟨f, ws, _, rfl, rfl, q1, sizeL (by omega), _, _, rfl, q2, upd_same, q3⟩
    · rintro σ H2 ⟨ws, v, rfl, s2, hf2, hw⟩
      rw [hvl, List.take_length] at hw
      refine ⟨_, rfl, f, ws, rfl, .inl ⟨SqL.of hf2, fun u hu => ?_⟩⟩
      exact k _ _ (s2.trans (Same.new hu)) ⟨u, ws, rfl, upd_same, pairedMap hw fun _ _ x => x.tups (Same.tups (Same.new hu))⟩
end
/-! ### what a patch tells -/
def cellsR : Row → List Cell
  | .copy b n => (List.range n.toNat).map fun i => Cell.old (b + (i : Nat))
  | .run b n => List.replicate n.toNat (Cell.new b)
  | .bring bs => bs.map Cell.new
def cellsOf (rows : List Row) : List Cell := rows.flatMap cellsR
def Good (rows : List Row) : Prop := (∀ r ∈ rows, r.ok 200) ∧ total rows ≤ 200
def endsOf : List Row → List Int
  | [] => []
  | .copy b n :: l => (b + n) :: endsOf l
  | _ :: l => endsOf l
def top0 : List Int → Int
  | [] => 0
  | x :: l => if top0 l < x then x else top0 l
def needsOf (rows : List Row) : Int := top0 (endsOf rows)
def valOf (es : List Int) : Cell → Int
  | .old k => es.getD k.toNat 0
  | .new b => b
def doneOf (rows : List Row) (es : List Int) : List Int := (cellsOf rows).map (valOf es)
theorem Row.ok_mono {c e : Int} (h : c ≤ e) : ∀ {r : Row}, r.ok c → r.ok e
  | .copy _ _, ⟨a, b, d⟩ => ⟨a, b, by omega⟩
  | .run _ _, x => x
  | .bring _, x => x
theorem top0_ge : ∀ {l : List Int} {y : Int}, y ∈ l → y ≤ top0 l
  | x :: l, y, h => by
    show y ≤ if top0 l < x then x else top0 l
    rcases List.mem_cons.mp h with rfl | h
    · split <;> omega
    · have := top0_ge h
      split <;> omega
theorem top0_is : ∀ (l : List Int), top0 l = 0 ∨ top0 l ∈ l
  | [] => .inl rfl
  | x :: l => by
    show (if top0 l < x then x else top0 l) = 0 ∨ (if top0 l < x then x else top0 l) ∈ x :: l
    split
    · exact .inr List.mem_cons_self
    · rcases top0_is l with h | h
      · exact .inl h
      · exact .inr (List.mem_cons_of_mem _ h)
theorem top0_nn : ∀ (l : List Int), 0 ≤ top0 l
  | [] => by show (0 : Int) ≤ 0; decide
  | x :: l => by
    have := top0_nn l
    show (0 : Int) ≤ if top0 l < x then x else top0 l
    split <;> omega
theorem ends_pos {c : Int} : ∀ {l : List Row}, (∀ r ∈ l, r.ok c) → ∀ y ∈ endsOf l, 0 < y
  | [], _, y, hy => (List.not_mem_nil hy).elim
  | .copy b n :: l, h, y, hy => by
    have h0 := h _ List.mem_cons_self
    rcases List.mem_cons.mp hy with rfl | hy
    · have := h0.1; have := h0.2.1; omega
    · exact ends_pos (fun r hr => h r (List.mem_cons_of_mem _ hr)) y hy
  | .run b n :: l, h, y, hy => ends_pos (fun r hr => h r (List.mem_cons_of_mem _ hr)) y hy
  | .bring bs :: l, h, y, hy => ends_pos (fun r hr => h r (List.mem_cons_of_mem _ hr)) y hy
theorem top0_eq {l : List Int} {m : Int} (hm : m ∈ l) (hp : 0 < m) (ht : ∀ y, y ∈ l → y ≤ m) : m = top0 l := by
  have h1 := top0_ge hm
  rcases top0_is l with h | h
  · omega
  · have := ht _ h; omega
theorem cellsR_len {c : Int} : ∀ {r : Row}, r.ok c → ((cellsR r).length : Int) = r.len
  | .copy b n, h => by
    have := h.2.1
    show ((((List.range n.toNat).map fun i => Cell.old (b + (i : Nat))).length : Nat) : Int) = n
    rw [List.length_map, List.length_range]; omega
  | .run b n, h => by
    have := h.2.2
    show (((List.replicate n.toNat (Cell.new b)).length : Nat) : Int) = n
    rw [List.length_replicate]; omega
  | .bring bs, h => by
    show (((bs.map Cell.new).length : Nat) : Int) = bs.length
    rw [List.length_map]
theorem cellsOf_len {c : Int} : ∀ {l : List Row}, (∀ r ∈ l, r.ok c) → ((cellsOf l).length : Int) = total l
  | [], _ => rfl
  | r :: l, h => by
    have a := cellsR_len (h r List.mem_cons_self)
    have b := cellsOf_len (l := l) fun x hx => h x (List.mem_cons_of_mem _ hx)
    show ((((cellsR r) ++ cellsOf l).length : Nat) : Int) = r.len + total l
    rw [List.length_append]; omega
theorem take_snoc {α : Type} {l : List α} {i : Nat} {x : α} (h : l[i]? = some x) : l.take (i + 1) = l.take i ++ [x] := by rw [List.take_add_one, h]; rfl
theorem total_take {l : List Row} {i : Nat} {r : Row} (h : l[i]? = some r) : total (l.take (i + 1)) = total (l.take i) + r.len := by
  rw [take_snoc h, total_app]
  show total (l.take i) + (r.len + 0) = _
  omega
theorem total_take_le {c : Int} {l : List Row} (h : ∀ r ∈ l, r.ok c) (i : Nat) : total (l.take i) ≤ total l := by
  have e := total_app (l.take i) (l.drop i)
  rw [List.take_append_drop] at e
  have := total_nn (l := l.drop i) fun r hr => h r (List.mem_of_mem_drop hr)
  omega
theorem len_le_of {c : Int} {l : List Row} (h : ∀ r ∈ l, r.ok c) {r : Row} (hr : r ∈ l) : r.len ≤ total l := by
  obtain ⟨i, hi, rfl⟩ := List.mem_iff_getElem.mp hr
  have a := total_take (List.getElem?_eq_getElem hi)
  have b := total_take_le h (i + 1)
  have d := total_nn (l := l.take i) fun r hr => h r (List.mem_of_mem_take hr)
  omega
theorem CellsAt.len {H : Hp} {p : Addr} {cs : List Cell} (h : CellsAt H p cs) : ∃ vs, H p = some (.lst vs) ∧ Paired (CellV H) vs cs ∧ vs.length = cs.length := let ⟨vs, e, r⟩ := h; ⟨vs, e, r, Paired.length r⟩
/-! ### the promises -/
def spCanBe : Sp := fun vs H Q _ => ∃ (p : Addr) (r : Row), vs = [.ref p] ∧ H p = some (.tup r.tup) ∧ r.ok 200 ∧ r.len ≤ 200 ∧ Q (.bl true) H
def spLengthOf : Sp := fun vs H Q _ => ∃ (p : Addr) (r : Row), vs = [.ref p] ∧ H p = some (.tup r.tup) ∧ r.ok 200 ∧ r.len ≤ 200 ∧ Q (.int r.len) H
def spCellsOf : Sp := fun vs H Q _ => ∃ (p : Addr) (r : Row), vs = [.ref p] ∧ H p = some (.tup r.tup) ∧ r.ok 200 ∧ r.len ≤ 200 ∧ ∀ H' q, Same H H' → H q = none → CellsAt H' q (cellsR r) → Q (.ref q) H'
def spCheckPatch : Sp := fun vs H Q _ => ∃ (v : V) (rows : List Row), vs = [v] ∧ PatchAt H v rows ∧ Good rows ∧ ∀ H', Same H H' → Q .non H'
def spCheckEdition : Sp := fun vs H Q _ => ∃ es : List Int, vs = [.byt (byteArr es)] ∧ es.length ≤ 200 ∧ Q .non H
def spCheckReach : Sp := fun vs H Q _ => ∃ (v : V) (rows : List Row) (es : List Int), vs = [v, .byt (byteArr es)] ∧ PatchAt H v rows ∧ (∀ r ∈ rows, r.ok es.length) ∧ es.length ≤ 200 ∧ ∀ H', Same H H' → Q .non H'
def spCells : Sp := fun vs H Q _ => ∃ (v : V) (rows : List Row), vs = [v] ∧ PatchAt H v rows ∧ Good rows ∧ ∀ H' p, Same H H' → H p = none → CellsAt H' p (cellsOf rows) → Q (.ref p) H'
def spMakes : Sp := fun vs H Q _ => ∃ (v : V) (rows : List Row), vs = [v] ∧ PatchAt H v rows ∧ Good rows ∧ ∀ H', Same H H' → Q (.int (total rows)) H'
def spNeeds : Sp := fun vs H Q _ => ∃ (v : V) (rows : List Row), vs = [v] ∧ PatchAt H v rows ∧ Good rows ∧ ∀ H', Same H H' → Q (.int (needsOf rows)) H'
def spDone : Sp := fun vs H Q _ => ∃ (v : V) (rows : List Row) (es : List Int), vs = [v, .byt (byteArr es)] ∧ PatchAt H v rows ∧ Good rows ∧ (∀ r ∈ rows, r.ok es.length) ∧ B8 es ∧ es.length ≤ 200 ∧ ∀ H', Same H H' → Q (.byt (byteArr (doneOf rows es))) H'
section
variable {P : Program} {w : World} {K : PySem.W.Frag} {mg : Str → Option Value} {base : Heap}
theorem ok_length_of (T : All K mg) : FnOk P w K mg base CX0 1 T.d_length_of.f T.d_length_of.fd ["piece"] spLengthOf := by
  refine T.d_length_of.F.ok sc_length_of (fun vs H Q E h => ?_) (fun cdv A outer s H vs Q E hr h => ?_)
  · obtain ⟨p, _, rfl, _⟩ := h
    rfl
  · obtain ⟨p, r, rfl, hp, hok, hl, k⟩ := h
    refine ⟨_, (pss_cons 
      (ps_if (pt_cmpR op_eq (pe_ix ix_tup (pv 0) pe_int (fun _ _ => rfl)) pe_str (nomark _)) (pss_one 
      (ps_ret (pe_callB call_len (by rfl) T.b_len PySem.boot_len (pa_cons (pe_ix ix_tup (pv 0) pe_int (fun _ _ => rfl)) pa_nil)))) pss_nil) (pss_one 
      (ps_ret (pe_ix ix_tup (pv 0) pe_int (fun _ _ => rfl))))), ?_⟩
    cases r with
    | copy b n =>
      refine ⟨_, rfl, p, _, _, _, rfl, rfl, SqT.of hp, rfl, rfl, _, rfl, ite2 (fun h => absurd h (by decide)) fun _ => ?_⟩
      exact ⟨_, rfl, p, _, _, _, rfl, rfl, SqT.of hp, rfl, k⟩
    | run b n =>
      refine ⟨_, rfl, p, _, _, _, rfl, rfl, SqT.of hp, rfl, rfl, _, rfl, ite2 (fun h => absurd h (by decide)) fun _ => ?_⟩
      exact ⟨_, rfl, p, _, _, _, rfl, rfl, SqT.of hp, rfl, k⟩
    | bring bs =>
      refine ⟨_, rfl, p, _, _, _, rfl, rfl, SqT.of hp, rfl, rfl, _, rfl, ite2 (fun _ => ?_) fun h => absurd (by decide) h⟩
      have hl : (bs.length : Int) ≤ 200 := hl
      refine ⟨_, rfl, p, _, _, _, rfl, rfl, SqT.of hp, rfl, _, bs.length, rfl, ⟨by rw [byteArr_size]; exact sizeS (by omega), (byteArr_size bs).symm⟩, k⟩
theorem ok_can_be (T : All K mg) : FnOk P w K mg base CX0 2 T.d_can_be.f T.d_can_be.fd ["piece"] spCanBe := by
  have G_is_number : FnOk P w K mg base CX0 1 T.d_is_number.f T.d_is_number.fd ["what", "least", "most"] spIsNum := ok_is_number T
  refine T.d_can_be.F.ok sc_can_be (fun vs H Q E h => ?_) (fun cdv A outer s H vs Q E hr h => ?_)
  · obtain ⟨p, _, rfl, _⟩ := h
    rfl
  · obtain ⟨p, r, rfl, hp, hok, hl, k⟩ := h
    refine ⟨_, (pss_cons 
      (ps_if (pt_not (pt_val (pe_callB call_isi (by rfl) T.b_isinstance (by decide +kernel) (pa_cons (pv 0) (pa_cons (pe_bltn (v := .ty "tuple") (by rfl) T.b_tuple (by decide +kernel) rfl) pa_nil))))) (pss_one 
      (ps_ret pe_bl)) pss_nil) (pss_cons 
      (ps_if (pt_cmpR op_eq (pe_callB call_len (by rfl) T.b_len PySem.boot_len (pa_cons (pv 0) pa_nil)) pe_int (nomark _)) (pss_cons 
      (ps_asg (pv 0) (pg_tup rfl (pgs_cons (pg_name (i := 1) sc_can_be.nd rfl (Or.inl rfl)) (pgs_cons (pg_name (i := 2) sc_can_be.nd rfl (Or.inl rfl)) pgs_nil)))) (pss_one 
      (ps_ret (pe_and (pe_cmpR op_eq (pv 1) pe_str (nomark _)) (pe_and (pe_callB call_isi (by rfl) T.b_isinstance (by decide +kernel) (pa_cons (pv 2) (pa_cons (pe_bltn (v := .ty "bytes") (by rfl) T.b_bytes (by decide +kernel) rfl) pa_nil))) (pe_one (pe_chain op_le op_le pe_int (pe_callB call_len (by rfl) T.b_len PySem.boot_len (pa_cons (pv 2) pa_nil)) (pe_glob (v := .int 200) rfl T.c_MOST ⟨_, rfl⟩)))))))) pss_nil) (pss_cons 
      (ps_if (pt_cmpR op_ne (pe_callB call_len (by rfl) T.b_len PySem.boot_len (pa_cons (pv 0) pa_nil)) pe_int (nomark _)) (pss_one 
      (ps_ret pe_bl)) pss_nil) (pss_cons 
      (ps_asg (pv 0) (pg_tup rfl (pgs_cons (pg_name (i := 1) sc_can_be.nd rfl (Or.inl rfl)) (pgs_cons (pg_name (i := 3) sc_can_be.nd rfl (Or.inl rfl)) (pgs_cons (pg_name (i := 4) sc_can_be.nd rfl (Or.inl rfl)) pgs_nil))))) (pss_cons 
      (ps_if (pt_not (pt_val (pe_call G_is_number (hr.mono (by decide)) rfl T.d_is_number.m T.d_is_number.F.kp T.d_is_number.b .nil pass0 (pa_cons (pv 4) (pa_cons pe_int (pa_cons (pe_glob (v := .int 200) rfl T.c_MOST ⟨_, rfl⟩) pa_nil)))))) (pss_one 
      (ps_ret pe_bl)) pss_nil) (pss_cons 
      (ps_if (pt_cmpR op_eq (pv 1) pe_str (nomark _)) (pss_one 
      (ps_ret (pe_call G_is_number (hr.mono (by decide)) rfl T.d_is_number.m T.d_is_number.F.kp T.d_is_number.b .nil pass0 (pa_cons (pv 3) (pa_cons pe_int (pa_cons (pe_op op_sub (pe_glob (v := .int 200) rfl T.c_MOST ⟨_, rfl⟩) (pv 4)) pa_nil)))))) pss_nil) (pss_one 
      (ps_ret (pe_and (pe_cmpR op_eq (pv 1) pe_str (nomark _)) (pe_one (pe_call G_is_number (hr.mono (by decide)) rfl T.d_is_number.m T.d_is_number.F.kp T.d_is_number.b .nil pass0 (pa_cons (pv 3) (pa_cons pe_int (pa_cons (pe_glob (v := .int 255) rfl T.c_LAST_BYTE ⟨_, rfl⟩) pa_nil)))))))))))))), ?_⟩
    refine ⟨_, rfl, _, _, _, _, true, rfl, .ty _, .base (.tup hp), kit_ty (by decide +kernel), true, rfl, iteF ?_⟩
    cases r with
    | copy b n =>
      have h1 := hok.1
      have h2 := hok.2.1
      have h3 := hok.2.2
      have h4 : n ≤ 200 := hl
      refine ⟨_, rfl, _, 3, rfl, .inr ⟨_, SqT.of hp, rfl⟩, rfl, _, rfl, ite2 (fun h => absurd h (by decide)) fun _ => ?_⟩
      refine ⟨_, rfl, _, 3, rfl, .inr ⟨_, SqT.of hp, rfl⟩, rfl, _, rfl, ite2 (fun h => absurd h (by decide)) fun _ => ?_⟩
      refine ⟨_, rfl, p, _, rfl, SqT.of hp, rfl, _, _, rfl, _, _, rfl, _, _, rfl, rfl, ?_⟩
      refine ⟨_, rfl, n, 1, 200, rfl, _, rfl, ?_⟩
      rw [decide_eq_true h2, decide_eq_true h4]
      refine iteF ?_
      refine ⟨_, rfl, rfl, _, rfl, ite2 (fun _ => ?_) fun h => absurd (by decide) h⟩
      refine ⟨_, rfl, _, rfl, _, _, rfl, rfl, b, 0, 200 - n, rfl, ?_⟩
      rw [decide_eq_true h1, decide_eq_true (show b ≤ 200 - n by omega)]
      exact k
    | run b n =>
      have h1 := hok.1
      have h2 := hok.2.1
      have h3 := hok.2.2
      have h4 : n ≤ 200 := hl
      refine ⟨_, rfl, _, 3, rfl, .inr ⟨_, SqT.of hp, rfl⟩, rfl, _, rfl, ite2 (fun h => absurd h (by decide)) fun _ => ?_⟩
      refine ⟨_, rfl, _, 3, rfl, .inr ⟨_, SqT.of hp, rfl⟩, rfl, _, rfl, ite2 (fun h => absurd h (by decide)) fun _ => ?_⟩
      refine ⟨_, rfl, p, _, rfl, SqT.of hp, rfl, _, _, rfl, _, _, rfl, _, _, rfl, rfl, ?_⟩
      refine ⟨_, rfl, n, 1, 200, rfl, _, rfl, ?_⟩
      rw [decide_eq_true h3, decide_eq_true h4]
      refine iteF ?_
      refine ⟨_, rfl, rfl, _, rfl, ite2 (fun h => absurd h (by decide)) fun _ => ?_⟩
      refine ⟨_, rfl, rfl, _, rfl, ite2 (fun _ => ?_) fun h => absurd (by decide) h⟩
      refine ⟨_, rfl, b, 0, 255, rfl, ?_⟩
      rw [decide_eq_true h1, decide_eq_true (show b ≤ 255 by omega)]
      exact k
    | bring bs =>
      have h1 : 1 ≤ (bs.length : Int) := hok.1
      have h4 : (bs.length : Int) ≤ 200 := hl
      refine ⟨_, rfl, _, 2, rfl, .inr ⟨_, SqT.of hp, rfl⟩, rfl, _, rfl, ite2 (fun _ => ?_) fun h => absurd (by decide) h⟩
      refine ⟨_, rfl, p, _, rfl, SqT.of hp, rfl, _, _, rfl, _, _, rfl, rfl, ?_⟩
      refine ⟨_, rfl, rfl, _, rfl, ite2 (fun _ => ?_) fun h => absurd (by decide) h⟩
      refine ⟨_, rfl, _, _, _, _, true, rfl, .ty _, .byt _, kit_ty (by decide +kernel), true, rfl, iteT ?_⟩
      refine ⟨_, rfl, _, bs.length, rfl, ⟨by rw [byteArr_size]; exact sizeS (by omega), (byteArr_size bs).symm⟩, _, _, rfl, rfl, _, rfl, ?_⟩
      rw [decide_eq_true h1]
      refine iteT ⟨_, _, rfl, rfl, ?_⟩
      show Q (.bl (decide ((bs.length : Int) ≤ 200))) H
      rw [decide_eq_true h4]
      exact k
theorem ok_cells_of (T : All K mg) : FnOk P w K mg base CX0 1 T.d_cells_of.f T.d_cells_of.fd ["piece"] spCellsOf := by
  refine T.d_cells_of.F.ok sc_cells_of (fun vs H Q E h => ?_) (fun cdv A outer s H vs Q E hr h => ?_)
  · obtain ⟨p, _, rfl, _⟩ := h
    rfl
  · obtain ⟨p, r, rfl, hp, hok, hl, k⟩ := h
    refine ⟨_, (pss_cons 
      (ps_if (pt_cmpR op_eq (pe_ix ix_tup (pv 0) pe_int (fun _ _ => rfl)) pe_str (nomark _)) (pss_one 
      (ps_ret (pe_lc (own := [("number", 1)]) (g := gName 1) (tt := tYes) rfl sc_cells_of.nd (pi_range2 (by rfl) T.b_range (pa_cons (pe_ix ix_tup (pv 0) pe_int (fun _ _ => rfl)) (pa_cons (pe_op op_add (pe_ix ix_tup (pv 0) pe_int (fun _ _ => rfl)) (pe_ix ix_tup (pv 0) pe_int (fun _ _ => rfl))) pa_nil))) (blkOk_by (own := [("number", 1)]) (N := ["piece", "number", "byte"]) (sc := defScope s_cells_of) (by decide +kernel)) (fun _ _ _ _ _ => (pg_name (i := 1) sc_cells_of.nd rfl (Or.inl rfl))) (fun _ _ _ _ _ => pts_nil) (fun _ _ _ _ _ => (pe_tup (pa_cons pe_str (pa_cons (pv 1) pa_nil))))))) pss_nil) (pss_cons 
      (ps_if (pt_cmpR op_eq (pe_ix ix_tup (pv 0) pe_int (fun _ _ => rfl)) pe_str (nomark _)) (pss_one 
      (ps_ret (pe_lc (own := [("byte", 2)]) (g := gName 2) (tt := tYes) rfl sc_cells_of.nd (pi_byt (pe_ix ix_tup (pv 0) pe_int (fun _ _ => rfl))) (blkOk_by (own := [("byte", 2)]) (N := ["piece", "number", "byte"]) (sc := defScope s_cells_of) (by decide +kernel)) (fun _ _ _ _ _ => (pg_name (i := 2) sc_cells_of.nd rfl (Or.inl rfl))) (fun _ _ _ _ _ => pts_nil) (fun _ _ _ _ _ => (pe_tup (pa_cons pe_str (pa_cons (pv 2) pa_nil))))))) pss_nil) (pss_one 
      (ps_ret (pe_op op_rep (pe_lst (pa_cons (pe_tup (pa_cons pe_str (pa_cons (pe_ix ix_tup (pv 0) pe_int (fun _ _ => rfl)) pa_nil))) pa_nil)) (pe_ix ix_tup (pv 0) pe_int (fun _ _ => rfl))))))), ?_⟩
    -- one cell more
    have more : ∀ {H2 : Hp} {D : Addr} {ws : List V} {cs : List Cell} {c : Cell} {t : Addr}, H D = none → Same H H2 → H2 D = some (.lst ws) → Paired (CellV H2) ws cs → H2 t = none →
        Same H (upd (upd H2 t (.tup c.tup)) D (.lst (ws ++ [.ref t]))) ∧ Paired (CellV (upd (upd H2 t (.tup c.tup)) D (.lst (ws ++ [.ref t])))) (ws ++ [.ref t]) (cs ++ [c]) := by
      intro H2 D ws cs c t hD s2 hw pw ht
      have hw' : (upd H2 t (.tup c.tup)) D = some (.lst ws) := Same.new ht _ _ hw
      refine ⟨fun b o e => ?_, pairedApp (pairedMap pw fun _ _ x => (x.tups (Same.tups (Same.new ht))).tups (Tups.lst hw')) (.cons ⟨t, rfl, Tups.lst hw' _ _ upd_same⟩ .nil)⟩
      rw [upd_ne (ne_of_none e hD)]
      exact Same.new ht _ _ (s2 _ _ e)
    cases r with
    | copy b n =>
      have h1 := hok.1
      have h2 := hok.2.1
      have h3 := hok.2.2
      have h4 : n ≤ 200 := hl
      refine ⟨_, rfl, p, _, _, _, rfl, rfl, SqT.of hp, rfl, rfl, _, rfl, ite2 (fun _ => ?_) fun h => absurd (by decide) h⟩
      refine ⟨_, rfl, p, _, _, _, rfl, rfl, SqT.of hp, rfl, _, rfl, p, _, _, _, rfl, rfl, SqT.of hp, rfl, _, rfl, p, _, _, _, rfl, rfl, SqT.of hp, rfl, _, _, rfl, rfl, _, _, rfl, ⟨by omega, by omega, by omega, by omega⟩, fun D hD => ?_⟩
      refine lc_range (lo := b) (n := (b + n - b).toNat) (fun i H2 => ∃ ws : List V, Same H H2 ∧ H2 D = some (.lst ws) ∧ Paired (CellV H2) ws ((List.range i).map fun i => Cell.old (b + (i : Nat))))
        ⟨[], Same.new hD, upd_same, .nil⟩ ?_ ?_
      · rintro i H2 hi ⟨ws, s2, hw, pw⟩
        have wl : ws.length = i := by rw [Paired.length pw, List.length_map, List.length_range]
        refine ⟨rfl, _, rfl, sizeS (by show 2 ≤ 100000; decide), fun t ht => ?_⟩
        obtain ⟨q1, q2⟩ := more (c := .old (b + (i : Nat))) hD s2 hw pw ht
        refine ⟨ws, Same.new ht _ _ hw, sizeL (by omega), _, q1, upd_same, ?_⟩
        rw [List.range_succ, List.map_append]
        exact q2
      · rintro H2 ⟨ws, s2, hw, pw⟩
        rw [show (b + n - b).toNat = n.toNat by omega] at pw
        exact k H2 D s2 hD ⟨ws, hw, pw⟩
    | run b n =>
      have h3 := hok.2.2
      have h4 : n ≤ 200 := hl
      refine ⟨_, rfl, p, _, _, _, rfl, rfl, SqT.of hp, rfl, rfl, _, rfl, ite2 (fun h => absurd h (by decide)) fun _ => ?_⟩
      refine ⟨_, rfl, p, _, _, _, rfl, rfl, SqT.of hp, rfl, rfl, _, rfl, ite2 (fun h => absurd h (by decide)) fun _ => ?_⟩
      refine ⟨_, rfl, p, _, _, _, rfl, rfl, SqT.of hp, rfl, sizeS (by show 2 ≤ 100000; decide), fun t ht => ⟨sizeS (by show 1 ≤ 100000; decide), fun l hl => ?_⟩⟩
      have hp2 : (upd (upd H t (.tup [.str "new", .int b])) l (.lst [.ref t])) p = some (.tup (Row.tup (.run b n))) := Same.new hl _ _ (Same.new ht _ _ hp)
      refine ⟨_, rfl, p, _, _, _, rfl, rfl, SqT.of hp2, rfl, l, _, _, rfl, rfl, upd_same, by omega, by omega, sizeS ?_, fun q hq => ?_⟩
      · show 1 * n.toNat ≤ 100000
        omega
      · have e : (List.replicate n.toNat [V.ref t]).flatten = List.replicate n.toNat (V.ref t) := by
          generalize n.toNat = m
          induction m with
          | zero => rfl
          | succ m ih => rw [List.replicate_succ, List.replicate_succ, List.flatten_cons, ih]; rfl
        have hqt : t ≠ q := ne_of_none (o := .tup [.str "new", .int b]) (Same.new hl _ _ upd_same) hq
        have ss : Same H (upd (upd (upd H t (.tup [.str "new", .int b])) l (.lst [.ref t])) q (.lst (List.replicate n.toNat [V.ref t]).flatten)) := (Same.new ht).trans ((Same.new hl).trans (Same.new hq))
        have ct : CellV (upd (upd (upd H t (.tup [.str "new", .int b])) l (.lst [.ref t])) q (.lst (List.replicate n.toNat [V.ref t]).flatten)) (.ref t) (.new b) := ⟨t, rfl, Same.new hq _ _ (Same.new hl _ _ upd_same)⟩
        refine k _ q ss ((Same.free ((Same.new ht).trans (Same.new hl)) hq)) ⟨_, upd_same, ?_⟩
        rw [e] at ct ⊢
        show Paired _ _ (List.replicate n.toNat (Cell.new b))
        generalize n.toNat = m at ct ⊢
        generalize upd (upd (upd H t (.tup [.str "new", .int b])) l (.lst [.ref t])) q (.lst (List.replicate m (V.ref t))) = HH at ct
        induction m with
        | zero => exact .nil
        | succ m ih => exact .cons ct ih
    | bring bs =>
      have h4 : (bs.length : Int) ≤ 200 := hl
      refine ⟨_, rfl, p, _, _, _, rfl, rfl, SqT.of hp, rfl, rfl, _, rfl, ite2 (fun h => absurd h (by decide)) fun _ => ?_⟩
      refine ⟨_, rfl, p, _, _, _, rfl, rfl, SqT.of hp, rfl, rfl, _, rfl, ite2 (fun _ => ?_) fun h => absurd (by decide) h⟩
      refine ⟨_, rfl, p, _, _, _, rfl, rfl, SqT.of hp, rfl, _, rfl, fun D hD => ?_⟩
      refine lc_it walk_byt (fun i H2 => ∃ ws : List V, Same H H2 ∧ H2 D = some (.lst ws) ∧ Paired (CellV H2) ws ((bs.take i).map Cell.new))
        ⟨[], Same.new hD, upd_same, .nil⟩ (fun _ _ _ _ => trivial) ?_ ?_
      · rintro i x H2 H3 hi ⟨ws, s2, hw, pw⟩ ⟨e3, c, hc, ex⟩
        subst e3 ex
        rw [byteArr_size] at hi
        have hz := byt_at hok.2 hc
        have wl : ws.length ≤ bs.length := by rw [Paired.length pw, List.length_map, List.length_take]; omega
        refine ⟨rfl, _, rfl, sizeS (by show 2 ≤ 100000; decide), fun t ht => ?_⟩
        obtain ⟨q1, q2⟩ := more (c := .new ((c.toNat : Nat) : Int)) hD s2 hw pw ht
        refine ⟨ws, Same.new ht _ _ hw, sizeL (by omega), _, q1, upd_same, ?_⟩
        rw [take_snoc hz, List.map_append]
        exact q2
      · rintro H2 ⟨ws, s2, hw, pw⟩
        rw [byteArr_size, List.take_length] at pw
        exact k H2 D s2 hD ⟨ws, hw, pw⟩
end
theorem cell_more {H H2 : Hp} {D : Addr} {ws : List V} {cs : List Cell} {c : Cell} {t : Addr} (hD : H D = none) (s2 : Same H H2) (hw : H2 D = some (.lst ws)) (pw : Paired (CellV H2) ws cs) (ht : H2 t = none) :
    Same H (upd (upd H2 t (.tup c.tup)) D (.lst (ws ++ [.ref t]))) ∧ Paired (CellV (upd (upd H2 t (.tup c.tup)) D (.lst (ws ++ [.ref t])))) (ws ++ [.ref t]) (cs ++ [c]) := by
  have hw' : (upd H2 t (.tup c.tup)) D = some (.lst ws) := Same.new ht _ _ hw
  refine ⟨fun b o e => ?_, pairedApp (pairedMap pw fun _ _ x => (x.tups (Same.tups (Same.new ht))).tups (Tups.lst hw')) (.cons ⟨t, rfl, Tups.lst hw' _ _ upd_same⟩ .nil)⟩
  rw [upd_ne (ne_of_none e hD)]
  exact Same.new ht _ _ (s2 _ _ e)
theorem rep_flat {α : Type} (x : α) : ∀ m : Nat, (List.replicate m [x]).flatten = List.replicate m x
  | 0 => rfl
  | m + 1 => by rw [List.replicate_succ, List.replicate_succ, List.flatten_cons, rep_flat x m]; rfl
theorem paired_rep {α β : Type} {F : α → β → Prop} {x : α} {y : β} (h : F x y) : ∀ m : Nat, Paired F (List.replicate m x) (List.replicate m y)
  | 0 => .nil
  | m + 1 => .cons h (paired_rep h m)
theorem cellsOf_take {rows : List Row} {i : Nat} {r : Row} (h : rows[i]? = some r) : cellsOf (rows.take (i + 1)) = cellsOf (rows.take i) ++ cellsR r := by
  rw [take_snoc h]
  show (rows.take i ++ [r]).flatMap cellsR = _
  rw [List.flatMap_append, List.flatMap_cons, List.flatMap_nil, List.append_nil]
  rfl
/-- what a cell may be -/
theorem cells_fit {c : Int} {rows : List Row} (hre : ∀ r ∈ rows, r.ok c) : ∀ cl ∈ cellsOf rows, (∃ n, cl = .old n ∧ 0 ≤ n ∧ n < c) ∨ ∃ b, cl = .new b ∧ 0 ≤ b ∧ b < 256 := by
  intro cl hcl
  obtain ⟨r, hr1, hr2⟩ := List.mem_flatMap.mp hcl
  have ho := hre r hr1
  cases r with
  | copy b n =>
    obtain ⟨i, hi, rfl⟩ := List.mem_map.mp hr2
    have hi := List.mem_range.mp hi
    have h1 := ho.1
    have h2 := ho.2.1
    have h3 := ho.2.2
    exact .inl ⟨_, rfl, by omega, by omega⟩
  | run b n =>
    rw [List.eq_of_mem_replicate hr2]
    exact .inr ⟨_, rfl, ho.1, ho.2.1⟩
  | bring bs =>
    obtain ⟨z, hz, rfl⟩ := List.mem_map.mp hr2
    exact .inr ⟨_, rfl, (ho.2 z hz).1, (ho.2 z hz).2⟩
theorem done_B8 {rows : List Row} {es : List Int} (hre : ∀ r ∈ rows, r.ok es.length) (hb : B8 es) : B8 (doneOf rows es) := fun z hz => by
  obtain ⟨cl, hcl, rfl⟩ := List.mem_map.mp hz
  rcases cells_fit hre cl hcl with ⟨n, rfl, n0, n1⟩ | ⟨b, rfl, b0, b1⟩
  · have jl : n.toNat < es.length := by omega
    show 0 ≤ es.getD n.toNat 0 ∧ es.getD n.toNat 0 < 256
    rw [List.getD_eq_getElem?_getD, List.getElem?_eq_getElem jl]
    exact hb _ (List.getElem_mem jl)
  · exact ⟨b0, b1⟩
theorem done_len {c : Int} {rows : List Row} (es : List Int) (hre : ∀ r ∈ rows, r.ok c) : ((doneOf rows es).length : Int) = total rows := by
  show ((((cellsOf rows).map (valOf es)).length : Nat) : Int) = _
  rw [List.length_map]; exact cellsOf_len hre
theorem Good.each {rows : List Row} (h : Good rows) : ∀ r ∈ rows, r.ok 200 ∧ r.len ≤ 200 := fun r hr => ⟨h.1 r hr, Int.le_trans (len_le_of h.1 hr) h.2⟩
theorem Good.few {rows : List Row} (h : Good rows) : (rows.length : Int) ≤ 200 := Int.le_trans (len_le_total h.1) h.2
theorem Good.take {rows : List Row} (h : Good rows) (i : Nat) : Good (rows.take i) := ⟨fun r hr => h.1 r (List.mem_of_mem_take hr), Int.le_trans (total_take_le h.1 i) h.2⟩
theorem Good.nat {rows : List Row} (h : Good rows) : rows.length ≤ 200 := by have := h.few; omega
section
variable {P : Program} {w : World} {K : PySem.W.Frag} {mg : Str → Option Value} {base : Heap}
theorem ends_app (a b : List Row) : endsOf (a ++ b) = endsOf a ++ endsOf b := by
  induction a with
  | nil => rfl
  | cons r l ih => cases r <;> simp [endsOf, ih]
theorem ends_len (a : List Row) : (endsOf a).length ≤ a.length := by
  induction a with
  | nil => exact Nat.le_refl _
  | cons r l ih => cases r <;> simp [endsOf] <;> omega
theorem total_sum : ∀ rows : List Row, (rows.map Row.len).sum = total rows
  | [] => rfl
  | r :: l => by rw [List.map_cons, List.sum_cons, total_sum l]; rfl
theorem ok_check_patch (T : All K mg) : FnOk P w K mg base CX0 3 T.d_check_patch.f T.d_check_patch.fd ["patch"] spCheckPatch := by
  have G_can_be : FnOk P w K mg base CX0 2 T.d_can_be.f T.d_can_be.fd ["piece"] spCanBe := ok_can_be T
  have G_length_of : FnOk P w K mg base CX0 1 T.d_length_of.f T.d_length_of.fd ["piece"] spLengthOf := ok_length_of T
  refine T.d_check_patch.F.ok sc_check_patch (fun vs H Q E h => ?_) (fun cdv A outer s H vs Q E hr h => ?_)
  · obtain ⟨v, _, rfl, _⟩ := h
    rfl
  · obtain ⟨v, rows, rfl, ⟨p, vs, rfl, hv, hpr⟩, ⟨hok, htot⟩, k⟩ := h
    have hvl : vs.length = rows.length := Paired.length hpr
    refine ⟨_, (pss_cons 
      (ps_set (i := 1) sc_check_patch.nd rfl (Or.inl rfl) pe_int) (pss_one 
      (ps_for PassesOwn.never rfl (pi_enumT (by rfl) T.b_enumerate (pa_cons (pv 0) pa_nil)) (pg_tup rfl (pgs_cons (pg_name (i := 2) sc_check_patch.nd rfl (Or.inl rfl)) (pgs_cons (pg_name (i := 3) sc_check_patch.nd rfl (Or.inl rfl)) pgs_nil))) (pss_cons 
      (ps_if (pt_not (pt_val (pe_call G_can_be (hr.mono (by decide)) rfl T.d_can_be.m T.d_can_be.F.kp T.d_can_be.b .nil pass0 (pa_cons (pv 3) pa_nil)))) (pss_one ps_never) pss_nil) (pss_cons 
      (ps_aug (i := 1) sc_check_patch.nd rfl (Or.inl rfl) (pe_call G_length_of (hr.mono (by decide)) rfl T.d_length_of.m T.d_length_of.F.kp T.d_length_of.b .nil pass0 (pa_cons (pv 3) pa_nil)) ip_add) (pss_one 
      (ps_if (pt_cmpR op_gt (pv 1) (pe_glob (v := .int 200) rfl T.c_MOST ⟨_, rfl⟩) (nomark _)) (pss_one ps_never) pss_nil))))))), ?_⟩
    refine ⟨_, rfl, p, vs, rfl, SqT.of hv, for_it walk_enumT (fun i σ H2 => ∃ v2 v3 : Option V, σ = [some (.ref p), some (.int (total (rows.take i))), v2, v3] ∧ Same H H2)
      ⟨none, none, rfl, Same.refl _⟩ (fun i σ H2 _ ⟨_, _, _, s2⟩ => SqT.of (s2 _ _ hv)) ?_ ?_⟩
    · rintro i x σ H2 H3 hi ⟨v2, v3, rfl, s2⟩ ⟨t, x1, y1, rfl, ht, rfl, e1, e2⟩
      cases e1
      obtain ⟨r, hr1, q, rfl, hq⟩ := pairedAt hpr e2
      have hro := hok r (List.mem_of_getElem? hr1)
      have hrl : r.len ≤ total rows := len_le_of hok (List.mem_of_getElem? hr1)
      have s3 : Same H (upd H2 t (.tup [.int (i : Nat), .ref q])) := s2.trans (Same.new ht)
      have hq3 := s3 _ _ hq
      refine ⟨t, _, rfl, SqT.of upd_same, rfl, _, _, rfl, _, _, rfl, rfl, ?_⟩
      refine ⟨_, rfl, q, r, rfl, hq3, hro, by omega, _, rfl, iteF ?_⟩
      refine ⟨_, rfl, _, rfl, q, r, rfl, hq3, hro, by omega, _, _, rfl, rfl, ?_⟩
      have ht1 := total_take hr1
      have ht2 := total_take_le hok (i + 1)
      refine ⟨_, rfl, _, _, rfl, rfl, _, rfl, ite2 (fun h => absurd (show (200 : Int) < total (rows.take i) + r.len from of_decide_eq_true h) (by omega)) fun _ => ?_⟩
      exact ⟨_, _, by rw [ht1]; rfl, s3⟩
    · rintro σ H2 ⟨v2, v3, rfl, s2⟩
      exact k H2 s2
theorem ok_check_edition (T : All K mg) : FnOk P w K mg base CX0 1 T.d_check_edition.f T.d_check_edition.fd ["edition"] spCheckEdition := by
  refine T.d_check_edition.F.ok sc_check_edition (fun vs H Q E h => ?_) (fun cdv A outer s H vs Q E hr h => ?_)
  · obtain ⟨_, rfl, _⟩ := h
    rfl
  · obtain ⟨es, rfl, hl, k⟩ := h
    refine ⟨_, (pss_one 
      (ps_if (pt_cmpR op_gt (pe_callB call_len (by rfl) T.b_len PySem.boot_len (pa_cons (pv 0) pa_nil)) (pe_glob (v := .int 200) rfl T.c_MOST ⟨_, rfl⟩) (nomark _)) (pss_one ps_never) pss_nil)), ?_⟩
    refine ⟨_, rfl, _, es.length, rfl, ⟨by rw [byteArr_size]; exact sizeS (by omega), (byteArr_size es).symm⟩, _, _, rfl, rfl, _, rfl, ite2 (fun h => absurd (of_decide_eq_true h) (by omega)) fun _ => k⟩
theorem ok_check_reach (T : All K mg) : FnOk P w K mg base CX0 1 T.d_check_reach.f T.d_check_reach.fd ["patch", "edition"] spCheckReach := by
  refine T.d_check_reach.F.ok sc_check_reach (fun vs H Q E h => ?_) (fun cdv A outer s H vs Q E hr h => ?_)
  · obtain ⟨v, _, _, rfl, _⟩ := h
    rfl
  · obtain ⟨v, rows, es, rfl, ⟨p, vs, rfl, hv, hpr⟩, hok, hel, k⟩ := h
    refine ⟨_, (pss_one 
      (ps_for PassesOwn.never rfl (pi_enumT (by rfl) T.b_enumerate (pa_cons (pv 0) pa_nil)) (pg_tup rfl (pgs_cons (pg_name (i := 2) sc_check_reach.nd rfl (Or.inl rfl)) (pgs_cons (pg_name (i := 3) sc_check_reach.nd rfl (Or.inl rfl)) pgs_nil))) (pss_one 
      (ps_if (PW.pt (pw_and (pt_cmpR op_eq (pe_ix ix_tup (pv 3) pe_int (fun _ _ => rfl)) pe_str (nomark _)) (pw_and1 (pt_cmpR op_gt (pe_op op_add (pe_ix ix_tup (pv 3) pe_int (fun _ _ => rfl)) (pe_ix ix_tup (pv 3) pe_int (fun _ _ => rfl))) (pe_callB call_len (by rfl) T.b_len PySem.boot_len (pa_cons (pv 1) pa_nil)) (nomark _))))) (pss_one ps_never) pss_nil)))), ?_⟩
    refine ⟨_, rfl, p, vs, rfl, SqT.of hv, for_it walk_enumT (fun i σ H2 => ∃ v2 v3 : Option V, σ = [some (.ref p), some (.byt (byteArr es)), v2, v3] ∧ Same H H2)
      ⟨none, none, rfl, Same.refl _⟩ (fun i σ H2 _ ⟨_, _, _, s2⟩ => SqT.of (s2 _ _ hv)) ?_ ?_⟩
    · rintro i x σ H2 H3 hi ⟨v2, v3, rfl, s2⟩ ⟨t, x1, y1, rfl, ht, rfl, e1, e2⟩
      cases e1
      obtain ⟨r, hr1, q, rfl, hq⟩ := pairedAt hpr e2
      have hro := hok r (List.mem_of_getElem? hr1)
      have s3 : Same H (upd H2 t (.tup [.int (i : Nat), .ref q])) := s2.trans (Same.new ht)
      have hq3 := s3 _ _ hq
      refine ⟨t, _, rfl, SqT.of upd_same, rfl, _, _, rfl, _, _, rfl, rfl, ?_⟩
      cases r with
      | copy b n =>
        refine ⟨_, rfl, q, _, _, _, rfl, rfl, SqT.of hq3, rfl, rfl, _, rfl, ite2 (fun _ => ?_) fun h => absurd (by decide) h⟩
        have h3 := hro.2.2
        refine ⟨_, rfl, q, _, _, _, rfl, rfl, SqT.of hq3, rfl, _, rfl, q, _, _, _, rfl, rfl, SqT.of hq3, rfl, _, _, rfl, rfl, _, rfl, _, es.length, rfl, ⟨by rw [byteArr_size]; exact sizeS (by omega), (byteArr_size es).symm⟩, _, _, rfl, rfl, _, rfl, ite2 (fun h => absurd (of_decide_eq_true h) (by omega)) fun _ => ?_⟩
        exact ⟨_, _, rfl, s3⟩
      | run b n =>
        refine ⟨_, rfl, q, _, _, _, rfl, rfl, SqT.of hq3, rfl, rfl, _, rfl, ite2 (fun h => absurd h (by decide)) fun _ => iteF ?_⟩
        exact ⟨_, _, rfl, s3⟩
      | bring bs =>
        refine ⟨_, rfl, q, _, _, _, rfl, rfl, SqT.of hq3, rfl, rfl, _, rfl, ite2 (fun h => absurd h (by decide)) fun _ => iteF ?_⟩
        exact ⟨_, _, rfl, s3⟩
    · rintro σ H2 ⟨v2, v3, rfl, s2⟩
      exact k H2 s2
theorem ok_cells (T : All K mg) : FnOk P w K mg base CX0 4 T.d_cells.f T.d_cells.fd ["patch"] spCells := by
  have G_check_patch : FnOk P w K mg base CX0 3 T.d_check_patch.f T.d_check_patch.fd ["patch"] spCheckPatch := ok_check_patch T
  have G_cells_of : FnOk P w K mg base CX0 1 T.d_cells_of.f T.d_cells_of.fd ["piece"] spCellsOf := ok_cells_of T
  refine T.d_cells.F.ok sc_cells (fun vs H Q E h => ?_) (fun cdv A outer s H vs Q E hr h => ?_)
  · obtain ⟨v, _, rfl, _⟩ := h
    rfl
  · obtain ⟨v, rows, rfl, hP, hG, k⟩ := h
    refine ⟨_, (pss_cons 
      (ps_expr (pe_call G_check_patch (hr.mono (by decide)) rfl T.d_check_patch.m T.d_check_patch.F.kp T.d_check_patch.b .nil pass0 (pa_cons (pv 0) pa_nil))) (pss_cons 
      (ps_set (i := 1) sc_cells.nd rfl (Or.inl rfl) (pe_lst pa_nil)) (pss_cons 
      (ps_for PassesOwn.never rfl (pi_tup (pv 0)) (pg_name (i := 2) sc_cells.nd rfl (Or.inl rfl)) (pss_one 
      (ps_expr (pe_bm PySem.F.plainAttrs_list PySem.F.slot_list_extend PySem.F.type_list_extend mt_extend (pv 1) (pa_cons (pe_call G_cells_of (hr.mono (by decide)) rfl T.d_cells_of.m T.d_cells_of.F.kp T.d_cells_of.b .nil pass0 (pa_cons (pv 2) pa_nil)) pa_nil))))) (pss_one 
      (ps_ret (pv 1)))))), ?_⟩
    refine ⟨_, rfl, v, rows, rfl, hP, hG, fun H1 s1 => ⟨sizeS (by show 0 ≤ 100000; decide), fun D hD => ?_⟩⟩
    obtain ⟨hok, htot⟩ := hG
    obtain ⟨p, vs, rfl, hv, hpr⟩ := hP
    have hD0 : H D = none := s1.free hD
    refine ⟨_, rfl, p, rfl, ⟨vs, SqT.of (Same.new hD _ _ (s1 _ _ hv))⟩, for_tup (K := K) (a := p) (xs := vs) (fun i σ H2 => ∃ (ws : List V) (v2 : Option V), σ = [some (.ref p), some (.ref D), v2] ∧ Same H H2 ∧ H2 D = some (.lst ws) ∧ Paired (CellV H2) ws (cellsOf (rows.take i)))
      ⟨[], none, rfl, s1.trans (Same.new hD), upd_same, .nil⟩ (fun i σ H2 _ ⟨_, _, _, s2, _⟩ => SqT.of (s2 _ _ hv)) ?_ ?_⟩
    · rintro i x σ H2 hi ⟨ws, v2, rfl, s2, hw, pw⟩
      obtain ⟨r, hr1, q, rfl, hq⟩ := pairedAt hpr hi
      have hro := hok r (List.mem_of_getElem? hr1)
      have hrl : r.len ≤ total rows := len_le_of hok (List.mem_of_getElem? hr1)
      refine ⟨_, rfl, .inl ⟨rfl, _, SqL.of hw⟩, _, rfl, q, r, rfl, s2 _ _ hq, hro, by omega, fun H3 e s3 he he3 => ?_⟩
      obtain ⟨us, hu, pu⟩ := he3
      have hw3 := s3 _ _ hw
      have l1 : (ws.length : Int) = total (rows.take i) := by
        rw [Paired.length pw]; exact cellsOf_len fun x hx => hok x (List.mem_of_mem_take hx)
      have l2 : (us.length : Int) = r.len := by rw [Paired.length pu]; exact cellsR_len hro
      have l3 := total_take_le hok i
      refine ⟨D, e, ws, us, rfl, rfl, hw3, hu, sizeS (by omega), ?_⟩
      refine ⟨_, _, rfl, fun b o z => ?_, upd_same, ?_⟩
      · rw [upd_ne (ne_of_none z hD0)]; exact s3 _ _ (s2 _ _ z)
      · have ec : cellsOf (rows.take (i + 1)) = cellsOf (rows.take i) ++ cellsR r := by
          rw [take_snoc hr1]
          show (rows.take i ++ [r]).flatMap cellsR = _
          rw [List.flatMap_append, List.flatMap_cons, List.flatMap_nil, List.append_nil]
          rfl
        rw [ec]
        exact pairedApp (pairedMap pw fun _ _ x => (x.tups (Same.tups s3)).tups (Tups.lst hw3)) (pairedMap pu fun _ _ x => x.tups (Tups.lst hw3))
    · rintro σ H2 ⟨ws, v2, rfl, s2, hw, pw⟩
      rw [Paired.length hpr, List.take_length] at pw
      exact ⟨_, rfl, k H2 D s2 hD0 ⟨ws, hw, pw⟩⟩
theorem ok_makes (T : All K mg) : FnOk P w K mg base CX0 4 T.d_makes.f T.d_makes.fd ["patch"] spMakes := by
  have G_check_patch : FnOk P w K mg base CX0 3 T.d_check_patch.f T.d_check_patch.fd ["patch"] spCheckPatch := ok_check_patch T
  have G_length_of : FnOk P w K mg base CX0 1 T.d_length_of.f T.d_length_of.fd ["piece"] spLengthOf := ok_length_of T
  refine T.d_makes.F.ok sc_makes (fun vs H Q E h => ?_) (fun cdv A outer s H vs Q E hr h => ?_)
  · obtain ⟨v, _, rfl, _⟩ := h
    rfl
  · obtain ⟨v, rows, rfl, hP, hG, k⟩ := h
    refine ⟨_, (pss_cons 
      (ps_expr (pe_call G_check_patch (hr.mono (by decide)) rfl T.d_check_patch.m T.d_check_patch.F.kp T.d_check_patch.b .nil pass0 (pa_cons (pv 0) pa_nil))) (pss_one 
      (ps_ret (pe_callB (cr_sum rfl) (by rfl) T.b_sum (by decide +kernel) (pa_cons (pe_lc (own := [("piece", 1)]) (g := gName 1) (tt := tYes) rfl sc_makes.nd (pi_tup (pv 0)) (blkOk_by (own := [("piece", 1)]) (N := ["patch", "piece"]) (sc := defScope s_makes) (by decide +kernel)) (fun _ _ _ _ _ => (pg_name (i := 1) sc_makes.nd rfl (Or.inl rfl))) (fun _ _ _ _ _ => pts_nil) (fun _ _ _ _ _ => (pe_call G_length_of (hr.mono (by decide)) rfl T.d_length_of.m T.d_length_of.F.kp T.d_length_of.b .nil pass0 (pa_cons (pv 1) pa_nil)))) pa_nil))))), ?_⟩
    refine ⟨_, rfl, v, rows, rfl, hP, hG, fun H1 s1 => ?_⟩
    obtain ⟨hok, htot⟩ := hG
    obtain ⟨p, vs, rfl, hv, hpr⟩ := hP
    have hlen := len_le_total hok
    refine ⟨_, rfl, p, rfl, ⟨vs, SqT.of (s1 _ _ hv)⟩, fun D hD => lc_tup (K := K) (a := p) (xs := vs) (fun i H2 => Same H1 H2 ∧ H2 D = some (.lst (List.map V.int ((rows.take i).map Row.len))))
      ⟨Same.new hD, upd_same⟩ (fun i H2 _ ⟨s2, _⟩ => SqT.of (s2 _ _ (s1 _ _ hv))) ?_ ?_⟩
    · rintro i x H2 hi ⟨s2, hd⟩
      obtain ⟨r, hr1, q, rfl, hq⟩ := pairedAt hpr hi
      have hro := hok r (List.mem_of_getElem? hr1)
      have hrl : r.len ≤ total rows := len_le_of hok (List.mem_of_getElem? hr1)
      have il : i < rows.length := (List.getElem?_eq_some_iff.mp hr1).1
      refine ⟨rfl, _, rfl, q, r, rfl, s2 _ _ (s1 _ _ hq), hro, by omega, _, hd, sizeL (by rw [List.length_map, List.length_map, List.length_take]; omega), fun b o z => ?_, ?_⟩
      · rw [upd_ne (ne_of_none z hD)]; exact s2 _ _ z
      · rw [upd_same, take_snoc hr1, List.map_append, List.map_append]; rfl
    · rintro H2 ⟨s2, hd⟩
      rw [Paired.length hpr, List.take_length] at hd
      refine ⟨D, _, rfl, SqL.of hd, ?_⟩
      have kk := k H2 (s1.trans s2)
      rw [← total_sum rows] at kk
      exact kk
theorem ok_needs (T : All K mg) : FnOk P w K mg base CX0 4 T.d_needs.f T.d_needs.fd ["patch"] spNeeds := by
  have G_check_patch : FnOk P w K mg base CX0 3 T.d_check_patch.f T.d_check_patch.fd ["patch"] spCheckPatch := ok_check_patch T
  refine T.d_needs.F.ok sc_needs (fun vs H Q E h => ?_) (fun cdv A outer s H vs Q E hr h => ?_)
  · obtain ⟨v, _, rfl, _⟩ := h
    rfl
  · obtain ⟨v, rows, rfl, hP, hG, k⟩ := h
    refine ⟨_, (pss_cons 
      (ps_expr (pe_call G_check_patch (hr.mono (by decide)) rfl T.d_check_patch.m T.d_check_patch.F.kp T.d_check_patch.b .nil pass0 (pa_cons (pv 0) pa_nil))) (pss_one 
      (ps_ret (pe_callBK (cr_maxDf rfl) (by rfl) T.b_max (by decide +kernel) (pa_cons (pe_lc (own := [("piece", 1)]) (g := gName 1) rfl sc_needs.nd (pi_tup (pv 0)) (blkOk_by (own := [("piece", 1)]) (N := ["patch", "piece"]) (sc := defScope s_needs) (by decide +kernel)) (fun _ _ _ _ _ => (pg_name (i := 1) sc_needs.nd rfl (Or.inl rfl))) (fun _ _ _ _ _ => (pts_one (pt_cmpR op_eq (pe_ix (ixtK (K := K) rfl) (pv 1) pe_int (fun _ _ => rfl)) pe_str (nomark _)))) (fun _ _ _ _ _ => (pe_op op_add (pe_ix (ixtK (K := K) rfl) (pv 1) pe_int (fun _ _ => rfl)) (pe_ix (ixtK (K := K) rfl) (pv 1) pe_int (fun _ _ => rfl))))) pa_nil) (pk_cons pe_int pk_nil))))), ?_⟩
    refine ⟨_, rfl, v, rows, rfl, hP, hG, fun H1 s1 => ?_⟩
    obtain ⟨hok, htot⟩ := hG
    obtain ⟨p, vs, rfl, hv, hpr⟩ := hP
    have hlen := len_le_total hok
    refine ⟨_, rfl, p, rfl, ⟨vs, SqT.of (s1 _ _ hv)⟩, fun D hD => lc_tup (K := K) (a := p) (xs := vs) (fun i H2 => Same H1 H2 ∧ H2 D = some (.lst (List.map V.int (endsOf (rows.take i)))))
      ⟨Same.new hD, upd_same⟩ (fun i H2 _ ⟨s2, _⟩ => SqT.of (s2 _ _ (s1 _ _ hv))) ?_ ?_⟩
    · rintro i x H2 hi ⟨s2, hd⟩
      obtain ⟨r, hr1, q, rfl, hq⟩ := pairedAt hpr hi
      have il : i < rows.length := (List.getElem?_eq_some_iff.mp hr1).1
      have hq2 := s2 _ _ (s1 _ _ hq)
      refine ⟨rfl, ?_⟩
      have ll := ends_len (rows.take i)
      rw [List.length_take] at ll
      have e1 : endsOf (rows.take (i + 1)) = endsOf (rows.take i) ++ endsOf [r] := by rw [take_snoc hr1, ends_app]
      cases r with
      | copy b n =>
        refine ⟨_, rfl, q, _, _, _, rfl, rfl, SqT.of hq2, rfl, rfl, _, rfl, ite2 (fun _ => ?_) fun h => absurd (by decide) h⟩
        refine ⟨_, rfl, q, _, _, _, rfl, rfl, SqT.of hq2, rfl, _, rfl, q, _, _, _, rfl, rfl, SqT.of hq2, rfl, _, _, rfl, rfl, _, hd, sizeL (by rw [List.length_map]; omega), fun c o z => ?_, ?_⟩
        · rw [upd_ne (ne_of_none z hD)]; exact s2 _ _ z
        · rw [upd_same, e1, List.map_append]; rfl
      | run b n =>
        refine ⟨_, rfl, q, _, _, _, rfl, rfl, SqT.of hq2, rfl, rfl, _, rfl, ite2 (fun h => absurd h (by decide)) fun _ => ?_⟩
        exact ⟨s2, by rw [e1]; show H2 D = some (.lst (List.map V.int (endsOf (rows.take i) ++ []))); rw [List.append_nil]; exact hd⟩
      | bring bs =>
        refine ⟨_, rfl, q, _, _, _, rfl, rfl, SqT.of hq2, rfl, rfl, _, rfl, ite2 (fun h => absurd h (by decide)) fun _ => ?_⟩
        exact ⟨s2, by rw [e1]; show H2 D = some (.lst (List.map V.int (endsOf (rows.take i) ++ []))); rw [List.append_nil]; exact hd⟩
    · rintro H2 ⟨s2, hd⟩
      rw [Paired.length hpr, List.take_length] at hd
      have kk := k H2 (s1.trans s2)
      refine ⟨D, _, 0, rfl, rfl, SqL.of hd, fun e => ?_, fun m hm ht => ?_⟩
      · have : needsOf rows = 0 := by show top0 (endsOf rows) = 0; rw [e]; rfl
        rw [this] at kk; exact kk
      · have : needsOf rows = m := (top0_eq hm (ends_pos hok m hm) ht).symm
        rw [this] at kk; exact kk
theorem ok_done (T : All K mg) : FnOk P w K mg base CX0 5 T.d_done.f T.d_done.fd ["patch", "edition"] spDone := by
  have G_cells : FnOk P w K mg base CX0 4 T.d_cells.f T.d_cells.fd ["patch"] spCells := ok_cells T
  have G_check_edition : FnOk P w K mg base CX0 1 T.d_check_edition.f T.d_check_edition.fd ["edition"] spCheckEdition := ok_check_edition T
  have G_check_reach : FnOk P w K mg base CX0 1 T.d_check_reach.f T.d_check_reach.fd ["patch", "edition"] spCheckReach := ok_check_reach T
  refine T.d_done.F.ok sc_done (fun vs H Q E h => ?_) (fun cdv A outer s H vs Q E hr h => ?_)
  · obtain ⟨v, _, _, rfl, _⟩ := h
    rfl
  · obtain ⟨v, rows, es, rfl, hP, hG, hre, hb, hel, k⟩ := h
    refine ⟨_, (pss_cons 
      (ps_set (i := 2) sc_done.nd rfl (Or.inl rfl) (pe_call G_cells (hr.mono (by decide)) rfl T.d_cells.m T.d_cells.F.kp T.d_cells.b .nil pass0 (pa_cons (pv 0) pa_nil))) (pss_cons 
      (ps_expr (pe_call G_check_edition (hr.mono (by decide)) rfl T.d_check_edition.m T.d_check_edition.F.kp T.d_check_edition.b .nil pass0 (pa_cons (pv 1) pa_nil))) (pss_cons 
      (ps_expr (pe_call G_check_reach (hr.mono (by decide)) rfl T.d_check_reach.m T.d_check_reach.F.kp T.d_check_reach.b .nil pass0 (pa_cons (pv 0) (pa_cons (pv 1) pa_nil)))) (pss_one 
      (ps_ret (pe_bytesOf rfl (by rfl) T.b_bytes (pe_lc (own := [("word", 3), ("worth", 4)]) (tt := tYes) rfl sc_done.nd (pi_list (pv 2)) (blkOk_by (own := [("word", 3), ("worth", 4)]) (N := ["patch", "edition", "told", "word", "worth"]) (sc := defScope s_done) (by decide +kernel)) (fun _ _ _ _ _ => (pg_tupK (K := K) (n := 2) rfl rfl (pgs_cons (pg_name (i := 3) sc_done.nd rfl (Or.inl rfl)) (pgs_cons (pg_name (i := 4) sc_done.nd rfl (Or.inl rfl)) pgs_nil)))) (fun _ _ _ _ _ => pts_nil) (fun _ _ _ _ _ => (pe_ifExp (pt_cmpR op_eq (pv 3) pe_str (nomark _)) (pe_item_byt (pv 1) (pv 4) (fun _ _ => rfl)) (pv 4)))))))))), ?_⟩
    refine ⟨_, rfl, v, rows, rfl, hP, hG, fun H1 c s1 hc hcs => ?_⟩
    refine ⟨_, rfl, es, rfl, hel, ?_⟩
    refine ⟨_, rfl, _, rfl, v, rows, es, rfl, hP.tups (Same.tups s1), hre, hel, fun H2 s2 => ?_⟩
    obtain ⟨ws, hw, pw, hwl⟩ := (hcs.same s2).len
    have hlen := cellsOf_len hre
    have htot := hG.2
    -- what a cell may be
    have fits : ∀ cl ∈ cellsOf rows, (∃ n, cl = .old n ∧ 0 ≤ n ∧ n < es.length) ∨ ∃ b, cl = .new b ∧ 0 ≤ b ∧ b < 256 := by
      intro cl hcl
      obtain ⟨r, hr1, hr2⟩ := List.mem_flatMap.mp hcl
      have ho := hre r hr1
      cases r with
      | copy b n =>
        obtain ⟨i, hi, rfl⟩ := List.mem_map.mp hr2
        have hi := List.mem_range.mp hi
        have h1 := ho.1
        have h2 := ho.2.1
        have h3 := ho.2.2
        exact .inl ⟨_, rfl, by omega, by omega⟩
      | run b n =>
        rw [List.eq_of_mem_replicate hr2]
        exact .inr ⟨_, rfl, ho.1, ho.2.1⟩
      | bring bs =>
        obtain ⟨z, hz, rfl⟩ := List.mem_map.mp hr2
        exact .inr ⟨_, rfl, (ho.2 z hz).1, (ho.2 z hz).2⟩
    refine ⟨_, rfl, c, rfl, ⟨ws, SqL.of hw⟩, fun D hD => lc_list (K := K) (a := c) (xs := ws) (fun i H3 => Same H2 H3 ∧ H3 D = some (.lst (List.map V.int (((cellsOf rows).take i).map (valOf es)))))
      ⟨Same.new hD, upd_same⟩ (fun i H3 _ ⟨s3, _⟩ => SqL.of (s3 _ _ hw)) ?_ ?_⟩
    · rintro i x H3 hi ⟨s3, hd⟩
      obtain ⟨cl, hcl, q, rfl, hq⟩ := pairedAt pw hi
      have hq3 := s3 _ _ hq
      have il : i < (cellsOf rows).length := (List.getElem?_eq_some_iff.mp hcl).1
      -- the value goes to the list's end
      have fin : ∀ z : Int, z = valOf es cl → ∃ acc, H3 D = some (.lst acc) ∧ acc.length < sizeLine ∧ Same H2 (upd H3 D (.lst (acc ++ [.int z]))) ∧ (upd H3 D (.lst (acc ++ [.int z]))) D = some (.lst (List.map V.int (((cellsOf rows).take (i + 1)).map (valOf es)))) := by
        intro z ez
        refine ⟨_, hd, sizeL (by rw [List.length_map, List.length_map, List.length_take]; omega), fun b o y => ?_, ?_⟩
        · rw [upd_ne (ne_of_none y hD)]; exact s3 _ _ y
        · rw [upd_same, take_snoc hcl, List.map_append, List.map_append, ez]; rfl
      rcases fits cl (List.mem_of_getElem? hcl) with ⟨n, rfl, n0, n1⟩ | ⟨b, rfl, b0, b1⟩
      · refine ⟨q, _, rfl, SqT.of hq3, rfl, _, _, rfl, _, _, rfl, rfl, rfl, ?_⟩
        refine ⟨_, rfl, rfl, _, rfl, ite2 (fun _ => ?_) fun h => absurd (by decide) h⟩
        obtain ⟨j, hj⟩ : ∃ j : Nat, n = (j : Int) := ⟨n.toNat, by omega⟩
        subst hj
        have jl : j < es.length := by omega
        refine ⟨_, rfl, _, rfl, es.map fun n : Int => n.toNat.toUInt8, _, rfl, rfl, sizeS (by rw [List.length_map]; omega), n0, by rw [List.length_map]; exact n1, ?_⟩
        refine fin _ ?_
        have e := byte_at (j := j) hb (List.getElem?_eq_getElem jl)
        show ((((es.map fun n : Int => n.toNat.toUInt8).getD ((j : Int).toNat) 0).toNat : Nat) : Int) = es.getD (j : Int).toNat 0
        rw [Int.toNat_natCast, e, List.getD_eq_getElem?_getD, List.getElem?_eq_getElem jl]
        rfl
      · refine ⟨q, _, rfl, SqT.of hq3, rfl, _, _, rfl, _, _, rfl, rfl, rfl, ?_⟩
        refine ⟨_, rfl, rfl, _, rfl, ite2 (fun h => absurd h (by decide)) fun _ => ?_⟩
        exact ⟨_, rfl, fin _ rfl⟩
    · rintro H3 ⟨s3, hd⟩
      rw [hwl, List.take_length] at hd
      refine .inr ⟨D, _, rfl, SqL.of hd, fun z hz => ?_, ?_⟩
      · obtain ⟨cl, hcl, rfl⟩ := List.mem_map.mp hz
        rcases fits cl hcl with ⟨n, rfl, n0, n1⟩ | ⟨b, rfl, b0, b1⟩
        · have jl : n.toNat < es.length := by omega
          show 0 ≤ es.getD n.toNat 0 ∧ es.getD n.toNat 0 < 256
          rw [List.getD_eq_getElem?_getD, List.getElem?_eq_getElem jl]
          exact hb _ (List.getElem_mem jl)
        · exact ⟨b0, b1⟩
      · exact k H3 (s1.trans (s2.trans s3))
end
def spLCells : Sp := fun vs H Q _ => ∃ (p : Addr) (rows : List Row) (c : Int), vs = [.ref p] ∧ RowsAt H p rows ∧ (∀ r ∈ rows, r.ok c) ∧ c ≤ 10000 ∧ total rows ≤ 10000 ∧ ∀ H' q, Same H H' → H q = none → CellsAt H' q (cellsOf rows) → Q (.ref q) H'
section
variable {P : Program} {w : World} {K : PySem.W.Frag} {mg : Str → Option Value} {base : Heap}
theorem ok_law_cells (T : All K mg) : FnOk P w K mg base CX0 1 T.d_law_cells.f T.d_law_cells.fd ["_law_rows_here"] spLCells := by
  refine T.d_law_cells.F.ok sc_law_cells (fun vs H Q E h => ?_) (fun cdv A outer s H vs Q E hr h => ?_)
  · obtain ⟨p, _, _, rfl, _⟩ := h
    rfl
  · obtain ⟨p, rows, c, rfl, ⟨vs, hv, hpr⟩, hok, hc, htot, k⟩ := h
    refine ⟨_, (pss_cons 
      (ps_set (i := 1) sc_law_cells.nd rfl (Or.inl rfl) (pe_lst pa_nil)) (pss_cons 
      (ps_for PassesOwn.never rfl (pi_list (pv 0)) (pg_name (i := 2) sc_law_cells.nd rfl (Or.inl rfl)) (pss_one 
      (ps_if (pt_cmpR op_eq (pe_ix ix_tup (pv 2) pe_int (fun _ _ => rfl)) pe_str (nomark _)) (pss_one 
      (ps_set (i := 1) sc_law_cells.nd rfl (Or.inl rfl) (pe_op op_cat (pv 1) (pe_lc (own := [("_law_k", 3)]) (g := gName 3) (tt := tYes) rfl sc_law_cells.nd (pi_range2 (by rfl) T.b_range (pa_cons (pe_ix ix_tup (pv 2) pe_int (fun _ _ => rfl)) (pa_cons (pe_op op_add (pe_ix ix_tup (pv 2) pe_int (fun _ _ => rfl)) (pe_ix ix_tup (pv 2) pe_int (fun _ _ => rfl))) pa_nil))) (blkOk_by (own := [("_law_k", 3)]) (N := ["_law_rows_here", "_law_found", "_law_row", "_law_k", "_law_byte"]) (sc := defScope s_law_cells) (by decide +kernel)) (fun _ _ _ _ _ => (pg_name (i := 3) sc_law_cells.nd rfl (Or.inl rfl))) (fun _ _ _ _ _ => pts_nil) (fun _ _ _ _ _ => (pe_tup (pa_cons pe_str (pa_cons (pv 3) pa_nil)))))))) (pss_one 
      (ps_if (pt_cmpR op_eq (pe_ix ix_tup (pv 2) pe_int (fun _ _ => rfl)) pe_str (nomark _)) (pss_one 
      (ps_set (i := 1) sc_law_cells.nd rfl (Or.inl rfl) (pe_op op_cat (pv 1) (pe_op op_rep (pe_lst (pa_cons (pe_tup (pa_cons pe_str (pa_cons (pe_ix ix_tup (pv 2) pe_int (fun _ _ => rfl)) pa_nil))) pa_nil)) (pe_ix ix_tup (pv 2) pe_int (fun _ _ => rfl)))))) (pss_one 
      (ps_set (i := 1) sc_law_cells.nd rfl (Or.inl rfl) (pe_op op_cat (pv 1) (pe_lc (own := [("_law_byte", 4)]) (g := gName 4) (tt := tYes) rfl sc_law_cells.nd (pi_list (pe_ix ix_tup (pv 2) pe_int (fun _ _ => rfl))) (blkOk_by (own := [("_law_byte", 4)]) (N := ["_law_rows_here", "_law_found", "_law_row", "_law_k", "_law_byte"]) (sc := defScope s_law_cells) (by decide +kernel)) (fun _ _ _ _ _ => (pg_name (i := 4) sc_law_cells.nd rfl (Or.inl rfl))) (fun _ _ _ _ _ => pts_nil) (fun _ _ _ _ _ => (pe_tup (pa_cons pe_str (pa_cons (pv 4) pa_nil))))))))))))) (pss_one 
      (ps_ret (pv 1))))), ?_⟩
    refine ⟨sizeS (by show 0 ≤ 100000; decide), fun f0 hf0 => ?_⟩
    refine ⟨_, rfl, p, rfl, ⟨vs, SqL.of (Same.new hf0 _ _ hv)⟩, for_list (K := K) (a := p) (xs := vs) (fun i σ H2 => ∃ (f : Addr) (ws : List V) (v2 v3 v4 : Option V), σ = [some (.ref p), some (.ref f), v2, v3, v4] ∧ Same H H2 ∧ H f = none ∧ H2 f = some (.lst ws) ∧ Paired (CellV H2) ws (cellsOf (rows.take i)))
      ⟨f0, [], none, none, none, rfl, Same.new hf0, hf0, upd_same, .nil⟩ (fun i σ H2 _ ⟨_, _, _, _, _, _, s2, _⟩ => SqL.of (s2 _ _ hv)) ?_ ?_⟩
    · rintro i x σ H2 hi ⟨f, ws, v2, v3, v4, rfl, s2, hf, hw, pw⟩
      obtain ⟨r, hr1, hr2⟩ := pairedAt hpr hi
      have hro := hok r (List.mem_of_getElem? hr1)
      have hrl : r.len ≤ total rows := len_le_of hok (List.mem_of_getElem? hr1)
      have l1 : (ws.length : Int) = total (rows.take i) := by
        rw [Paired.length pw]; exact cellsOf_len fun x hx => hok x (List.mem_of_mem_take hx)
      have l3 := total_take_le hok i
      have l4 := total_nn hok
      -- the two lists put together
      have fin : ∀ (H3 : Hp) (us : List V) (q : Addr), Same H2 H3 → Paired (CellV H3) us (cellsR r) → H3 q = none → H q = none ∧ Same H (upd H3 q (.lst (ws ++ us))) ∧ Paired (CellV (upd H3 q (.lst (ws ++ us)))) (ws ++ us) (cellsOf (rows.take (i + 1))) := by
        intro H3 us q s3 pu hq
        refine ⟨(s2.trans s3).free hq, (s2.trans s3).trans (Same.new hq), ?_⟩
        rw [cellsOf_take hr1]
        exact pairedApp (pairedMap pw fun _ _ x => (x.tups (Same.tups s3)).tups (Same.tups (Same.new hq))) (pairedMap pu fun _ _ x => x.tups (Same.tups (Same.new hq)))
      cases r with
      | copy b n =>
        obtain ⟨t, rfl, ht⟩ := hr2.same s2
        have h1 := hro.1
        have h2 := hro.2.1
        have h4 : n ≤ total rows := hrl
        have h3 := hro.2.2
        refine ⟨_, rfl, t, _, _, _, rfl, rfl, SqT.of ht, rfl, rfl, _, rfl, ite2 (fun _ => ?_) fun h => absurd (by decide) h⟩
        refine ⟨_, rfl, _, rfl, t, _, _, _, rfl, rfl, SqT.of ht, rfl, _, rfl, t, _, _, _, rfl, rfl, SqT.of ht, rfl, _, rfl, t, _, _, _, rfl, rfl, SqT.of ht, rfl, _, _, rfl, rfl, _, _, rfl, ⟨by omega, by omega, by omega, by omega⟩, fun D hD => ?_⟩
        refine lc_range (lo := b) (n := (b + n - b).toNat) (fun j H3 => ∃ us : List V, Same H2 H3 ∧ H3 D = some (.lst us) ∧ Paired (CellV H3) us ((List.range j).map fun i => Cell.old (b + (i : Nat))))
          ⟨[], Same.new hD, upd_same, .nil⟩ ?_ ?_
        · rintro j H3 hj ⟨us, s3, hu, pu⟩
          have ul : us.length = j := by rw [Paired.length pu, List.length_map, List.length_range]
          refine ⟨rfl, _, rfl, sizeS (by show 2 ≤ 100000; decide), fun t' ht' => ?_⟩
          obtain ⟨q1, q2⟩ := cell_more (c := .old (b + (j : Nat))) hD s3 hu pu ht'
          refine ⟨us, Same.new ht' _ _ hu, sizeL (by omega), _, q1, upd_same, ?_⟩
          rw [List.range_succ, List.map_append]
          exact q2
        · rintro H3 ⟨us, s3, hu, pu⟩
          rw [show (b + n - b).toNat = n.toNat by omega] at pu
          have ul : us.length = n.toNat := by rw [Paired.length pu, List.length_map, List.length_range]
          refine ⟨f, D, ws, us, rfl, rfl, s3 _ _ hw, hu, sizeS (by omega), fun q hq => ?_⟩
          obtain ⟨q1, q2, q3⟩ := fin H3 us q s3 pu hq
          exact ⟨q, _, _, _, _, rfl, q2, q1, upd_same, q3⟩
      | run b n =>
        obtain ⟨t, rfl, ht⟩ := hr2.same s2
        have h3 := hro.2.2
        have h4 : n ≤ total rows := hrl
        refine ⟨_, rfl, t, _, _, _, rfl, rfl, SqT.of ht, rfl, rfl, _, rfl, ite2 (fun h => absurd h (by decide)) fun _ => ?_⟩
        refine ⟨_, rfl, t, _, _, _, rfl, rfl, SqT.of ht, rfl, rfl, _, rfl, ite2 (fun _ => ?_) fun h => absurd (by decide) h⟩
        refine ⟨_, rfl, _, rfl, t, _, _, _, rfl, rfl, SqT.of ht, rfl, sizeS (by show 2 ≤ 100000; decide), fun u hu => ⟨sizeS (by show 1 ≤ 100000; decide), fun l hl => ?_⟩⟩
        have s3 : Same H2 (upd (upd H2 u (.tup [.str "new", .int b])) l (.lst [.ref u])) := (Same.new hu).trans (Same.new hl)
        refine ⟨_, rfl, t, _, _, _, rfl, rfl, SqT.of (s3 _ _ ht), rfl, l, _, _, rfl, rfl, upd_same, by omega, by omega, sizeS ?_, fun q hq => ?_⟩
        · show 1 * n.toNat ≤ 100000
          omega
        · have s4 := s3.trans (Same.new (o := .lst (List.replicate n.toNat [V.ref u]).flatten) hq)
          have cu : CellV (upd (upd (upd H2 u (.tup [.str "new", .int b])) l (.lst [.ref u])) q (.lst (List.replicate n.toNat [V.ref u]).flatten)) (.ref u) (.new b) := ⟨u, rfl, Same.new hq _ _ (Same.new hl _ _ upd_same)⟩
          have pu := paired_rep cu n.toNat
          refine ⟨f, q, ws, _, rfl, rfl, s4 _ _ hw, upd_same, sizeS (by rw [rep_flat, List.length_replicate]; omega), fun q' hq' => ?_⟩
          obtain ⟨q1, q2, q3⟩ := fin _ _ q' s4 pu hq'
          rw [rep_flat] at q2 q3 ⊢
          exact ⟨q', _, _, _, _, rfl, q2, q1, upd_same, q3⟩
      | bring bs =>
        obtain ⟨t, u, rfl, ht, hu⟩ := hr2.same s2
        have h4 : (bs.length : Int) ≤ total rows := hrl
        refine ⟨_, rfl, t, _, _, _, rfl, rfl, SqT.of ht, rfl, rfl, _, rfl, ite2 (fun h => absurd h (by decide)) fun _ => ?_⟩
        refine ⟨_, rfl, t, _, _, _, rfl, rfl, SqT.of ht, rfl, rfl, _, rfl, ite2 (fun h => absurd h (by decide)) fun _ => ?_⟩
        refine ⟨_, rfl, _, rfl, t, _, _, _, rfl, rfl, SqT.of ht, rfl, u, rfl, ⟨_, SqL.of hu⟩, fun D hD => ?_⟩
        refine lc_list (K := K) (a := u) (xs := bs.map V.int) (fun j H3 => ∃ us : List V, Same H2 H3 ∧ H3 D = some (.lst us) ∧ Paired (CellV H3) us ((bs.take j).map Cell.new))
          ⟨[], Same.new hD, upd_same, .nil⟩ (fun j H3 _ ⟨_, s3, _⟩ => SqL.of (s3 _ _ hu)) ?_ ?_
        · rintro j y H3 hj ⟨us, s3, hus, pu⟩
          obtain ⟨z, rfl, hz⟩ := at_map hj
          have ul : us.length ≤ bs.length := by rw [Paired.length pu, List.length_map, List.length_take]; omega
          refine ⟨rfl, _, rfl, sizeS (by show 2 ≤ 100000; decide), fun t' ht' => ?_⟩
          obtain ⟨q1, q2⟩ := cell_more (c := .new z) hD s3 hus pu ht'
          refine ⟨us, Same.new ht' _ _ hus, sizeL (by omega), _, q1, upd_same, ?_⟩
          rw [take_snoc hz, List.map_append]
          exact q2
        · rintro H3 ⟨us, s3, hus, pu⟩
          rw [List.length_map, List.take_length] at pu
          have ul : us.length = bs.length := by rw [Paired.length pu, List.length_map]
          refine ⟨f, D, ws, us, rfl, rfl, s3 _ _ hw, hus, sizeS (by omega), fun q hq => ?_⟩
          obtain ⟨q1, q2, q3⟩ := fin H3 us q s3 pu hq
          exact ⟨q, _, _, _, _, rfl, q2, q1, upd_same, q3⟩
    · rintro σ H2 ⟨f, ws, v2, v3, v4, rfl, s2, hf, hw, pw⟩
      rw [Paired.length hpr, List.take_length] at pw
      exact ⟨_, rfl, k H2 f s2 hf ⟨ws, hw, pw⟩⟩
end
/-- alike data, of nesting below n -/
def Alk (H : Hp) : Nat → V → V → Prop
  | 0, _, _ => False
  | n + 1, x, y => (x = y ∧ ((∃ i, x = .int i) ∨ ∃ s, x = .str s)) ∨ ∃ p q xs ys, x = .ref p ∧ y = .ref q ∧ ((H p = some (.tup xs) ∧ H q = some (.tup ys)) ∨ (H p = some (.lst xs) ∧ H q = some (.lst ys))) ∧ xs.length ≤ 100000 ∧ Paired (Alk H n) xs ys
theorem Alk.same {H H' : Hp} (s : Same H H') : ∀ {n : Nat} {x y : V}, Alk H n x y → Alk H' n x y
  | n + 1, x, y, .inl h => .inl h
  | n + 1, x, y, .inr ⟨p, q, xs, ys, e1, e2, h, l, r⟩ => .inr ⟨p, q, xs, ys, e1, e2, h.imp (fun z => ⟨s _ _ z.1, s _ _ z.2⟩) (fun z => ⟨s _ _ z.1, s _ _ z.2⟩), l, pairedMap r fun _ _ z => Alk.same s z⟩
def spLike (n : Nat) : Sp := fun vs H Q _ => ∃ x y : V, vs = [x, y] ∧ Alk H n x y ∧ ∀ H', Same H H' → Q (.bl true) H'
theorem eqv_nil : PyData.eqv (.list []) (.list []) = true := by simp [PyData.eqv, PyData.eqvAll]
theorem shaped_nil : SeqAt.shaped (.list []) = true := by decide
theorem Alk.cell {H : Hp} {v u : V} {c : Cell} (h : CellV H v c) (h' : CellV H u c) : Alk H 2 v u := by
  obtain ⟨p, rfl, hp⟩ := h
  obtain ⟨q, rfl, hq⟩ := h'
  refine .inr ⟨p, q, _, _, rfl, rfl, .inl ⟨hp, hq⟩, ?_, ?_⟩
  · cases c <;> (show 2 ≤ 100000; decide)
  · cases c with
    | old k => exact .cons (.inl ⟨rfl, .inr ⟨_, rfl⟩⟩) (.cons (.inl ⟨rfl, .inl ⟨_, rfl⟩⟩) .nil)
    | new b => exact .cons (.inl ⟨rfl, .inr ⟨_, rfl⟩⟩) (.cons (.inl ⟨rfl, .inl ⟨_, rfl⟩⟩) .nil)
theorem Alk.cells {H : Hp} : ∀ {vs us : List V} {cs : List Cell}, Paired (CellV H) vs cs → Paired (CellV H) us cs → Paired (Alk H 2) vs us
  | _, _, _, .nil, .nil => .nil
  | _, _, _, .cons a r, .cons b t => .cons (Alk.cell a b) (Alk.cells r t)
section
variable {P : Program} {w : World} {K : PySem.W.Frag} {mg : Str → Option Value} {base : Heap}
theorem ok_law_like (T : All K mg) : ∀ n : Nat, FnOk P w K mg base CX0 n T.d_law_like.f T.d_law_like.fd ["_law_found", "_law_due"] (spLike n)
  | 0 => ⟨fun _ _ _ _ ⟨_, _, _, h, _⟩ => h.elim, fun _ _ _ _ _ _ _ _ _ _ _ _ _ ⟨_, _, _, h, _⟩ => h.elim⟩
  | n + 1 => by
    have G_law_like : FnOk P w K mg base CX0 n T.d_law_like.f T.d_law_like.fd ["_law_found", "_law_due"] (spLike n) := ok_law_like T n
    refine T.d_law_like.F.ok sc_law_like (fun vs H Q E h => ?_) (fun cdv A outer s H vs Q E hr h => ?_)
    · obtain ⟨x, y, rfl, _⟩ := h
      rfl
    · obtain ⟨x, y, rfl, h, k⟩ := h
      refine ⟨_, (pss_cons 
      (ps_if (PW.pt (pw_or (pt_val (pe_callB call_isi (by rfl) T.b_isinstance (by decide +kernel) (pa_cons (pv 1) (pa_cons (pe_bltn (v := .ty "tuple") (by rfl) T.b_tuple (by decide +kernel) rfl) pa_nil)))) (pw_or1 (pt_val (pe_callB call_isi (by rfl) T.b_isinstance (by decide +kernel) (pa_cons (pv 1) (pa_cons (pe_bltn (v := .ty "list") (by rfl) T.b_list (by decide +kernel) rfl) pa_nil))))))) (pss_cons 
      (ps_if (pt_cmpR op_ne (pe_callB call_isi (by rfl) T.b_isinstance (by decide +kernel) (pa_cons (pv 0) (pa_cons (pe_bltn (v := .ty "tuple") (by rfl) T.b_tuple (by decide +kernel) rfl) pa_nil))) (pe_callB call_isi (by rfl) T.b_isinstance (by decide +kernel) (pa_cons (pv 1) (pa_cons (pe_bltn (v := .ty "tuple") (by rfl) T.b_tuple (by decide +kernel) rfl) pa_nil))) (nomark _)) (pss_one 
      (ps_ret pe_bl)) pss_nil) (pss_cons 
      (ps_if (PW.pt (pw_or (pt_cmpR op_ne (pe_callB call_isi (by rfl) T.b_isinstance (by decide +kernel) (pa_cons (pv 0) (pa_cons (pe_bltn (v := .ty "list") (by rfl) T.b_list (by decide +kernel) rfl) pa_nil))) (pe_callB call_isi (by rfl) T.b_isinstance (by decide +kernel) (pa_cons (pv 1) (pa_cons (pe_bltn (v := .ty "list") (by rfl) T.b_list (by decide +kernel) rfl) pa_nil))) (nomark _)) (pw_or1 (pt_cmpR op_ne (pe_callB call_len (by rfl) T.b_len PySem.boot_len (pa_cons (pv 0) pa_nil)) (pe_callB call_len (by rfl) T.b_len PySem.boot_len (pa_cons (pv 1) pa_nil)) (nomark _))))) (pss_one 
      (ps_ret pe_bl)) pss_nil) (pss_one 
      (ps_ret (pe_cmpR (op_eqD hr.units) (pe_lc (own := [("_law_k", 2)]) (g := gName 2) rfl sc_law_like.nd (pi_range1 (by rfl) T.b_range (pa_cons (pe_callB call_len (by rfl) T.b_len PySem.boot_len (pa_cons (pv 1) pa_nil)) pa_nil)) (blkOk_by (own := [("_law_k", 2)]) (N := ["_law_found", "_law_due", "_law_k"]) (sc := defScope s_law_like) (by decide +kernel)) (fun _ _ _ _ _ => (pg_name (i := 2) sc_law_like.nd rfl (Or.inl rfl))) (fun _ _ _ _ _ => (pts_one (pt_not (pt_val (pe_call G_law_like (hr.mono (Nat.le_refl _)) rfl T.d_law_like.m T.d_law_like.F.kp T.d_law_like.b .nil pass0 (pa_cons (pe_ix (ixsK (K := K) rfl) (pv 0) (pv 2) (fun _ _ => rfl)) (pa_cons (pe_ix (ixsK (K := K) rfl) (pv 1) (pv 2) (fun _ _ => rfl)) pa_nil))))))) (fun _ _ _ _ _ => (pv 2))) (pe_lst pa_nil) (nomark _)))))) pss_nil) (pss_cons 
      (ps_if (pt_cmpR op_ne (pe_callB call_isi (by rfl) T.b_isinstance (by decide +kernel) (pa_cons (pv 0) (pa_cons (pe_bltn (v := .ty "bool") (by rfl) T.b_bool (by decide +kernel) rfl) pa_nil))) (pe_callB call_isi (by rfl) T.b_isinstance (by decide +kernel) (pa_cons (pv 1) (pa_cons (pe_bltn (v := .ty "bool") (by rfl) T.b_bool (by decide +kernel) rfl) pa_nil))) (nomark _)) (pss_one 
      (ps_ret pe_bl)) pss_nil) (pss_cons 
      (ps_if (PW.pt (pw_or (pt_cmpR op_ne (pe_callB call_isi (by rfl) T.b_isinstance (by decide +kernel) (pa_cons (pv 0) (pa_cons (pe_bltn (v := .ty "int") (by rfl) T.b_int (by decide +kernel) rfl) pa_nil))) (pe_callB call_isi (by rfl) T.b_isinstance (by decide +kernel) (pa_cons (pv 1) (pa_cons (pe_bltn (v := .ty "int") (by rfl) T.b_int (by decide +kernel) rfl) pa_nil))) (nomark _)) (pw_or1 (pt_cmpR op_ne (pe_callB call_isi (by rfl) T.b_isinstance (by decide +kernel) (pa_cons (pv 0) (pa_cons (pe_bltn (v := .ty "str") (by rfl) T.b_str (by decide +kernel) rfl) pa_nil))) (pe_callB call_isi (by rfl) T.b_isinstance (by decide +kernel) (pa_cons (pv 1) (pa_cons (pe_bltn (v := .ty "str") (by rfl) T.b_str (by decide +kernel) rfl) pa_nil))) (nomark _))))) (pss_one 
      (ps_ret pe_bl)) pss_nil) (pss_one 
      (ps_ret (pe_cmpR op_eq (pv 0) (pv 1) (nomark _))))))), ?_⟩
      rcases h with ⟨rfl, ⟨i, rfl⟩ | ⟨z, rfl⟩⟩ | ⟨p, q, xs, ys, rfl, rfl, h, hl, hp⟩
      · refine ⟨_, rfl, _, _, _, _, false, rfl, .ty _, .base (.int i), kit_ty (by decide +kernel), false, rfl, iteF ?_⟩
        refine ⟨_, rfl, _, _, _, _, false, rfl, .ty _, .base (.int i), kit_ty (by decide +kernel), false, rfl, iteF ?_⟩
        refine ⟨_, rfl, _, _, _, _, false, rfl, .ty _, .base (.int i), kit_ty (by decide +kernel), _, rfl, _, _, _, _, false, rfl, .ty _, .base (.int i), kit_ty (by decide +kernel), rfl, _, rfl, iteNS rfl ?_⟩
        refine ⟨_, rfl, _, _, _, _, true, rfl, .ty _, .base (.int i), kit_ty (by decide +kernel), _, rfl, _, _, _, _, true, rfl, .ty _, .base (.int i), kit_ty (by decide +kernel), rfl, _, rfl, iteNS rfl ?_⟩
        refine ⟨_, rfl, _, _, _, _, false, rfl, .ty _, .base (.int i), kit_ty (by decide +kernel), _, rfl, _, _, _, _, false, rfl, .ty _, .base (.int i), kit_ty (by decide +kernel), rfl, _, rfl, iteNS rfl ?_⟩
        refine ⟨_, rfl, _, rfl, rfl, ?_⟩
        have kk := k H (Same.refl _)
        rw [← decide_eq_true (rfl : V.int i = V.int i)] at kk
        exact kk
      · refine ⟨_, rfl, _, _, _, _, false, rfl, .ty _, .base (.str z), kit_ty (by decide +kernel), false, rfl, iteF ?_⟩
        refine ⟨_, rfl, _, _, _, _, false, rfl, .ty _, .base (.str z), kit_ty (by decide +kernel), false, rfl, iteF ?_⟩
        refine ⟨_, rfl, _, _, _, _, false, rfl, .ty _, .base (.str z), kit_ty (by decide +kernel), _, rfl, _, _, _, _, false, rfl, .ty _, .base (.str z), kit_ty (by decide +kernel), rfl, _, rfl, iteNS rfl ?_⟩
        refine ⟨_, rfl, _, _, _, _, false, rfl, .ty _, .base (.str z), kit_ty (by decide +kernel), _, rfl, _, _, _, _, false, rfl, .ty _, .base (.str z), kit_ty (by decide +kernel), rfl, _, rfl, iteNS rfl ?_⟩
        refine ⟨_, rfl, _, _, _, _, true, rfl, .ty _, .base (.str z), kit_ty (by decide +kernel), _, rfl, _, _, _, _, true, rfl, .ty _, .base (.str z), kit_ty (by decide +kernel), rfl, _, rfl, iteNS rfl ?_⟩
        refine ⟨_, rfl, _, rfl, rfl, ?_⟩
        have kk := k H (Same.refl _)
        rw [← decide_eq_true (rfl : V.str z = V.str z)] at kk
        exact kk
      · have el : xs.length = ys.length := Paired.length hp
        rcases h with ⟨hx, hy⟩ | ⟨hx, hy⟩
        · refine ⟨_, rfl, _, _, _, _, true, rfl, .ty _, .base (.tup hy), kit_ty (by decide +kernel), true, rfl, iteT (iteT ?_)⟩
          refine ⟨_, rfl, _, _, _, _, true, rfl, .ty _, .base (.tup hx), kit_ty (by decide +kernel), _, rfl, _, _, _, _, true, rfl, .ty _, .base (.tup hy), kit_ty (by decide +kernel), rfl, _, rfl, iteNS rfl ?_⟩
          refine ⟨_, rfl, _, _, _, _, false, rfl, .ty _, .base (.tup hx), kit_ty (by decide +kernel), _, rfl, _, _, _, _, false, rfl, .ty _, .base (.tup hy), kit_ty (by decide +kernel), rfl, _, rfl, iteNS rfl ?_⟩
          refine ⟨_, rfl, _, xs.length, rfl, .inr ⟨_, SqT.of hx, rfl⟩, _, rfl, _, ys.length, rfl, .inr ⟨_, SqT.of hy, rfl⟩, rfl, _, rfl, iteNS (by rw [el]) ?_⟩
          refine ⟨_, rfl, _, ys.length, rfl, .inr ⟨_, SqT.of hy, rfl⟩, _, rfl, by omega, by omega, fun D hD => ?_⟩
          refine lc_range (lo := 0) (n := ((ys.length : Int)).toNat) (fun i H2 => Same H H2 ∧ H2 D = some (.lst [])) ⟨Same.new hD, upd_same⟩ ?_ ?_
          · rintro i H2 hi ⟨s2, hd⟩
            rw [Int.toNat_natCast] at hi
            have hi' : i < xs.length := by omega
            obtain ⟨y, hy1, hy2⟩ := pairedAt hp (List.getElem?_eq_getElem hi')
            exact ⟨rfl, _, rfl, _, rfl, .inr (.inl ⟨p, xs, _, _, rfl, rfl, SqT.of (s2 _ _ hx), at_of (by omega) (List.getElem?_eq_getElem hi'), _, rfl, _, rfl, .inr (.inl ⟨q, ys, _, _, rfl, rfl, SqT.of (s2 _ _ hy), at_of (by omega) hy1, xs[i], y, rfl, Alk.same s2 hy2, fun H3 s3 => ⟨_, rfl, iteF ⟨s2.trans s3, s3 _ _ hd⟩⟩⟩)⟩)⟩
          · rintro H2 ⟨s2, hd⟩
            refine ⟨sizeS (by show 0 ≤ 100000; decide), fun l hl => ⟨.list [], .list [], Dp.lst (SqL.of (Same.new hl _ _ hd)) .nil, Dp.lst (SqL.of upd_same) .nil, shaped_nil, shaped_nil, ?_⟩⟩
            have kk := k _ (s2.trans (Same.new (o := .lst []) hl))
            rw [← eqv_nil] at kk
            exact kk
        · refine ⟨_, rfl, _, _, _, _, false, rfl, .ty _, .base (.lst hy), kit_ty (by decide +kernel), false, rfl, iteF ?_⟩
          refine ⟨_, rfl, _, _, _, _, true, rfl, .ty _, .base (.lst hy), kit_ty (by decide +kernel), true, rfl, iteT ?_⟩
          refine ⟨_, rfl, _, _, _, _, false, rfl, .ty _, .base (.lst hx), kit_ty (by decide +kernel), _, rfl, _, _, _, _, false, rfl, .ty _, .base (.lst hy), kit_ty (by decide +kernel), rfl, _, rfl, iteNS rfl ?_⟩
          refine ⟨_, rfl, _, _, _, _, true, rfl, .ty _, .base (.lst hx), kit_ty (by decide +kernel), _, rfl, _, _, _, _, true, rfl, .ty _, .base (.lst hy), kit_ty (by decide +kernel), rfl, _, rfl, iteNS rfl ?_⟩
          refine ⟨_, rfl, _, xs.length, rfl, .inl ⟨_, SqL.of hx, rfl⟩, _, rfl, _, ys.length, rfl, .inl ⟨_, SqL.of hy, rfl⟩, rfl, _, rfl, iteNS (by rw [el]) ?_⟩
          refine ⟨_, rfl, _, ys.length, rfl, .inl ⟨_, SqL.of hy, rfl⟩, _, rfl, by omega, by omega, fun D hD => ?_⟩
          refine lc_range (lo := 0) (n := ((ys.length : Int)).toNat) (fun i H2 => Same H H2 ∧ H2 D = some (.lst [])) ⟨Same.new hD, upd_same⟩ ?_ ?_
          · rintro i H2 hi ⟨s2, hd⟩
            rw [Int.toNat_natCast] at hi
            have hi' : i < xs.length := by omega
            obtain ⟨y, hy1, hy2⟩ := pairedAt hp (List.getElem?_eq_getElem hi')
            exact ⟨rfl, _, rfl, _, rfl, .inl ⟨p, xs, _, _, rfl, rfl, SqL.of (s2 _ _ hx), at_of (by omega) (List.getElem?_eq_getElem hi'), _, rfl, _, rfl, .inl ⟨q, ys, _, _, rfl, rfl, SqL.of (s2 _ _ hy), at_of (by omega) hy1, xs[i], y, rfl, Alk.same s2 hy2, fun H3 s3 => ⟨_, rfl, iteF ⟨s2.trans s3, s3 _ _ hd⟩⟩⟩⟩⟩
          · rintro H2 ⟨s2, hd⟩
            refine ⟨sizeS (by show 0 ≤ 100000; decide), fun l hl => ⟨.list [], .list [], Dp.lst (SqL.of (Same.new hl _ _ hd)) .nil, Dp.lst (SqL.of upd_same) .nil, shaped_nil, shaped_nil, ?_⟩⟩
            have kk := k _ (s2.trans (Same.new (o := .lst []) hl))
            rw [← eqv_nil] at kk
            exact kk
end
def spNew : Sp := fun vs H Q _ => ∃ (p o : Addr) (rows : List Row) (es : List Int), vs = [.ref p, .ref o] ∧ RowsAt H p rows ∧ (∀ r ∈ rows, r.ok es.length) ∧ H o = some (.lst (List.map V.int es)) ∧ es.length ≤ 10000 ∧ total rows ≤ 10000 ∧
  ∀ H' q, Same H H' → H q = none → H' q = some (.lst (List.map V.int (doneOf rows es))) → Q (.ref q) H'
def spLaw (K : PySem.W.Frag) : Sp := fun vs H Q _ => ∃ (a : Addr) (ns : List Int), vs = [.ref a] ∧ SqL K H a (ns.map V.int) ∧ ns.length ≤ 63 ∧ ∀ H', Q (.bl true) H'
theorem dp_ints {K : PySem.W.Frag} {H : Hp} {p : Addr} {ns : List Int} (h : H p = some (.lst (List.map V.int ns))) : Dp K H (.ref p) (.list (ns.map PyData.int)) := by
  refine Dp.lst (SqL.of h) ?_
  clear h
  induction ns with
  | nil => exact .nil
  | cons n r ih => exact .cons (.int n) ih
theorem eqv_ints (ns : List Int) : PyData.eqv (.list (ns.map PyData.int)) (.list (ns.map PyData.int)) = true :=
  SeqAt.eqv_refl _ (SeqAt.canLay_of_shaped (PySem.W.ke_shaped_ints ns))
section
variable {P : Program} {w : World} {K : PySem.W.Frag} {mg : Str → Option Value} {base : Heap}
theorem ok_law_new (T : All K mg) : FnOk P w K mg base CX0 2 T.d_law_new.f T.d_law_new.fd ["_law_rows_here", "_law_old"] spNew := by
  have G_law_cells : FnOk P w K mg base CX0 1 T.d_law_cells.f T.d_law_cells.fd ["_law_rows_here"] spLCells := ok_law_cells T
  refine T.d_law_new.F.ok sc_law_new (fun vs H Q E h => ?_) (fun cdv A outer s H vs Q E hr h => ?_)
  · obtain ⟨p, o, _, _, rfl, _⟩ := h
    rfl
  · obtain ⟨p, o, rows, es, rfl, hR, hre, ho, hel, htot, k⟩ := h
    refine ⟨_, (pss_one 
      (ps_ret (pe_lc (own := [("_law_word", 2), ("_law_k", 3)]) (tt := tYes) rfl sc_law_new.nd (pi_list (pe_call G_law_cells (hr.mono (by decide)) rfl T.d_law_cells.m T.d_law_cells.F.kp T.d_law_cells.b .nil pass0 (pa_cons (pv 0) pa_nil))) (blkOk_by (own := [("_law_word", 2), ("_law_k", 3)]) (N := ["_law_rows_here", "_law_old", "_law_word", "_law_k"]) (sc := defScope s_law_new) (by decide +kernel)) (fun _ _ _ _ _ => (pg_tupK (K := K) (n := 2) rfl rfl (pgs_cons (pg_name (i := 2) sc_law_new.nd rfl (Or.inl rfl)) (pgs_cons (pg_name (i := 3) sc_law_new.nd rfl (Or.inl rfl)) pgs_nil)))) (fun _ _ _ _ _ => pts_nil) (fun _ _ _ _ _ => (pe_ifExp (pt_cmpR op_eq (pv 2) pe_str (nomark _)) (pe_ix (ixlK (K := K) rfl) (pv 1) (pv 3) (fun _ _ => rfl)) (pv 3)))))), ?_⟩
    refine ⟨_, rfl, p, rows, es.length, rfl, hR, hre, by omega, htot, fun H2 c s2 hc hcs => ?_⟩
    obtain ⟨ws, hw, pw, hwl⟩ := hcs.len
    have hlen := cellsOf_len hre
    have hnn := total_nn hre
    refine ⟨c, rfl, ⟨ws, SqL.of hw⟩, fun D hD => lc_list (K := K) (a := c) (xs := ws) (fun i H3 => Same H2 H3 ∧ H3 D = some (.lst (List.map V.int (((cellsOf rows).take i).map (valOf es)))))
      ⟨Same.new hD, upd_same⟩ (fun i H3 _ ⟨s3, _⟩ => SqL.of (s3 _ _ hw)) ?_ ?_⟩
    · rintro i x H3 hi ⟨s3, hd⟩
      obtain ⟨cl, hcl, q, rfl, hq⟩ := pairedAt pw hi
      have hq3 := s3 _ _ hq
      have il : i < (cellsOf rows).length := (List.getElem?_eq_some_iff.mp hcl).1
      have fin : ∀ z : Int, z = valOf es cl → ∃ acc, H3 D = some (.lst acc) ∧ acc.length < sizeLine ∧ Same H2 (upd H3 D (.lst (acc ++ [.int z]))) ∧ (upd H3 D (.lst (acc ++ [.int z]))) D = some (.lst (List.map V.int (((cellsOf rows).take (i + 1)).map (valOf es)))) := by
        intro z ez
        refine ⟨_, hd, sizeL (by rw [List.length_map, List.length_map, List.length_take]; omega), fun b o y => ?_, ?_⟩
        · rw [upd_ne (ne_of_none y hD)]; exact s3 _ _ y
        · rw [upd_same, take_snoc hcl, List.map_append, List.map_append, ez]; rfl
      rcases cells_fit hre cl (List.mem_of_getElem? hcl) with ⟨n, rfl, n0, n1⟩ | ⟨b, rfl, b0, b1⟩
      · refine ⟨q, _, rfl, SqT.of hq3, rfl, _, _, rfl, _, _, rfl, rfl, rfl, ?_⟩
        refine ⟨_, rfl, rfl, _, rfl, ite2 (fun _ => ?_) fun h => absurd (by decide) h⟩
        have jl : n.toNat < es.length := by omega
        refine ⟨_, rfl, _, rfl, o, _, _, _, rfl, rfl, SqL.of (s3 _ _ (s2 _ _ ho)), at_of (j := n.toNat) (by omega) (by rw [List.getElem?_map, List.getElem?_eq_getElem jl]; rfl), ?_⟩
        refine fin _ ?_
        show es[n.toNat] = es.getD n.toNat 0
        rw [List.getD_eq_getElem?_getD, List.getElem?_eq_getElem jl]
        rfl
      · refine ⟨q, _, rfl, SqT.of hq3, rfl, _, _, rfl, _, _, rfl, rfl, rfl, ?_⟩
        refine ⟨_, rfl, rfl, _, rfl, ite2 (fun h => absurd h (by decide)) fun _ => ?_⟩
        exact ⟨_, rfl, fin _ rfl⟩
    · rintro H3 ⟨s3, hd⟩
      rw [hwl, List.take_length] at hd
      exact k H3 D (s2.trans s3) (s2.free hD) hd
theorem ok_law (T : All K mg) {f : Addr} {fd : FuncData} (F : Fun K "law" "law" s_law f fd) : FnOk P w K mg base CX0 6 f fd ["_law_script"] (spLaw K) := by
  have G_law_dice : FnOk P w K mg base CX0 1 T.d_law_dice.f T.d_law_dice.fd ["_law_script"] (spDice K) := ok_law_dice T
  have G_law_bytes : FnOk P w K mg base CX0 2 T.d_law_bytes.f T.d_law_bytes.fd ["_law_d", "_law_most"] (spBytes K) := ok_law_bytes T
  have G_law_rows : FnOk P w K mg base CX0 2 T.d_law_rows.f T.d_law_rows.fd ["_law_d", "_law_count", "_law_most"] (spRows K) := ok_law_rows T
  have G_law_handed : FnOk P w K mg base CX0 3 T.d_law_handed.f T.d_law_handed.fd ["_law_rows_here"] spHanded := ok_law_handed T
  have G_numbers_of : FnOk P w K mg base CX0 1 T.d_numbers_of.f T.d_numbers_of.fd ["some"] spNumsOf := ok_numbers_of T
  have G_bytes_of : FnOk P w K mg base CX0 2 T.d_bytes_of.f T.d_bytes_of.fd ["numbers"] (spBytesOf K) := ok_bytes_of T
  have G_done : FnOk P w K mg base CX0 5 T.d_done.f T.d_done.fd ["patch", "edition"] spDone := ok_done T
  have G_law_new : FnOk P w K mg base CX0 2 T.d_law_new.f T.d_law_new.fd ["_law_rows_here", "_law_old"] spNew := ok_law_new T
  have G_law_like : FnOk P w K mg base CX0 3 T.d_law_like.f T.d_law_like.fd ["_law_found", "_law_due"] (spLike 3) := ok_law_like T 3
  have G_cells : FnOk P w K mg base CX0 4 T.d_cells.f T.d_cells.fd ["patch"] spCells := ok_cells T
  have G_law_cells : FnOk P w K mg base CX0 1 T.d_law_cells.f T.d_law_cells.fd ["_law_rows_here"] spLCells := ok_law_cells T
  have G_needs : FnOk P w K mg base CX0 4 T.d_needs.f T.d_needs.fd ["patch"] spNeeds := ok_needs T
  have G_makes : FnOk P w K mg base CX0 4 T.d_makes.f T.d_makes.fd ["patch"] spMakes := ok_makes T
  refine F.ok sc_law (fun vs H Q E h => ?_) (fun cdv A outer s H vs Q E hr h => ?_)
  · obtain ⟨a, ns, rfl, _⟩ := h
    rfl
  · obtain ⟨a, ns, rfl, hS, hl, k⟩ := h
    refine ⟨_, (pss_cons 
      (ps_set (i := 1) sc_law.nd rfl (Or.inl rfl) (pe_call G_law_dice (hr.mono (by decide)) rfl T.d_law_dice.m T.d_law_dice.F.kp T.d_law_dice.b .nil pass0 (pa_cons (pv 0) pa_nil))) (pss_cons 
      (ps_for PassesOwn.never rfl (pi_range1 (by rfl) T.b_range (pa_cons pe_int pa_nil)) (pg_name (i := 2) sc_law.nd rfl (Or.inl rfl)) (pss_cons 
      (ps_set (i := 3) sc_law.nd rfl (Or.inl rfl) (pe_call G_law_bytes (hr.mono (by decide)) rfl T.d_law_bytes.m T.d_law_bytes.F.kp T.d_law_bytes.b .nil pass0 (pa_cons (pv 1) (pa_cons pe_int pa_nil)))) (pss_cons 
      (ps_set (i := 4) sc_law.nd rfl (Or.inl rfl) (pe_call G_law_rows (hr.mono (by decide)) rfl T.d_law_rows.m T.d_law_rows.F.kp T.d_law_rows.b .nil pass0 (pa_cons (pv 1) (pa_cons (pe_callB call_len (by rfl) T.b_len PySem.boot_len (pa_cons (pv 3) pa_nil)) (pa_cons pe_int pa_nil))))) (pss_cons 
      (ps_set (i := 5) sc_law.nd rfl (Or.inl rfl) (pe_call G_law_handed (hr.mono (by decide)) rfl T.d_law_handed.m T.d_law_handed.F.kp T.d_law_handed.b .nil pass0 (pa_cons (pv 4) pa_nil))) (pss_cons 
      (ps_if (pt_cmpR (op_neD hr.units) (pe_call G_numbers_of (hr.mono (by decide)) rfl T.d_numbers_of.m T.d_numbers_of.F.kp T.d_numbers_of.b .nil pass0 (pa_cons (pe_call G_done (hr.mono (by decide)) rfl T.d_done.m T.d_done.F.kp T.d_done.b .nil pass0 (pa_cons (pv 5) (pa_cons (pe_call G_bytes_of (hr.mono (by decide)) rfl T.d_bytes_of.m T.d_bytes_of.F.kp T.d_bytes_of.b .nil pass0 (pa_cons (pv 3) pa_nil)) pa_nil))) pa_nil)) (pe_call G_law_new (hr.mono (by decide)) rfl T.d_law_new.m T.d_law_new.F.kp T.d_law_new.b .nil pass0 (pa_cons (pv 4) (pa_cons (pv 3) pa_nil))) (nomark _)) (pss_one 
      (ps_ret pe_bl)) pss_nil) (pss_cons 
      (ps_if (pt_not (pt_val (pe_call G_law_like (hr.mono (by decide)) rfl T.d_law_like.m T.d_law_like.F.kp T.d_law_like.b .nil pass0 (pa_cons (pe_call G_cells (hr.mono (by decide)) rfl T.d_cells.m T.d_cells.F.kp T.d_cells.b .nil pass0 (pa_cons (pv 5) pa_nil)) (pa_cons (pe_call G_law_cells (hr.mono (by decide)) rfl T.d_law_cells.m T.d_law_cells.F.kp T.d_law_cells.b .nil pass0 (pa_cons (pv 4) pa_nil)) pa_nil))))) (pss_one 
      (ps_ret pe_bl)) pss_nil) (pss_cons 
      (ps_setLc (i := 6) (own := [("_law_row", 7)]) (g := gName 7) rfl sc_law.nd rfl rfl (sw_true rfl rfl rfl (by decide +kernel)) (pi_list (pv 4)) (blkOk_by (own := [("_law_row", 7)]) (N := ["_law_script", "_law_d", "_law_turn", "_law_old", "_law_rows_here", "_law_handed_here", "_law_ends", "_law_row"]) (sc := defScope s_law) (by decide +kernel)) (fun _ _ _ _ _ => (pg_name (i := 7) sc_law.nd rfl (Or.inl rfl))) (fun _ _ _ _ _ => (pts_one (pt_cmpR op_eq (pe_ix (ixtK (K := K) rfl) (pv 7) pe_int (fun _ _ => rfl)) pe_str (nomark _)))) (fun _ _ _ _ _ => (pe_op op_add (pe_ix (ixtK (K := K) rfl) (pv 7) pe_int (fun _ _ => rfl)) (pe_ix (ixtK (K := K) rfl) (pv 7) pe_int (fun _ _ => rfl))))) (pss_one 
      (ps_if (PW.pt (pw_or (pt_cmpR op_ne (pe_call G_needs (hr.mono (by decide)) rfl T.d_needs.m T.d_needs.F.kp T.d_needs.b .nil pass0 (pa_cons (pv 5) pa_nil)) (pe_callB (cr_max rfl) (by rfl) T.b_max (by decide +kernel) (pa_cons (pe_op op_cat (pe_lst (pa_cons pe_int pa_nil)) (pv 6)) pa_nil)) (nomark _)) (pw_or1 (pt_cmpR op_ne (pe_call G_makes (hr.mono (by decide)) rfl T.d_makes.m T.d_makes.F.kp T.d_makes.b .nil pass0 (pa_cons (pv 5) pa_nil)) (pe_callB call_len (by rfl) T.b_len PySem.boot_len (pa_cons (pe_call G_law_cells (hr.mono (by decide)) rfl T.d_law_cells.m T.d_law_cells.F.kp T.d_law_cells.b .nil pass0 (pa_cons (pv 4) pa_nil)) pa_nil)) (nomark _))))) (pss_one 
      (ps_ret pe_bl)) pss_nil))))))))) (pss_one 
      (ps_ret pe_bl)))), ?_⟩
    refine ⟨_, rfl, a, ns, rfl, hS, hl, fun H1 d s1 hd D1 => ?_⟩
    refine ⟨3, rfl, by decide, by decide, for_range (lo := 0) (n := 3) (fun i σ H2 => ∃ v2 v3 v4 v5 v6 v7 : Option V, σ = [some (.ref a), some (.ref d), v2, v3, v4, v5, v6, v7] ∧ Dice K a ns H2 d)
      ⟨none, none, none, none, none, none, rfl, D1⟩ ?_ ?_⟩
    · rintro i σ H2 hi ⟨v2, v3, v4, v5, v6, v7, rfl, D2⟩
      -- the old edition, the rows, the patch
      refine ⟨_, rfl, a, ns, d, 200, rfl, D2, by decide, by decide, fun H3 o es b3 D3 ho ho3 hb hel => ?_⟩
      refine ⟨_, rfl, _, rfl, _, es.length, rfl, .inl ⟨_, SqL.of ho3, by rw [List.length_map]⟩, a, ns, d, es.length, 200, rfl, D3, by omega, by omega, by decide, by decide, fun H4 p rows b4 D4 hp hR hok htot => ?_⟩
      have ho4 := ints_but D3 b4 ho3
      have hlen := len_le_total hok
      refine ⟨_, rfl, p, rows, es.length, rfl, hR, hok, by omega, fun H5 v s5 hP => ?_⟩
      have hG : Good rows := ⟨fun r hr => Row.ok_mono (by omega) (hok r hr), htot⟩
      have ho5 := s5 _ _ ho4
      have hR5 := hR.same s5
      have hdl := done_len es hok
      -- done
      refine ⟨_, rfl, _, rfl, o, es, rfl, SqL.of ho5, hb, v, rows, es, rfl, hP, hG, hok, hb, by omega, fun H6 s6 => ⟨doneOf rows es, rfl, done_B8 hok hb, by omega, fun u hu => ?_⟩⟩
      have s56 : Same H5 (upd H6 u (.lst (List.map V.int (doneOf rows es)))) := s6.trans (Same.new hu)
      refine ⟨_, rfl, _, rfl, p, o, rows, es, rfl, hR5.same s56, hok, s56 _ _ ho5, by omega, by omega, fun H7 y s7 hy hy7 => ?_⟩
      refine ⟨_, _, dp_ints (s7 _ _ upd_same), dp_ints hy7, PySem.W.ke_shaped_ints _, PySem.W.ke_shaped_ints _, ?_⟩
      rw [eqv_ints]
      refine ⟨_, rfl, iteF ?_⟩
      -- cells
      have s57 : Same H5 H7 := s56.trans s7
      refine ⟨_, rfl, v, rows, rfl, hP.tups (Same.tups s57), hG, fun H8 c s8 hc hcs => ?_⟩
      have s58 := s57.trans s8
      refine ⟨_, rfl, p, rows, es.length, rfl, hR5.same s58, hok, by omega, by omega, fun H9 e s9 he hes => ?_⟩
      obtain ⟨ws, hw, pw, hwl⟩ := (hcs.same s9).len
      obtain ⟨us, hu9, pu, hul⟩ := hes.len
      have hcl := cellsOf_len hok
      refine ⟨.ref c, .ref e, rfl, .inr ⟨c, e, ws, us, rfl, rfl, .inr ⟨hw, hu9⟩, by omega, Alk.cells pw pu⟩, fun H10 s10 => ⟨_, rfl, iteF ?_⟩⟩
      have s5x := (s58.trans s9).trans s10
      -- the ends
      obtain ⟨vs, hv, hpr⟩ := hR5.same s5x
      refine ⟨_, rfl, p, rfl, ⟨vs, SqL.of hv⟩, fun E0 hE => lc_list (K := K) (a := p) (xs := vs) (fun i H11 => Same H10 H11 ∧ H11 E0 = some (.lst (List.map V.int (endsOf (rows.take i)))))
        ⟨Same.new hE, upd_same⟩ (fun i H11 _ ⟨s11, _⟩ => SqL.of (s11 _ _ hv)) ?_ ?_⟩
      · rintro j x H11 hj ⟨s11, he11⟩
        obtain ⟨r, hr1, hr2⟩ := pairedAt hpr hj
        have jl : j < rows.length := (List.getElem?_eq_some_iff.mp hr1).1
        have ll := ends_len (rows.take j)
        rw [List.length_take] at ll
        have e1 : endsOf (rows.take (j + 1)) = endsOf (rows.take j) ++ endsOf [r] := by rw [take_snoc hr1, ends_app]
        refine ⟨rfl, ?_⟩
        cases r with
        | copy b n =>
          obtain ⟨q, rfl, hq⟩ := hr2.same s11
          refine ⟨_, rfl, q, _, _, _, rfl, rfl, SqT.of hq, rfl, rfl, _, rfl, ite2 (fun _ => ?_) fun h => absurd (by decide) h⟩
          refine ⟨_, rfl, q, _, _, _, rfl, rfl, SqT.of hq, rfl, _, rfl, q, _, _, _, rfl, rfl, SqT.of hq, rfl, _, _, rfl, rfl, _, he11, sizeL (by rw [List.length_map]; omega), fun b o z => ?_, ?_⟩
          · rw [upd_ne (ne_of_none z hE)]; exact s11 _ _ z
          · rw [upd_same, e1, List.map_append]; rfl
        | run b n =>
          obtain ⟨q, rfl, hq⟩ := hr2.same s11
          refine ⟨_, rfl, q, _, _, _, rfl, rfl, SqT.of hq, rfl, rfl, _, rfl, ite2 (fun h => absurd h (by decide)) fun _ => ?_⟩
          exact ⟨s11, by rw [e1]; show H11 E0 = some (.lst (List.map V.int (endsOf (rows.take j) ++ []))); rw [List.append_nil]; exact he11⟩
        | bring bs =>
          obtain ⟨q, q', rfl, hq, _⟩ := hr2.same s11
          refine ⟨_, rfl, q, _, _, _, rfl, rfl, SqT.of hq, rfl, rfl, _, rfl, ite2 (fun h => absurd h (by decide)) fun _ => ?_⟩
          exact ⟨s11, by rw [e1]; show H11 E0 = some (.lst (List.map V.int (endsOf (rows.take j) ++ []))); rw [List.append_nil]; exact he11⟩
      · rintro H11 ⟨s11, he11⟩
        rw [Paired.length hpr, List.take_length] at he11
        have s5y := s5x.trans s11
        -- needs
        refine ⟨_, rfl, v, rows, rfl, hP.tups (Same.tups s5y), hG, fun H12 s12 => ?_⟩
        refine ⟨sizeS (by show 1 ≤ 100000; decide), fun l hl => ⟨_, rfl, l, E0, _, _, rfl, rfl, upd_same, Same.new hl _ _ (s12 _ _ he11), sizeS (by rw [List.length_map]; have := ends_len rows; show 1 + (endsOf rows).length ≤ 100000; omega), fun l2 hl2 => ?_⟩⟩
        refine ⟨l2, 0 :: endsOf rows, rfl, SqL.of upd_same, Nat.succ_pos _, fun m hm ht => ⟨rfl, ?_⟩⟩
        have em : needsOf rows = m := by
          rcases List.mem_cons.mp hm with rfl | hm
          · have hnn := top0_nn (endsOf rows)
            rcases top0_is (endsOf rows) with h | h
            · exact h
            · have := ht _ (List.mem_cons_of_mem _ h)
              show top0 (endsOf rows) = 0
              omega
          · exact (top0_eq hm (ends_pos hok m hm) fun y hy => ht y (List.mem_cons_of_mem _ hy)).symm
        refine ⟨_, rfl, iteNS (by rw [em]) ?_⟩
        have s5z : Same H5 (upd (upd H12 l (.lst [.int 0])) l2 (.lst ([.int 0] ++ List.map V.int (endsOf rows)))) := (s5y.trans s12).trans ((Same.new hl).trans (Same.new hl2))
        -- makes
        refine ⟨_, rfl, v, rows, rfl, hP.tups (Same.tups s5z), hG, fun H13 s13 => ?_⟩
        refine ⟨_, rfl, p, rows, es.length, rfl, (hR5.same s5z).same s13, hok, by omega, by omega, fun H14 g s14 hg hgs => ?_⟩
        obtain ⟨gs, hgl, pg, hgl'⟩ := hgs.len
        refine ⟨_, _, rfl, .inl ⟨gs, SqL.of hgl, rfl⟩, rfl, _, rfl, iteNS (by rw [hgl', hcl]) ?_⟩
        have D14 : Dice K a ns H14 d := ((D4.same s5).same ((s5z.trans s13).trans s14))
        exact ⟨_, _, _, _, _, _, rfl, D14⟩
    · rintro σ H2 ⟨v2, v3, v4, v5, v6, v7, rfl, D2⟩
      exact k H2
end
theorem all_mk {l : PySem.W.OpenLaw} {w : World} {K : PySem.W.Frag} {h : Heap} {mg : Str → Option Value} {fa f0 f1 f2 f3 f4 f5 f6 f7 f8 f9 f10 f11 f12 f13 f14 f15 f16 f17 f18 f19 f20 f21 : Addr} (X : K.In h) (G : h.Ns mainGlobals mg) (hfa : mg "law" = some (.ref fa))
    {od0 an0 od1 an1 od2 an2 od3 an3 od4 an4 od5 an5 od6 an6 od7 an7 od8 an8 od9 an9 od10 an10 od11 an11 od12 an12 od13 an13 od14 an14 od15 an15 od16 an16 od17 an17 od18 an18 od19 an19 od20 an20 od21 an21 : Option Addr} {sl0 sl1 sl2 sl3 sl4 sl5 sl6 sl7 sl8 sl9 sl10 sl11 sl12 sl13 sl14 sl15 sl16 sl17 sl18 sl19 sl20 sl21 : Array (Option Value)} {oc0 kV0 dc0 pm0 cd0 ct0 oc1 kV1 dc1 pm1 cd1 ct1 oc2 kV2 dc2 pm2 cd2 ct2 oc3 kV3 dc3 pm3 cd3 ct3 oc4 kV4 dc4 pm4 cd4 ct4 oc5 kV5 dc5 pm5 cd5 ct5 oc6 kV6 dc6 pm6 cd6 ct6 oc7 kV7 dc7 pm7 cd7 ct7 oc8 kV8 dc8 pm8 cd8 ct8 oc9 kV9 dc9 pm9 cd9 ct9 oc10 kV10 dc10 pm10 cd10 ct10 oc11 kV11 dc11 pm11 cd11 ct11 oc12 kV12 dc12 pm12 cd12 ct12 oc13 kV13 dc13 pm13 cd13 ct13 oc14 kV14 dc14 pm14 cd14 ct14 oc15 kV15 dc15 pm15 cd15 ct15 oc16 kV16 dc16 pm16 cd16 ct16 oc17 kV17 dc17 pm17 cd17 ct17 oc18 kV18 dc18 pm18 cd18 ct18 oc19 kV19 dc19 pm19 cd19 ct19 oc20 kV20 dc20 pm20 cd20 ct20 oc21 kV21 dc21 pm21 cd21 ct21 : Value}
    (a0 : PySem.W.nsIn K mainGlobals "bytes_of" = some (some (.ref f0)))
    (l0 : K.lookup f0 = some ⟨oc0, od0, .func (PySem.W.fnOf "bytes_of" "bytes_of" (defArgs s_bytes_of) (defBody s_bytes_of) (defScope s_bytes_of) .none kV0 dc0 pm0 an0 cd0 ct0), sl0⟩)
    (c0 : PySem.W.codeIn K cd0 "bytes_of" = true) (k0 : PySem.W.keepIn K (.ref f0) = true)
    (a1 : PySem.W.nsIn K mainGlobals "numbers_of" = some (some (.ref f1)))
    (l1 : K.lookup f1 = some ⟨oc1, od1, .func (PySem.W.fnOf "numbers_of" "numbers_of" (defArgs s_numbers_of) (defBody s_numbers_of) (defScope s_numbers_of) .none kV1 dc1 pm1 an1 cd1 ct1), sl1⟩)
    (c1 : PySem.W.codeIn K cd1 "numbers_of" = true) (k1 : PySem.W.keepIn K (.ref f1) = true)
    (a2 : PySem.W.nsIn K mainGlobals "is_number" = some (some (.ref f2)))
    (l2 : K.lookup f2 = some ⟨oc2, od2, .func (PySem.W.fnOf "is_number" "is_number" (defArgs s_is_number) (defBody s_is_number) (defScope s_is_number) .none kV2 dc2 pm2 an2 cd2 ct2), sl2⟩)
    (c2 : PySem.W.codeIn K cd2 "is_number" = true) (k2 : PySem.W.keepIn K (.ref f2) = true)
    (a3 : PySem.W.nsIn K mainGlobals "can_be" = some (some (.ref f3)))
    (l3 : K.lookup f3 = some ⟨oc3, od3, .func (PySem.W.fnOf "can_be" "can_be" (defArgs s_can_be) (defBody s_can_be) (defScope s_can_be) .none kV3 dc3 pm3 an3 cd3 ct3), sl3⟩)
    (c3 : PySem.W.codeIn K cd3 "can_be" = true) (k3 : PySem.W.keepIn K (.ref f3) = true)
    (a4 : PySem.W.nsIn K mainGlobals "length_of" = some (some (.ref f4)))
    (l4 : K.lookup f4 = some ⟨oc4, od4, .func (PySem.W.fnOf "length_of" "length_of" (defArgs s_length_of) (defBody s_length_of) (defScope s_length_of) .none kV4 dc4 pm4 an4 cd4 ct4), sl4⟩)
    (c4 : PySem.W.codeIn K cd4 "length_of" = true) (k4 : PySem.W.keepIn K (.ref f4) = true)
    (a5 : PySem.W.nsIn K mainGlobals "cells_of" = some (some (.ref f5)))
    (l5 : K.lookup f5 = some ⟨oc5, od5, .func (PySem.W.fnOf "cells_of" "cells_of" (defArgs s_cells_of) (defBody s_cells_of) (defScope s_cells_of) .none kV5 dc5 pm5 an5 cd5 ct5), sl5⟩)
    (c5 : PySem.W.codeIn K cd5 "cells_of" = true) (k5 : PySem.W.keepIn K (.ref f5) = true)
    (a6 : PySem.W.nsIn K mainGlobals "check_edition" = some (some (.ref f6)))
    (l6 : K.lookup f6 = some ⟨oc6, od6, .func (PySem.W.fnOf "check_edition" "check_edition" (defArgs s_check_edition) (defBody s_check_edition) (defScope s_check_edition) .none kV6 dc6 pm6 an6 cd6 ct6), sl6⟩)
    (c6 : PySem.W.codeIn K cd6 "check_edition" = true) (k6 : PySem.W.keepIn K (.ref f6) = true)
    (a7 : PySem.W.nsIn K mainGlobals "check_patch" = some (some (.ref f7)))
    (l7 : K.lookup f7 = some ⟨oc7, od7, .func (PySem.W.fnOf "check_patch" "check_patch" (defArgs s_check_patch) (defBody s_check_patch) (defScope s_check_patch) .none kV7 dc7 pm7 an7 cd7 ct7), sl7⟩)
    (c7 : PySem.W.codeIn K cd7 "check_patch" = true) (k7 : PySem.W.keepIn K (.ref f7) = true)
    (a8 : PySem.W.nsIn K mainGlobals "check_reach" = some (some (.ref f8)))
    (l8 : K.lookup f8 = some ⟨oc8, od8, .func (PySem.W.fnOf "check_reach" "check_reach" (defArgs s_check_reach) (defBody s_check_reach) (defScope s_check_reach) .none kV8 dc8 pm8 an8 cd8 ct8), sl8⟩)
    (c8 : PySem.W.codeIn K cd8 "check_reach" = true) (k8 : PySem.W.keepIn K (.ref f8) = true)
    (a9 : PySem.W.nsIn K mainGlobals "done" = some (some (.ref f9)))
    (l9 : K.lookup f9 = some ⟨oc9, od9, .func (PySem.W.fnOf "done" "done" (defArgs s_done) (defBody s_done) (defScope s_done) .none kV9 dc9 pm9 an9 cd9 ct9), sl9⟩)
    (c9 : PySem.W.codeIn K cd9 "done" = true) (k9 : PySem.W.keepIn K (.ref f9) = true)
    (a10 : PySem.W.nsIn K mainGlobals "needs" = some (some (.ref f10)))
    (l10 : K.lookup f10 = some ⟨oc10, od10, .func (PySem.W.fnOf "needs" "needs" (defArgs s_needs) (defBody s_needs) (defScope s_needs) .none kV10 dc10 pm10 an10 cd10 ct10), sl10⟩)
    (c10 : PySem.W.codeIn K cd10 "needs" = true) (k10 : PySem.W.keepIn K (.ref f10) = true)
    (a11 : PySem.W.nsIn K mainGlobals "makes" = some (some (.ref f11)))
    (l11 : K.lookup f11 = some ⟨oc11, od11, .func (PySem.W.fnOf "makes" "makes" (defArgs s_makes) (defBody s_makes) (defScope s_makes) .none kV11 dc11 pm11 an11 cd11 ct11), sl11⟩)
    (c11 : PySem.W.codeIn K cd11 "makes" = true) (k11 : PySem.W.keepIn K (.ref f11) = true)
    (a12 : PySem.W.nsIn K mainGlobals "cells" = some (some (.ref f12)))
    (l12 : K.lookup f12 = some ⟨oc12, od12, .func (PySem.W.fnOf "cells" "cells" (defArgs s_cells) (defBody s_cells) (defScope s_cells) .none kV12 dc12 pm12 an12 cd12 ct12), sl12⟩)
    (c12 : PySem.W.codeIn K cd12 "cells" = true) (k12 : PySem.W.keepIn K (.ref f12) = true)
    (a13 : PySem.W.nsIn K mainGlobals "_law_dice" = some (some (.ref f13)))
    (l13 : K.lookup f13 = some ⟨oc13, od13, .func (PySem.W.fnOf "_law_dice" "_law_dice" (defArgs s_law_dice) (defBody s_law_dice) (defScope s_law_dice) .none kV13 dc13 pm13 an13 cd13 ct13), sl13⟩)
    (c13 : PySem.W.codeIn K cd13 "_law_dice" = true) (k13 : PySem.W.keepIn K (.ref f13) = true)
    (a14 : PySem.W.nsIn K mainGlobals "_law_next" = some (some (.ref f14)))
    (l14 : K.lookup f14 = some ⟨oc14, od14, .func (PySem.W.fnOf "_law_next" "_law_next" (defArgs s_law_next) (defBody s_law_next) (defScope s_law_next) .none kV14 dc14 pm14 an14 cd14 ct14), sl14⟩)
    (c14 : PySem.W.codeIn K cd14 "_law_next" = true) (k14 : PySem.W.keepIn K (.ref f14) = true)
    (a15 : PySem.W.nsIn K mainGlobals "_law_like" = some (some (.ref f15)))
    (l15 : K.lookup f15 = some ⟨oc15, od15, .func (PySem.W.fnOf "_law_like" "_law_like" (defArgs s_law_like) (defBody s_law_like) (defScope s_law_like) .none kV15 dc15 pm15 an15 cd15 ct15), sl15⟩)
    (c15 : PySem.W.codeIn K cd15 "_law_like" = true) (k15 : PySem.W.keepIn K (.ref f15) = true)
    (a16 : PySem.W.nsIn K mainGlobals "_law_bytes" = some (some (.ref f16)))
    (l16 : K.lookup f16 = some ⟨oc16, od16, .func (PySem.W.fnOf "_law_bytes" "_law_bytes" (defArgs s_law_bytes) (defBody s_law_bytes) (defScope s_law_bytes) .none kV16 dc16 pm16 an16 cd16 ct16), sl16⟩)
    (c16 : PySem.W.codeIn K cd16 "_law_bytes" = true) (k16 : PySem.W.keepIn K (.ref f16) = true)
    (a17 : PySem.W.nsIn K mainGlobals "_law_rows" = some (some (.ref f17)))
    (l17 : K.lookup f17 = some ⟨oc17, od17, .func (PySem.W.fnOf "_law_rows" "_law_rows" (defArgs s_law_rows) (defBody s_law_rows) (defScope s_law_rows) .none kV17 dc17 pm17 an17 cd17 ct17), sl17⟩)
    (c17 : PySem.W.codeIn K cd17 "_law_rows" = true) (k17 : PySem.W.keepIn K (.ref f17) = true)
    (a18 : PySem.W.nsIn K mainGlobals "_law_handed" = some (some (.ref f18)))
    (l18 : K.lookup f18 = some ⟨oc18, od18, .func (PySem.W.fnOf "_law_handed" "_law_handed" (defArgs s_law_handed) (defBody s_law_handed) (defScope s_law_handed) .none kV18 dc18 pm18 an18 cd18 ct18), sl18⟩)
    (c18 : PySem.W.codeIn K cd18 "_law_handed" = true) (k18 : PySem.W.keepIn K (.ref f18) = true)
    (a19 : PySem.W.nsIn K mainGlobals "_law_cells" = some (some (.ref f19)))
    (l19 : K.lookup f19 = some ⟨oc19, od19, .func (PySem.W.fnOf "_law_cells" "_law_cells" (defArgs s_law_cells) (defBody s_law_cells) (defScope s_law_cells) .none kV19 dc19 pm19 an19 cd19 ct19), sl19⟩)
    (c19 : PySem.W.codeIn K cd19 "_law_cells" = true) (k19 : PySem.W.keepIn K (.ref f19) = true)
    (a20 : PySem.W.nsIn K mainGlobals "_law_new" = some (some (.ref f20)))
    (l20 : K.lookup f20 = some ⟨oc20, od20, .func (PySem.W.fnOf "_law_new" "_law_new" (defArgs s_law_new) (defBody s_law_new) (defScope s_law_new) .none kV20 dc20 pm20 an20 cd20 ct20), sl20⟩)
    (c20 : PySem.W.codeIn K cd20 "_law_new" = true) (k20 : PySem.W.keepIn K (.ref f20) = true)
    (a21 : PySem.W.nsIn K mainGlobals "law" = some (some (.ref f21)))
    (l21 : K.lookup f21 = some ⟨oc21, od21, .func (PySem.W.fnOf "law" "law" (defArgs s_law) (defBody s_law) (defScope s_law) .none kV21 dc21 pm21 an21 cd21 ct21), sl21⟩)
    (c21 : PySem.W.codeIn K cd21 "law" = true) (k21 : PySem.W.keepIn K (.ref f21) = true)
    {t0 : Tok} (z0 : PySem.W.nsIn K mainGlobals "MOST" = some (some (.int 200 t0)))
    {t1 : Tok} (z1 : PySem.W.nsIn K mainGlobals "LAST_BYTE" = some (some (.int 255 t1)))
    (y_bool : PySem.W.nsIn K mainGlobals "bool" = some none)
    (y_bytes : PySem.W.nsIn K mainGlobals "bytes" = some none)
    (y_enumerate : PySem.W.nsIn K mainGlobals "enumerate" = some none)
    (y_int : PySem.W.nsIn K mainGlobals "int" = some none)
    (y_isinstance : PySem.W.nsIn K mainGlobals "isinstance" = some none)
    (y_len : PySem.W.nsIn K mainGlobals "len" = some none)
    (y_list : PySem.W.nsIn K mainGlobals "list" = some none)
    (y_max : PySem.W.nsIn K mainGlobals "max" = some none)
    (y_min : PySem.W.nsIn K mainGlobals "min" = some none)
    (y_range : PySem.W.nsIn K mainGlobals "range" = some none)
    (y_str : PySem.W.nsIn K mainGlobals "str" = some none)
    (y_sum : PySem.W.nsIn K mainGlobals "sum" = some none)
    (y_tuple : PySem.W.nsIn K mainGlobals "tuple" = some none)
    : ∃ fd : FuncData, (∀ (s : Shared) (v : Value), BindsTo s fd ⟨[v], []⟩ [("_law_script", v)]) ∧ ∀ base : Heap, K.In base → base.Ns mainGlobals mg → FnOk l.prog w K mg base CX0 6 fa fd ["_law_script"] (spLaw K) := by
  have e := hfa.symm.trans (PySem.W.mg_of X G a21)
  cases e
  have F0 := fun_mk (st := s_bytes_of) l0 c0 k0
  have b0 := F0.binds (ps := ["numbers"]) fun _ _ _ _ _ _ us hl => match us, hl with | [_], _ => rfl
  have F1 := fun_mk (st := s_numbers_of) l1 c1 k1
  have b1 := F1.binds (ps := ["some"]) fun _ _ _ _ _ _ us hl => match us, hl with | [_], _ => rfl
  have F2 := fun_mk (st := s_is_number) l2 c2 k2
  have b2 := F2.binds (ps := ["what", "least", "most"]) fun _ _ _ _ _ _ us hl => match us, hl with | [_, _, _], _ => rfl
  have F3 := fun_mk (st := s_can_be) l3 c3 k3
  have b3 := F3.binds (ps := ["piece"]) fun _ _ _ _ _ _ us hl => match us, hl with | [_], _ => rfl
  have F4 := fun_mk (st := s_length_of) l4 c4 k4
  have b4 := F4.binds (ps := ["piece"]) fun _ _ _ _ _ _ us hl => match us, hl with | [_], _ => rfl
  have F5 := fun_mk (st := s_cells_of) l5 c5 k5
  have b5 := F5.binds (ps := ["piece"]) fun _ _ _ _ _ _ us hl => match us, hl with | [_], _ => rfl
  have F6 := fun_mk (st := s_check_edition) l6 c6 k6
  have b6 := F6.binds (ps := ["edition"]) fun _ _ _ _ _ _ us hl => match us, hl with | [_], _ => rfl
  have F7 := fun_mk (st := s_check_patch) l7 c7 k7
  have b7 := F7.binds (ps := ["patch"]) fun _ _ _ _ _ _ us hl => match us, hl with | [_], _ => rfl
  have F8 := fun_mk (st := s_check_reach) l8 c8 k8
  have b8 := F8.binds (ps := ["patch", "edition"]) fun _ _ _ _ _ _ us hl => match us, hl with | [_, _], _ => rfl
  have F9 := fun_mk (st := s_done) l9 c9 k9
  have b9 := F9.binds (ps := ["patch", "edition"]) fun _ _ _ _ _ _ us hl => match us, hl with | [_, _], _ => rfl
  have F10 := fun_mk (st := s_needs) l10 c10 k10
  have b10 := F10.binds (ps := ["patch"]) fun _ _ _ _ _ _ us hl => match us, hl with | [_], _ => rfl
  have F11 := fun_mk (st := s_makes) l11 c11 k11
  have b11 := F11.binds (ps := ["patch"]) fun _ _ _ _ _ _ us hl => match us, hl with | [_], _ => rfl
  have F12 := fun_mk (st := s_cells) l12 c12 k12
  have b12 := F12.binds (ps := ["patch"]) fun _ _ _ _ _ _ us hl => match us, hl with | [_], _ => rfl
  have F13 := fun_mk (st := s_law_dice) l13 c13 k13
  have b13 := F13.binds (ps := ["_law_script"]) fun _ _ _ _ _ _ us hl => match us, hl with | [_], _ => rfl
  have F14 := fun_mk (st := s_law_next) l14 c14 k14
  have b14 := F14.binds (ps := ["_law_dice_here", "_law_many"]) fun _ _ _ _ _ _ us hl => match us, hl with | [_, _], _ => rfl
  have F15 := fun_mk (st := s_law_like) l15 c15 k15
  have b15 := F15.binds (ps := ["_law_found", "_law_due"]) fun _ _ _ _ _ _ us hl => match us, hl with | [_, _], _ => rfl
  have F16 := fun_mk (st := s_law_bytes) l16 c16 k16
  have b16 := F16.binds (ps := ["_law_d", "_law_most"]) fun _ _ _ _ _ _ us hl => match us, hl with | [_, _], _ => rfl
  have F17 := fun_mk (st := s_law_rows) l17 c17 k17
  have b17 := F17.binds (ps := ["_law_d", "_law_count", "_law_most"]) fun _ _ _ _ _ _ us hl => match us, hl with | [_, _, _], _ => rfl
  have F18 := fun_mk (st := s_law_handed) l18 c18 k18
  have b18 := F18.binds (ps := ["_law_rows_here"]) fun _ _ _ _ _ _ us hl => match us, hl with | [_], _ => rfl
  have F19 := fun_mk (st := s_law_cells) l19 c19 k19
  have b19 := F19.binds (ps := ["_law_rows_here"]) fun _ _ _ _ _ _ us hl => match us, hl with | [_], _ => rfl
  have F20 := fun_mk (st := s_law_new) l20 c20 k20
  have b20 := F20.binds (ps := ["_law_rows_here", "_law_old"]) fun _ _ _ _ _ _ us hl => match us, hl with | [_, _], _ => rfl
  have F21 := fun_mk (st := s_law) l21 c21 k21
  have T : All K mg := ⟨⟨f0, _, F0, PySem.W.mg_of X G a0, b0⟩, ⟨f1, _, F1, PySem.W.mg_of X G a1, b1⟩, ⟨f2, _, F2, PySem.W.mg_of X G a2, b2⟩, ⟨f3, _, F3, PySem.W.mg_of X G a3, b3⟩, ⟨f4, _, F4, PySem.W.mg_of X G a4, b4⟩, ⟨f5, _, F5, PySem.W.mg_of X G a5, b5⟩, ⟨f6, _, F6, PySem.W.mg_of X G a6, b6⟩, ⟨f7, _, F7, PySem.W.mg_of X G a7, b7⟩, ⟨f8, _, F8, PySem.W.mg_of X G a8, b8⟩, ⟨f9, _, F9, PySem.W.mg_of X G a9, b9⟩, ⟨f10, _, F10, PySem.W.mg_of X G a10, b10⟩, ⟨f11, _, F11, PySem.W.mg_of X G a11, b11⟩, ⟨f12, _, F12, PySem.W.mg_of X G a12, b12⟩, ⟨f13, _, F13, PySem.W.mg_of X G a13, b13⟩, ⟨f14, _, F14, PySem.W.mg_of X G a14, b14⟩, ⟨f15, _, F15, PySem.W.mg_of X G a15, b15⟩, ⟨f16, _, F16, PySem.W.mg_of X G a16, b16⟩, ⟨f17, _, F17, PySem.W.mg_of X G a17, b17⟩, ⟨f18, _, F18, PySem.W.mg_of X G a18, b18⟩, ⟨f19, _, F19, PySem.W.mg_of X G a19, b19⟩, ⟨f20, _, F20, PySem.W.mg_of X G a20, b20⟩, t0, PySem.W.mg_of X G z0, t1, PySem.W.mg_of X G z1, PySem.W.mg_none_of X G y_bool, PySem.W.mg_none_of X G y_bytes, PySem.W.mg_none_of X G y_enumerate, PySem.W.mg_none_of X G y_int, PySem.W.mg_none_of X G y_isinstance, PySem.W.mg_none_of X G y_len, PySem.W.mg_none_of X G y_list, PySem.W.mg_none_of X G y_max, PySem.W.mg_none_of X G y_min, PySem.W.mg_none_of X G y_range, PySem.W.mg_none_of X G y_str, PySem.W.mg_none_of X G y_sum, PySem.W.mg_none_of X G y_tuple⟩
  exact ⟨PySem.W.fnOf "law" "law" (defArgs s_law) (defBody s_law) (defScope s_law) .none kV21 dc21 pm21 an21 cd21 ct21, fun s v => .of_eq rfl, fun base _ _ => ok_law T F21⟩
theorem walk {l : PySem.W.OpenLaw} {q : Program} {loose : List Str} {XP : (Str → Option Value) → Heap → Prop} {YP : World → Heap → Prop} {d : DefRec} {K : Params → PySem.W.Frag} (hn : l.most = some 63) (hdf : d.params.defaults = [])
    (hY : ∀ (w : World) (h : Heap), YP w h → (K w.params).In h)
    (F : ∀ (w : World) (mg : Str → Option Value) (fa : Addr) (h : Heap), (K w.params).In h → h.Ns mainGlobals mg → mg d.name = some (.ref fa) →
      ∃ fd : FuncData, (∀ (s : Shared) (u : Value), BindsTo s fd ⟨[u], []⟩ [("_law_script", u)]) ∧ ∀ base : Heap, (K w.params).In base → base.Ns mainGlobals mg → FnOk l.prog w (K w.params) mg base CX0 6 fa fd ["_law_script"] (spLaw (K w.params))) :
    PySem.W.WalkO q loose XP YP l.row.toRowW d [] (fun f vs => PySem.call f vs) :=
  L2.walk_of (n := 63) (k := 6) (x := "_law_script") (CX := fun _ => CX0) (sp := fun w => spLaw (K w.params)) hn (by decide) hdf ⟨rfl, by decide, by decide⟩ hY F (fun _ _ a ns hl _ hS => ⟨a, ns, rfl, hS, hl, fun _ => rfl⟩) fun _ _ _ _ _ z => z
end My
open PySem PySem.W PyProof.Rows
set_option maxRecDepth 100000 in
set_option maxHeartbeats 0 in
theorem PySem.Challenge.cw_patchover_k03_done_told_holds : PySem.Challenge.rw_patchover_k03_done_told.Holds := by
  w_on; o_law; k_head; (case hw => w_witness2)
  k_fill
  first | refine My.walk (l := PySem.Challenge.rw_patchover_k03_done_told) rfl rfl (fun w h Y => PySem.W.kIn_of Y) ?F | refine My.walk (l := PySem.Challenge.rw_patchover_k03_done_told) rfl rfl (fun w h Y => PySem.W.km_in_of Y) ?F
  case F =>
    intro w mg fa h KX G hmg
    refine' My.all_mk KX G hmg ?a0 ?l0 ?c0 ?k0 ?a1 ?l1 ?c1 ?k1 ?a2 ?l2 ?c2 ?k2 ?a3 ?l3 ?c3 ?k3 ?a4 ?l4 ?c4 ?k4 ?a5 ?l5 ?c5 ?k5 ?a6 ?l6 ?c6 ?k6 ?a7 ?l7 ?c7 ?k7 ?a8 ?l8 ?c8 ?k8 ?a9 ?l9 ?c9 ?k9 ?a10 ?l10 ?c10 ?k10 ?a11 ?l11 ?c11 ?k11 ?a12 ?l12 ?c12 ?k12 ?a13 ?l13 ?c13 ?k13 ?a14 ?l14 ?c14 ?k14 ?a15 ?l15 ?c15 ?k15 ?a16 ?l16 ?c16 ?k16 ?a17 ?l17 ?c17 ?k17 ?a18 ?l18 ?c18 ?k18 ?a19 ?l19 ?c19 ?k19 ?a20 ?l20 ?c20 ?k20 ?a21 ?l21 ?c21 ?k21 ?z0 ?z1 ?y_bool ?y_bytes ?y_enumerate ?y_int ?y_isinstance ?y_len ?y_list ?y_max ?y_min ?y_range ?y_str ?y_sum ?y_tuple
    (case a0 => k_is)
    (case l0 => k_is)
    (case c0 => k_is)
    (case k0 => k_is)
    (case a1 => k_is)
    (case l1 => k_is)
    (case c1 => k_is)
    (case k1 => k_is)
    (case a2 => k_is)
    (case l2 => k_is)
    (case c2 => k_is)
    (case k2 => k_is)
    (case a3 => k_is)
    (case l3 => k_is)
    (case c3 => k_is)
    (case k3 => k_is)
    (case a4 => k_is)
    (case l4 => k_is)
    (case c4 => k_is)
    (case k4 => k_is)
    (case a5 => k_is)
    (case l5 => k_is)
    (case c5 => k_is)
    (case k5 => k_is)
    (case a6 => k_is)
    (case l6 => k_is)
    (case c6 => k_is)
    (case k6 => k_is)
    (case a7 => k_is)
    (case l7 => k_is)
    (case c7 => k_is)
    (case k7 => k_is)
    (case a8 => k_is)
    (case l8 => k_is)
    (case c8 => k_is)
    (case k8 => k_is)
    (case a9 => k_is)
    (case l9 => k_is)
    (case c9 => k_is)
    (case k9 => k_is)
    (case a10 => k_is)
    (case l10 => k_is)
    (case c10 => k_is)
    (case k10 => k_is)
    (case a11 => k_is)
    (case l11 => k_is)
    (case c11 => k_is)
    (case k11 => k_is)
    (case a12 => k_is)
    (case l12 => k_is)
    (case c12 => k_is)
    (case k12 => k_is)
    (case a13 => k_is)
    (case l13 => k_is)
    (case c13 => k_is)
    (case k13 => k_is)
    (case a14 => k_is)
    (case l14 => k_is)
    (case c14 => k_is)
    (case k14 => k_is)
    (case a15 => k_is)
    (case l15 => k_is)
    (case c15 => k_is)
    (case k15 => k_is)
    (case a16 => k_is)
    (case l16 => k_is)
    (case c16 => k_is)
    (case k16 => k_is)
    (case a17 => k_is)
    (case l17 => k_is)
    (case c17 => k_is)
    (case k17 => k_is)
    (case a18 => k_is)
    (case l18 => k_is)
    (case c18 => k_is)
    (case k18 => k_is)
    (case a19 => k_is)
    (case l19 => k_is)
    (case c19 => k_is)
    (case k19 => k_is)
    (case a20 => k_is)
    (case l20 => k_is)
    (case c20 => k_is)
    (case k20 => k_is)
    (case a21 => k_is)
    (case l21 => k_is)
    (case c21 => k_is)
    (case k21 => k_is)
    (case z0 => k_is)
    (case z1 => k_is)
    (case y_bool => k_is)
    (case y_bytes => k_is)
    (case y_enumerate => k_is)
    (case y_int => k_is)
    (case y_isinstance => k_is)
    (case y_len => k_is)
    (case y_list => k_is)
    (case y_max => k_is)
    (case y_min => k_is)
    (case y_range => k_is)
    (case y_str => k_is)
    (case y_sum => k_is)
    (case y_tuple => k_is)
