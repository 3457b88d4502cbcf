import PyProof.Rows.All
import Wide.All
import OpenK.AllK
import Wide.FinOn
import HandS.ForMost
import HandS.More
import HandS.IsInst
import HandS.Bytes
import HandS.Walk
import HandS.TupAny
import HandS.Style
import HandS.SortKw
import KE.GoesEnum
import KE.KMinKey
import HandS.WideBits
import HandS.Strs
import HandS.ToBytes
import PyProof.SumWalkG
import KE.KBytesWalk
import HandS.Star
import KE.LtSeq
import KE.DataMinMax
import KE.KBytesEq
import KE.KBytesFind
import HandS.Bytes
import HandS.ToBytes
import HandS.RevRange
import PySem.Challenge.RW_patchover_k08_least_by_all
set_option Elab.async false
set_option linter.all false
set_option maxRecDepth 100000
set_option maxHeartbeats 4000000
namespace My
open PySem PySem.Spec PyProof.Rows L2
/-! ### the text by places -/
def top (i : Nat) : Stmt := PySem.Challenge.pw_patchover_k08_least_by_all.main.body.getD i (.Pass ⟨0, 0, 0, 0⟩)
abbrev s_bytes_of : Stmt := top 8
theorem sc_bytes_of : FnScope ["numbers", "number"] ["numbers"] (defScope s_bytes_of) := ⟨rfl, rfl, rfl, by decide +kernel, rfl, by decide +kernel, by decide +kernel⟩
abbrev s_numbers_of : Stmt := top 9
theorem sc_numbers_of : FnScope ["some"] ["some"] (defScope s_numbers_of) := ⟨rfl, rfl, rfl, by decide +kernel, rfl, by decide +kernel, by decide +kernel⟩
abbrev s_is_number : Stmt := top 10
theorem sc_is_number : FnScope ["what", "least", "most"] ["what", "least", "most"] (defScope s_is_number) := ⟨rfl, rfl, rfl, by decide +kernel, rfl, by decide +kernel, by decide +kernel⟩
abbrev s_can_be : Stmt := top 11
theorem sc_can_be : FnScope ["piece", "word", "some", "first", "many"] ["piece"] (defScope s_can_be) := ⟨rfl, rfl, rfl, by decide +kernel, rfl, by decide +kernel, by decide +kernel⟩
abbrev s_length_of : Stmt := top 12
theorem sc_length_of : FnScope ["piece"] ["piece"] (defScope s_length_of) := ⟨rfl, rfl, rfl, by decide +kernel, rfl, by decide +kernel, by decide +kernel⟩
abbrev s_check_edition : Stmt := top 13
theorem sc_check_edition : FnScope ["edition"] ["edition"] (defScope s_check_edition) := ⟨rfl, rfl, rfl, by decide +kernel, rfl, by decide +kernel, by decide +kernel⟩
abbrev s_check_patch : Stmt := top 14
theorem sc_check_patch : FnScope ["patch", "total", "at", "piece"] ["patch"] (defScope s_check_patch) := ⟨rfl, rfl, rfl, by decide +kernel, rfl, by decide +kernel, by decide +kernel⟩
abbrev s_size : Stmt := top 19
theorem sc_size : FnScope ["patch", "piece"] ["patch"] (defScope s_size) := ⟨rfl, rfl, rfl, by decide +kernel, rfl, by decide +kernel, by decide +kernel⟩
abbrev s_number_size : Stmt := top 20
theorem sc_number_size : FnScope ["number"] ["number"] (defScope s_number_size) := ⟨rfl, rfl, rfl, by decide +kernel, rfl, by decide +kernel, by decide +kernel⟩
abbrev s_first_number : Stmt := top 21
theorem sc_first_number : FnScope ["piece"] ["piece"] (defScope s_first_number) := ⟨rfl, rfl, rfl, by decide +kernel, rfl, by decide +kernel, by decide +kernel⟩
abbrev s_piece_size : Stmt := top 22
theorem sc_piece_size : FnScope ["piece", "many"] ["piece"] (defScope s_piece_size) := ⟨rfl, rfl, rfl, by decide +kernel, rfl, by decide +kernel, by decide +kernel⟩
abbrev s_least : Stmt := top 24
theorem sc_least : FnScope ["old", "new", "sizes", "firsts", "at", "piece"] ["old", "new"] (defScope s_least) := ⟨rfl, rfl, rfl, by decide +kernel, rfl, by decide +kernel, by decide +kernel⟩
abbrev s_one_behind_the_other : Stmt := top 25
theorem sc_one_behind_the_other : FnScope ["firsts", "patch", "at"] ["firsts"] (defScope s_one_behind_the_other) := ⟨rfl, rfl, rfl, by decide +kernel, rfl, by decide +kernel, by decide +kernel⟩
abbrev s_next_pieces : Stmt := top 26
theorem sc_next_pieces : FnScope ["old", "new", "at", "found", "end"] ["old", "new", "at"] (defScope s_next_pieces) := ⟨rfl, rfl, rfl, by decide +kernel, rfl, by decide +kernel, by decide +kernel⟩
abbrev s_next_copies : Stmt := top 27
theorem sc_next_copies : FnScope ["old", "new", "at", "found", "end", "begin"] ["old", "new", "at"] (defScope s_next_copies) := ⟨rfl, rfl, rfl, by decide +kernel, rfl, by decide +kernel, by decide +kernel⟩
abbrev s_next_runs : Stmt := top 28
theorem sc_next_runs : FnScope ["new", "at", "found", "end"] ["new", "at"] (defScope s_next_runs) := ⟨rfl, rfl, rfl, by decide +kernel, rfl, by decide +kernel, by decide +kernel⟩
abbrev s_law_dice : Stmt := top 30
theorem sc_law_dice : FnScope ["_law_script", "_law_mixed", "_law_cell"] ["_law_script"] (defScope s_law_dice) := ⟨rfl, rfl, rfl, by decide +kernel, rfl, by decide +kernel, by decide +kernel⟩
abbrev s_law_next : Stmt := top 31
theorem sc_law_next : FnScope ["_law_dice_here", "_law_many", "_law_found", "_law_cell"] ["_law_dice_here", "_law_many"] (defScope s_law_next) := ⟨rfl, rfl, rfl, by decide +kernel, rfl, by decide +kernel, by decide +kernel⟩
abbrev s_law_like : Stmt := top 32
theorem sc_law_like : FnScope ["_law_found", "_law_due", "_law_k"] ["_law_found", "_law_due"] (defScope s_law_like) := ⟨rfl, rfl, rfl, by decide +kernel, rfl, by decide +kernel, by decide +kernel⟩
abbrev s_law_bytes : Stmt := top 33
theorem sc_law_bytes : FnScope ["_law_d", "_law_most", "_law_kinds", "_law_k"] ["_law_d", "_law_most"] (defScope s_law_bytes) := ⟨rfl, rfl, rfl, by decide +kernel, rfl, by decide +kernel, by decide +kernel⟩
abbrev s_law_is_patch : Stmt := top 34
theorem sc_law_is_patch : FnScope ["_law_told", "_law_rows", "_law_one", "_law_row"] ["_law_told", "_law_rows"] (defScope s_law_is_patch) := ⟨rfl, rfl, rfl, by decide +kernel, rfl, by decide +kernel, by decide +kernel⟩
abbrev s_law_every : Stmt := top 35
theorem sc_law_every : FnScope ["_law_old", "_law_new_one", "_law_found", "_law_n", "_law_k", "_law_heads", "_law_at", "_law_rest", "_law_head", "_law_row"] ["_law_old", "_law_new_one"] (defScope s_law_every) := ⟨rfl, rfl, rfl, by decide +kernel, rfl, by decide +kernel, by decide +kernel⟩
abbrev s_law : Stmt := top 36
theorem sc_law : FnScope ["_law_script", "_law_d", "_law_old", "_law_new_one", "_law_k", "_law_best", "_law_rows", "_law_row", "_law_handed"] ["_law_script"] (defScope s_law) := ⟨rfl, rfl, rfl, by decide +kernel, rfl, by decide +kernel, by decide +kernel⟩
structure Df (K : PySem.W.Frag) (mg : Str → Option Value) (x : Str) (st : Stmt) (ps : List Str) where
  f : Addr
  fd : FuncData
  F : Fun K x x st f fd
  m : mg x = some (.ref f)
  b : Binds K fd ps []
structure All (K : PySem.W.Frag) (mg : Str → Option Value) where
  d_bytes_of : Df K mg "bytes_of" s_bytes_of ["numbers"]
  d_numbers_of : Df K mg "numbers_of" s_numbers_of ["some"]
  d_is_number : Df K mg "is_number" s_is_number ["what", "least", "most"]
  d_can_be : Df K mg "can_be" s_can_be ["piece"]
  d_length_of : Df K mg "length_of" s_length_of ["piece"]
  d_check_edition : Df K mg "check_edition" s_check_edition ["edition"]
  d_check_patch : Df K mg "check_patch" s_check_patch ["patch"]
  d_size : Df K mg "size" s_size ["patch"]
  d_number_size : Df K mg "number_size" s_number_size ["number"]
  d_first_number : Df K mg "first_number" s_first_number ["piece"]
  d_piece_size : Df K mg "piece_size" s_piece_size ["piece"]
  d_least : Df K mg "least" s_least ["old", "new"]
  d_one_behind_the_other : Df K mg "one_behind_the_other" s_one_behind_the_other ["firsts"]
  d_next_pieces : Df K mg "next_pieces" s_next_pieces ["old", "new", "at"]
  d_next_copies : Df K mg "next_copies" s_next_copies ["old", "new", "at"]
  d_next_runs : Df K mg "next_runs" s_next_runs ["new", "at"]
  d_law_dice : Df K mg "_law_dice" s_law_dice ["_law_script"]
  d_law_next : Df K mg "_law_next" s_law_next ["_law_dice_here", "_law_many"]
  d_law_like : Df K mg "_law_like" s_law_like ["_law_found", "_law_due"]
  d_law_bytes : Df K mg "_law_bytes" s_law_bytes ["_law_d", "_law_most"]
  d_law_is_patch : Df K mg "_law_is_patch" s_law_is_patch ["_law_told", "_law_rows"]
  d_law_every : Df K mg "_law_every" s_law_every ["_law_old", "_law_new_one"]
  t_MOST : Tok
  c_MOST : mg "MOST" = some (.int 200 t_MOST)
  t_LAST_BYTE : Tok
  c_LAST_BYTE : mg "LAST_BYTE" = some (.int 255 t_LAST_BYTE)
  a_WORDS : Addr
  c_WORDS : mg "WORDS" = some (.ref a_WORDS)
  v_WORDS : ∀ H : Hp, SqT K H a_WORDS [.str "copy", .str "bring", .str "run"]
  w_WORDS : ∃ o, K.lookup a_WORDS = some o ∧ o.cls = .type "tuple" ∧ o.dict = none
  t_SEVENS : Tok
  c_SEVENS : mg "SEVENS" = some (.int 128 t_SEVENS)
  t_MOST_SEVENS : Tok
  c_MOST_SEVENS : mg "MOST_SEVENS" = some (.int 2 t_MOST_SEVENS)
  b_bool : mg "bool" = none
  b_bytes : mg "bytes" = none
  b_enumerate : mg "enumerate" = none
  b_int : mg "int" = none
  b_isinstance : mg "isinstance" = none
  b_len : mg "len" = none
  b_list : mg "list" = none
  b_min : mg "min" = none
  b_range : mg "range" = none
  b_reversed : mg "reversed" = none
  b_str : mg "str" = none
  b_sum : mg "sum" = none
  b_tuple : mg "tuple" = none
  b_zip : mg "zip" = none
/-! ### rules within a comprehension's block -/
theorem ixlK {X : Cx} {K : PySem.W.Frag} (h : X.K = K) : IxR X (rIxL K) := by subst h; exact ix_list
theorem ixtK {X : Cx} {K : PySem.W.Frag} (h : X.K = K) : IxR X (rIxT K) := by subst h; exact ix_tup
theorem ixsK {X : Cx} {K : PySem.W.Frag} (h : X.K = K) : IxR X (rIx K) := by subst h; exact ix_seq
theorem lenK {X : Cx} {K : PySem.W.Frag} (h : X.K = K) : CallR X (.builtin "len") (fun xs H Q => ∃ x n, xs = [x] ∧ LenV K x H n ∧ Q (.int n) H) := by subst h; exact call_len
theorem pg_tupK {X : Cx} {K : PySem.W.Frag} {es : List Expr} {k : Nat} {t : TGs} {n : Nat} {pos : Pos} (hK : X.K = K) (hc : X.calm = true) (h : PGs X es t)
    (hn : (assignEach es X.env).length = n := by rfl) (hst : (assignEach es X.env).findIdx? (·.1) = none := by rfl) : PG X (.Tuple es k pos) (gTup K n t) := by subst hK; exact pg_tup hc h hn hst
/-! ### heaps -/
/-- all but d is as it was -/
def But (d : Addr) (H H' : Hp) : Prop := ∀ b o, b ≠ d → H b = some o → H' b = some o
theorem But.refl (d : Addr) (H : Hp) : But d H H := fun _ _ _ h => h
theorem But.trans {d : Addr} {H H1 H2 : Hp} (a : But d H H1) (b : But d H1 H2) : But d H H2 := fun c o n h => b c o n (a c o n h)
theorem Same.but {d : Addr} {H H' : Hp} (a : Same H H') : But d H H' := fun c o _ h => a c o h
theorem But.put {d : Addr} {H : Hp} {o : HO} : But d H (upd H d o) := fun c u n h => by rw [upd_ne n]; exact h
theorem Same.new {p : Addr} {H : Hp} {o : HO} (n : H p = none) : Same H (upd H p o) := fun c u h => by rw [upd_ne (ne_of_none h n)]; exact h
theorem But.new {d p : Addr} {H : Hp} {o : HO} (n : H p = none) : But d H (upd H p o) := Same.but (Same.new n)
theorem But.at {d p : Addr} {H H' : Hp} {o u : HO} (b : But d H H') (hd : H d = some u) (h : H p = some o) (hn : o ≠ u) : H' p = some o := b p o (ne_of h hd hn) h
theorem But.free {d p : Addr} {H H' : Hp} {u : HO} (b : But d H H') (hd : H d = some u) (h : H' d = some u ∨ ∃ u', H' d = some u') (n : H' p = none) : H p = none := by
  cases e : H p with
  | none => rfl
  | some o =>
    by_cases hp : p = d
    · subst hp
      rcases h with h | ⟨_, h⟩ <;> (rw [n] at h; cases h)
    · rw [b p o hp e] at n; cases n
theorem tup_lst {xs ys : List V} : HO.tup xs ≠ HO.lst ys := by intro z; cases z
theorem sizeS {n : Nat} (h : n ≤ 100000) : n ≤ sizeLine := by rw [sizeLine_eq]; omega
theorem sizeL {n : Nat} (h : n ≤ 100000) : n < sizeLine := by rw [sizeLine_eq]; omega
/-! ### the dice -/
structure Dice (K : PySem.W.Frag) (a : Addr) (ns : List Int) (H : Hp) (d : Addr) : Prop where
  sq : SqL K H a (ns.map V.int)
  len : ns.length ≤ 63
  ex : ∃ p m g : Int, 0 ≤ p ∧ H d = some (.lst [.ref a, .int p, .int m, .int g])
theorem sq_but {K : PySem.W.Frag} {H H' : Hp} {a d : Addr} {ns : List Int} {x : Addr} {xs : List V} (b : But d H H') (hd : H d = some (.lst (.ref x :: xs))) (h : SqL K H a (ns.map V.int)) : SqL K H' a (ns.map V.int) := by
  rcases h with (h | ⟨o, h⟩) | h
  · refine .inl (.inl (b.at hd h ?_))
    intro z
    cases ns with
    | nil => cases z
    | cons n r => cases z
  · exact .inl (.inr ⟨o, b.at hd h (by intro z; cases z)⟩)
  · exact .inr h
section
variable {K : PySem.W.Frag} {a : Addr} {ns : List Int} {d : Addr}
theorem Dice.same {H H' : Hp} (D : Dice K a ns H d) (s : Same H H') : Dice K a ns H' d := by
  obtain ⟨h1, h2, p, m, g, h3, h4⟩ := D
  exact ⟨s.seq h1, h2, p, m, g, h3, s _ _ h4⟩
/-- the dice's list is no tuple, no list of ints -/
theorem Dice.is {H : Hp} (D : Dice K a ns H d) : ∃ xs, H d = some (.lst (.ref a :: xs)) := by
  obtain ⟨h1, h2, p, m, g, h3, h4⟩ := D
  exact ⟨_, h4⟩
theorem Dice.put {H : Hp} {p m g p' m' g' : Int} (h1 : SqL K H a (ns.map V.int)) (h2 : ns.length ≤ 63) (h3 : 0 ≤ p') (h4 : H d = some (.lst [.ref a, .int p, .int m, .int g])) :
    Dice K a ns (upd H d (.lst [.ref a, .int p', .int m', .int g'])) d :=
  ⟨sq_but But.put h4 h1, h2, p', m', g', h3, upd_same⟩
theorem tup_but {H H' : Hp} {p : Addr} {xs : List V} (D : Dice K a ns H d) (b : But d H H') (h : H p = some (.tup xs)) : H' p = some (.tup xs) := by
  obtain ⟨ys, e⟩ := D.is
  exact b.at e h tup_lst
theorem ints_but {H H' : Hp} {p : Addr} {ms : List Int} (D : Dice K a ns H d) (b : But d H H') (h : H p = some (.lst (ms.map V.int))) : H' p = some (.lst (ms.map V.int)) := by
  obtain ⟨ys, e⟩ := D.is
  refine b.at e h ?_
  intro z
  cases ms with
  | nil => cases z
  | cons n r => cases z
theorem none_but {H H' : Hp} {p : Addr} (D : Dice K a ns H d) (D' : Dice K a ns H' d) (b : But d H H') (h : H' p = none) : H p = none := by
  obtain ⟨ys, e⟩ := D.is
  obtain ⟨ys', e'⟩ := D'.is
  exact b.free e (.inr ⟨_, e'⟩) h
theorem Dice.ne {H : Hp} {p : Addr} (D : Dice K a ns H d) (h : H p = none) : p ≠ d := by
  obtain ⟨ys, e⟩ := D.is
  exact (ne_of_none e h).symm
/-- what was made since H0 may be changed -/
theorem But.fresh {H0 H : Hp} {p : Addr} {o : HO} (b : But d H0 H) (h : H0 p = none) : But d H0 (upd H p o) := fun c u n e => by rw [upd_ne (ne_of_none e h)]; exact b c u n e
theorem Dice.fresh {H0 H : Hp} {p : Addr} {o : HO} (D0 : Dice K a ns H0 d) (b : But d H0 H) (h : H0 p = none) (D : Dice K a ns H d) : Dice K a ns (upd H p o) d := by
  obtain ⟨ys, e⟩ := D0.is
  obtain ⟨h1, h2, q, m, g, h3, h4⟩ := D
  exact ⟨sq_but (But.fresh b h) e D0.sq, h2, q, m, g, h3, by rw [upd_ne (D0.ne h).symm]; exact h4⟩
end
/-- _law_dice(script) -/
def spDice (K : PySem.W.Frag) : Sp := fun vs H Q _ => ∃ (a : Addr) (ns : List Int), vs = [.ref a] ∧ SqL K H a (ns.map V.int) ∧ ns.length ≤ 63 ∧ ∀ H' d, Same H H' → H d = none → Dice K a ns H' d → Q (.ref d) H'
/-- _law_next(d, n): any number below n -/
def spNext (K : PySem.W.Frag) : Sp := fun vs H Q _ => ∃ (a : Addr) (ns : List Int) (d : Addr) (n : Int), vs = [.ref d, .int n] ∧ Dice K a ns H d ∧ 1 ≤ n ∧ n < 1073741824 ∧ ∀ H' r, But d H H' → Dice K a ns H' d → 0 ≤ r → r < n → Q (.int r) H'
section
variable {P : Program} {w : World} {K : PySem.W.Frag} {mg : Str → Option Value} {base : Heap}
theorem at_map {ns : List Int} {i : Nat} {x : V} (h : (ns.map V.int)[i]? = some x) : ∃ z, x = V.int z ∧ ns[i]? = some z := by
  rw [List.getElem?_map] at h
  cases e : ns[i]? with
  | none => rw [e] at h; cases h
  | some z => rw [e] at h; exact ⟨z, (Option.some.inj h).symm, rfl⟩
theorem ok_law_dice (T : All K mg) : FnOk P w K mg base CX0 1 T.d_law_dice.f T.d_law_dice.fd ["_law_script"] (spDice K) := by
  refine T.d_law_dice.F.ok sc_law_dice (fun vs H Q E h => ?_) (fun cdv A outer s H vs Q E hr h => ?_)
  · obtain ⟨a, ns, rfl, _⟩ := h
    rfl
  · obtain ⟨a, ns, rfl, hS, hl, k⟩ := h
    refine ⟨_, (pss_cons 
      (ps_set (i := 1) sc_law_dice.nd rfl (Or.inl rfl) pe_int) (pss_cons 
      (ps_for PassesOwn.never rfl (pi_list (pv 0)) (pg_name (i := 2) sc_law_dice.nd rfl (Or.inl rfl)) (pss_one 
      (ps_set (i := 1) sc_law_dice.nd rfl (Or.inl rfl) (pe_op op_mod (pe_op op_add (pe_op op_add (pe_op op_mul (pv 1) pe_int) (pe_op op_mul (pe_op op_mod (pe_callTy call_int1 (by rfl) T.b_int PyProof.Rows.boot_int (pa_cons (pv 2) pa_nil)) pe_int) pe_int)) pe_int) pe_int)))) (pss_one 
      (ps_ret (pe_lst (pa_cons (pv 0) (pa_cons pe_int (pa_cons (pe_op op_mul (pv 1) (pe_callTy call_int1 (by rfl) T.b_int PyProof.Rows.boot_int (pa_cons (pe_cmpR op_gt (pe_callB call_len (by rfl) T.b_len PySem.boot_len (pa_cons (pv 0) pa_nil)) pe_int (nomark _)) pa_nil))) (pa_cons pe_int pa_nil))))))))), ?_⟩
    refine ⟨_, rfl, a, rfl, ⟨_, hS⟩, for_list (K := K) (a := a) (xs := ns.map V.int) (fun i σ H' => ∃ (m : Int) (v : Option V), σ = [some (.ref a), some (.int m), v] ∧ H' = H ∧ 0 ≤ m ∧ m < 2147483647)
      ⟨0, none, rfl, rfl, by decide, by decide⟩ (fun i σ H' _ ⟨_, _, _, e, _⟩ => by rw [e]; exact hS) ?_ ?_⟩
    · rintro i y σ H' hi ⟨m, v, rfl, rfl, h0, h1⟩
      obtain ⟨z, rfl, _⟩ := at_map hi
      refine ⟨_, rfl, _, _, rfl, rfl, .inl ⟨by omega, by omega⟩, _, rfl, .inl ⟨_, rfl, _, _, rfl, rfl, (by show (0 : Int) < 2147483647; decide), ?_⟩⟩
      have b0 : 0 ≤ z % 2147483647 := Int.emod_nonneg _ (by decide)
      have b1 : z % 2147483647 < 2147483647 := Int.emod_lt_of_pos _ (by decide)
      refine ⟨_, _, rfl, rfl, .inl ⟨by omega, by omega⟩, _, _, rfl, rfl, _, _, rfl, rfl, _, _, rfl, rfl, (by show (0 : Int) < 2147483647; decide), ?_⟩
      exact ⟨_, _, rfl, rfl, Int.emod_nonneg _ (by decide), Int.emod_lt_of_pos _ (by decide)⟩
    · rintro σ H' ⟨m, v, rfl, rfl, h0, h1⟩
      refine ⟨_, rfl, _, rfl, _, rfl, _, ns.length, rfl, .inl ⟨_, hS, by rw [List.length_map]⟩, _, _, rfl, rfl, .inr ⟨_, rfl, _, _, rfl, rfl, .inl ⟨by omega, by omega⟩, sizeS (by show 4 ≤ 100000; decide), fun d hd => ?_⟩⟩
      exact k _ d (Same.new hd) hd ⟨(Same.new hd).seq hS, hl, 0, _, 0, by decide, upd_same⟩
theorem ok_law_next (T : All K mg) : FnOk P w K mg base CX0 1 T.d_law_next.f T.d_law_next.fd ["_law_dice_here", "_law_many"] (spNext K) := by
  refine T.d_law_next.F.ok sc_law_next (fun vs H Q E h => ?_) (fun cdv A outer s H vs Q E hr h => ?_)
  · obtain ⟨_, _, d, n, rfl, _⟩ := h
    rfl
  · obtain ⟨a, ns, d, n, rfl, ⟨hS, hl, p, m, g, hp, hd⟩, n1, n2, k⟩ := h
    refine ⟨_, (pss_cons 
      (ps_if (pt_cmpR op_gt (pe_ix ix_list (pv 0) pe_int (fun _ _ => rfl)) pe_int (nomark _)) (pss_cons 
      (ps_set (i := 2) sc_law_next.nd rfl (Or.inl rfl) (pe_op op_mod (pe_callTy call_int1 (by rfl) T.b_int PyProof.Rows.boot_int (pa_cons (pe_ix ix_list (pv 0) pe_int (fun _ _ => rfl)) pa_nil)) (pv 1))) (pss_cons 
      (ps_asg (pe_op op_fdiv (pe_ix ix_list (pv 0) pe_int (fun _ _ => rfl)) (pv 1)) (pg_sub (pv 0) pe_int set_list)) (pss_one 
      (ps_ret (pv 2))))) pss_nil) (pss_cons 
      (ps_asg (pe_op op_add (pe_ix ix_list (pv 0) pe_int (fun _ _ => rfl)) pe_int) (pg_sub (pv 0) pe_int set_list)) (pss_cons 
      (ps_if (pt_cmpR op_le (pe_ix ix_list (pv 0) pe_int (fun _ _ => rfl)) (pe_callB call_len (by rfl) T.b_len PySem.boot_len (pa_cons (pe_ix ix_list (pv 0) pe_int (fun _ _ => rfl)) pa_nil)) (nomark _)) (pss_cons 
      (ps_set (i := 3) sc_law_next.nd rfl (Or.inl rfl) (pe_ix ix_list (pe_ix ix_list (pv 0) pe_int (fun _ _ => rfl)) (pe_op op_sub (pe_ix ix_list (pv 0) pe_int (fun _ _ => rfl)) pe_int) (fun _ _ => rfl))) (pss_cons 
      (ps_asg (pe_ifExp (pt_cmpR op_ge (pv 3) (pe_op op_pow pe_int pe_int) (nomark _)) (pe_op op_fdiv (pv 3) (pv 1)) pe_int) (pg_sub (pv 0) pe_int set_list)) (pss_one 
      (ps_ret (pe_op op_mod (pe_callTy call_int1 (by rfl) T.b_int PyProof.Rows.boot_int (pa_cons (pv 3) pa_nil)) (pv 1)))))) pss_nil) (pss_cons 
      (ps_asg (pe_op op_mod (pe_callTy call_int1 (by rfl) T.b_int PyProof.Rows.boot_int (pa_cons (pe_op op_mul (pe_ix ix_list (pv 0) pe_int (fun _ _ => rfl)) pe_int) pa_nil)) pe_int) (pg_sub (pv 0) pe_int set_list)) (pss_one 
      (ps_ret (pe_op op_mod (pe_op op_fdiv (pe_ix ix_list (pv 0) pe_int (fun _ _ => rfl)) pe_int) (pv 1)))))))), ?_⟩
    have i0 : ∀ {x0 x1 x2 x3 : V}, atI [x0, x1, x2, x3] 0 = some x0 := rfl
    have i1 : ∀ {x0 x1 x2 x3 : V}, atI [x0, x1, x2, x3] 1 = some x1 := rfl
    have i2 : ∀ {x0 x1 x2 x3 : V}, atI [x0, x1, x2, x3] 2 = some x2 := rfl
    have i3 : ∀ {x0 x1 x2 x3 : V}, atI [x0, x1, x2, x3] 3 = some x3 := rfl
    have npos : 0 < n := by omega
    refine ⟨_, rfl, d, _, _, _, rfl, rfl, SqL.of hd, i3, _, _, rfl, rfl, _, rfl, ite2 (fun hg => ?_) fun hg => ?_⟩
    · refine ⟨_, rfl, d, _, _, _, rfl, rfl, SqL.of hd, i3, .inl ⟨_, rfl, _, rfl, _, _, rfl, rfl, npos, ?_⟩⟩
      refine ⟨_, rfl, d, _, _, _, rfl, rfl, SqL.of hd, i3, _, rfl, _, _, rfl, rfl, ⟨npos, n2⟩, _, rfl, d, _, _, _, rfl, rfl, hd, rfl, _, rfl, ?_⟩
      exact k _ _ But.put (Dice.put hS hl hp hd) (Int.emod_nonneg _ (by omega)) (Int.emod_lt_of_pos _ npos)
    · refine ⟨_, rfl, d, _, _, _, rfl, rfl, SqL.of hd, i1, _, _, rfl, rfl, _, rfl, d, _, _, _, rfl, rfl, hd, rfl, ?_⟩
      have hd1 : (upd H d (.lst [V.ref a, V.int (p + 1), V.int m, V.int g])) d = some (.lst [V.ref a, V.int (p + 1), V.int m, V.int g]) := upd_same
      have hS1 : SqL K (upd H d (.lst [V.ref a, V.int (p + 1), V.int m, V.int g])) a (ns.map V.int) := sq_but But.put hd hS
      refine ⟨_, rfl, d, _, _, _, rfl, rfl, SqL.of hd1, i1, _, rfl, d, _, _, _, rfl, rfl, SqL.of hd1, i0, _, _, rfl, .inl ⟨_, hS1, rfl⟩, _, _, rfl, rfl, _, rfl, ite2 (fun hc => ?_) fun hc => ?_⟩
      · have hc' : p + 1 ≤ (ns.length : Int) := by
          have := of_decide_eq_true hc
          rw [List.length_map] at this
          exact this
        obtain ⟨j, hj⟩ : ∃ j : Nat, p = (j : Int) := ⟨p.toNat, by omega⟩
        have hlt : j < ns.length := by omega
        have hat : atI (ns.map V.int) (p + 1 - 1) = some (V.int ns[j]) := at_of (j := j) (by omega) (by rw [List.getElem?_map, List.getElem?_eq_getElem hlt]; rfl)
        refine ⟨_, rfl, d, _, _, _, rfl, rfl, SqL.of hd1, i0, _, rfl, d, _, _, _, rfl, rfl, SqL.of hd1, i1, _, _, rfl, rfl, a, _, _, _, rfl, rfl, hS1, hat, ?_⟩
        refine ⟨_, rfl, _, _, rfl, rfl, ⟨by decide, by decide, by decide⟩, _, _, rfl, rfl, _, rfl, ite2 (fun hb => ?_) fun hb => ?_⟩
        · refine ⟨_, rfl, _, rfl, _, _, rfl, rfl, ⟨npos, n2⟩, _, rfl, d, _, _, _, rfl, rfl, hd1, rfl, ?_⟩
          refine ⟨_, rfl, .inl ⟨_, rfl, _, rfl, _, _, rfl, rfl, npos, ?_⟩⟩
          exact k _ _ (But.put.trans But.put) (Dice.put hS1 hl (by omega) hd1) (Int.emod_nonneg _ (by omega)) (Int.emod_lt_of_pos _ npos)
        · refine ⟨_, rfl, d, _, _, _, rfl, rfl, hd1, rfl, ?_⟩
          refine ⟨_, rfl, .inl ⟨_, rfl, _, rfl, _, _, rfl, rfl, npos, ?_⟩⟩
          exact k _ _ (But.put.trans But.put) (Dice.put hS1 hl (by omega) hd1) (Int.emod_nonneg _ (by omega)) (Int.emod_lt_of_pos _ npos)
      · refine ⟨_, rfl, d, _, _, _, rfl, rfl, SqL.of hd1, i2, _, _, rfl, rfl, .inr ⟨by decide, by decide⟩, .inl ⟨_, rfl, _, _, rfl, rfl, (by show (0 : Int) < 2147483647; decide), _, rfl, d, _, _, _, rfl, rfl, hd1, rfl, ?_⟩⟩
        have hd2 : (upd (upd H d (.lst [V.ref a, V.int (p + 1), V.int m, V.int g])) d (.lst [V.ref a, V.int (p + 1), V.int (m * 48271 % 2147483647), V.int g])) d = some (.lst [V.ref a, V.int (p + 1), V.int (m * 48271 % 2147483647), V.int g]) := upd_same
        refine ⟨_, rfl, d, _, _, _, rfl, rfl, SqL.of hd2, i2, _, _, rfl, rfl, ⟨by decide, by decide⟩, _, rfl, _, _, rfl, rfl, npos, ?_⟩
        exact k _ _ (But.put.trans But.put) (Dice.put hS1 hl (by omega) hd1) (Int.emod_nonneg _ (by omega)) (Int.emod_lt_of_pos _ npos)
end
/-! ### enumerate(tuple) -/
open AutoSeq1 (wpAny_loadPart') in
set_option maxHeartbeats 1000000 in
theorem meets_enumT (t : Addr) (items : Array Value) :
    Meets (Builtin.«enumerate.__new__» ⟨[.type "enumerate", .ref t], []⟩) (fun _ R s => s.heap.IsTuple t items ∧
      R (.ok (.ret (.ref (s.heap.push { cls := .type "tuple_iterator", data := .fields #[.ref t, .int 0 0] }).objs.size)))
        { s with heap := (s.heap.push { cls := .type "tuple_iterator", data := .fields #[.ref t, .int 0 0] }).push { cls := .type "enumerate", data := .fields #[.none, .bool false, .ref s.heap.objs.size, rawInt 0, .none, .none] } }) :=
  .of_wp fun prog w A R s h => by
    obtain ⟨hp, g, d, tk, os⟩ := s; obtain ⟨hl, h⟩ := h
    have hsub := sub_enumerate
    have q1 : ∀ {A' : Around} {E : Value → Shared → Prop} {Q : Value → Shared → Prop}, Q (.ref hp.objs.size) ⟨hp.push { cls := .type "tuple_iterator", data := .fields #[.ref t, .int 0 0] }, g, d, tk, os⟩ → wpAny (model prog w) A' (pyIter (.ref t)) Q E ⟨hp, g, d, tk, os⟩ :=
      fun q => (begins_tuple t items).iter prog w _ _ ⟨hp, g, d, tk, os⟩ _ hl q
    wp_walk using q1
    refine wpAny_stack_any fun st => wpAny_pure ?_
    split
    · rename_i c _ _ _ _ _
      cases (c == Value.type "enumerate")
      · wp_walk using q1
        exact ⟨_, rfl, h⟩
      · wp_walk using q1
        exact ⟨_, rfl, h⟩
    · wp_walk using q1
      exact ⟨_, rfl, h⟩
theorem call_enumT {prog : Program} {w : World} {A : Around} {E : Value → Shared → Prop} {s : Shared} {t : Addr} {items : Array Value} {Q : Value → Shared → Prop} (ht : s.heap.IsTuple t items)
    (h : ∀ h', IsEnum h' (s.heap.objs.size + 1) s.heap.objs.size 0 .none → h'.IsTupleIter s.heap.objs.size t 0 → h'.objs.size = s.heap.objs.size + 2 →
      (∀ b o, s.heap.get? b = some o → h'.get? b = some o) → Q (.ref (s.heap.objs.size + 1)) { s with heap := h' }) :
    wpAny (model prog w) A (call (.type "enumerate") [.ref t]) Q E s := by
  refine callType_new F.called_enumerate (by decide) (F.typeCall_enumerate_1 _) (F.newCall_enumerate_1 _) (fun obj => F.args_object_init_2 obj _) F.entry_enumerate_new
    (meets_enumT t items) ⟨ht, ?_⟩
  have hz : (s.heap.push { cls := .type "tuple_iterator", data := .fields #[.ref t, .int 0 0] }).objs.size = s.heap.objs.size + 1 := Heap.size_push ..
  show _ ∧ _
  rw [hz]
  have he : IsEnum ((s.heap.push { cls := .type "tuple_iterator", data := .fields #[.ref t, .int 0 0] }).push
      { cls := .type "enumerate", data := .fields #[.none, .bool false, .ref s.heap.objs.size, rawInt 0, .none, .none] }) (s.heap.objs.size + 1) s.heap.objs.size 0 .none := by
    have := Heap.get?_push_size (s.heap.push { cls := .type "tuple_iterator", data := .fields #[.ref t, .int 0 0] })
      (o := { cls := .type "enumerate", data := .fields #[.none, .bool false, .ref s.heap.objs.size, rawInt 0, .none, .none] }) rfl
    rw [hz] at this; exact this
  refine ⟨⟨_, he, rfl⟩, h _ he ⟨_, Heap.get?_push_of_some _ (Heap.get?_push_size _ rfl), rfl, rfl⟩ (by rw [Heap.size_push, hz]) fun b o x => Heap.get?_push_of_some _ (Heap.get?_push_of_some _ x)⟩
theorem pyNext_enumT_end {prog : Program} {w : World} {A : Around} {E : Value → Shared → Prop} {s : Shared} {e it t : Addr} {i : Nat} {c : Int} {items : Array Value} {old : Value} {Q : Option Value → Shared → Prop} (hh : A.handled = none)
    (he : IsEnum s.heap e it c old) (hit : s.heap.IsTupleIter it t i) (ht : s.heap.IsTuple t items) (hx : items[i]? = none)
    (hQ : ∀ h', Heap.ExtBut it s.heap h' → Q none { s with heap := h' }) : wpAny (model prog w) A (pyNext (.ref e)) Q E s := by
  have hT : s.TypeIs (.ref e) "enumerate" := ⟨_, he, rfl⟩
  unfold pyNext
  refine wpAny_bind (wpAny_attempt (wpAny_callSpecial?_slot (name := Str.ofString "__next__") hT F.slot_enumerate_next
    (wpAny_call_entry F.slot_enumerate_next hT F.entry_enumerate_next ?_ (F.args_enumerate_next_1 _))))
  show wpAny _ _ (field (.ref e) 2 >>= _) _ _ _
  refine wpAny_bind (wpAny_field he rfl (x := .ref it) rfl ?_)
  refine wpAny_bind (wpAny_nextOf_tuple_end (by exact hh) hit ht hx fun h' x he' hx' => ?_)
  obtain ⟨o, ho, hc⟩ := hx'
  refine wpAny_bind (wpAny_isInstance (T := "StopIteration") (b := true) ⟨o, ho, hc⟩ isSubtype_stop ?_)
  exact wpAny_pure (hQ _ he')
/-- the tuple at a, each item in a new pair -/
def Itet (K : PySem.W.Frag) (a : Addr) : It :=
  ⟨fun i H => ∃ (xs : List V) (x : V), SqT K H a xs ∧ xs[i]? = some x, fun i H v H' => ∃ T x, v = .ref T ∧ H T = none ∧ H' = upd H T (.tup [.int (i : Nat), x]) ∧ ∀ xs, SqT K H a xs → xs[i]? = some x, fun i H => ∃ xs : List V, SqT K H a xs ∧ xs.length ≤ i⟩
theorem turn_enumT {P : Program} {w : World} {K : PySem.W.Frag} {elts : List Expr} {kk : Nat} {tpos : Pos} (a e it : Addr) :
    Turn P w K (.Tuple elts kk tpos) (Itet K a) [e, it] e (fun i h => (∃ old, IsEnum h e it ((i : Nat) : Int) old) ∧ h.IsTupleIter it a i ∧ e ≠ it ∧ a ≠ it ∧ e ≠ a) where
  mem := by simp
  obj := fun i h st b hb => by
    obtain ⟨⟨old, he⟩, ⟨o, ho, hc, hd⟩, _⟩ := st
    have e' : b = e ∨ b = it := by simpa using hb
    rcases e' with z | z
    · rw [z]; exact ⟨_, he, fun v q => nomatch q⟩
    · rw [z]; exact ⟨o, ho, fun v q => by rw [hd] at q; cases q⟩
  keep := fun i h h' st k => let ⟨⟨old, he⟩, hi, hne⟩ := st; ⟨⟨old, k e (by simp) _ he⟩, hi.at fun o q => k it (by simp) o q, hne⟩
  item := by
    intro X hP hw hK hc i pins s σ H E I hf st hg
    subst hP hw hK
    obtain ⟨⟨old, he⟩, hit, hne, hne2, hne3⟩ := st
    obtain ⟨xs, x, hq, hx⟩ := hg
    obtain ⟨its, rv, p, hz⟩ := I.tuple hq
    obtain ⟨u, hu, ru⟩ := rv.get hx
    have hel : e < s.heap.objs.size := Heap.lt_size he
    have hil : it < s.heap.objs.size := by obtain ⟨_, q, _⟩ := hit; exact Heap.lt_size q
    have ht : s.heap.IsTuple a its.toArray := p
    have hlt : i < its.toArray.size := by
      have := (List.getElem?_eq_some_iff.mp hu).1
      simpa using this
    refine wpAny_pyNext_enum_itemD (Draws.tuple (A := X.A.in1) (by exact I.ok.hd hc) it a hne2 its.toArray) he ⟨hit, ht⟩ hlt hne (by simp; exact ⟨hne, hne3⟩) fun y h' tk hPy ho hst' hT hsz hk => ?_
    have ey : y = u := by
      have z : its[i]? = some y := by simpa using hPy
      rw [hu] at z; exact (Option.some.inj z).symm
    subst ey
    refine ⟨_, rfl, wpAny_letOwnedTupleGo_enum (s := { s with heap := h', toks := tk + 1 }) ho fun h'' he' sb => ?_⟩
    have hT2 : h''.get? s.heap.objs.size = some { cls := .type "tuple", data := .seq #[.int i tk, y] } := (sb.2 _ (Nat.ne_of_gt hel)).trans hT
    have new : ObjOk X.prog X.w (upd H s.heap.objs.size (.tup [.int (i : Nat), x])) h'' s.heap.objs.size (.tup [.int (i : Nat), x]) :=
      ⟨by show 2 ≤ sizeLine; decide, [.int i tk, y], .cons ⟨_, rfl⟩ (.cons ru .nil), ⟨_, hT2, rfl, _, rfl⟩⟩
    have I1 : Inv X pins σ (upd H s.heap.objs.size (.tup [.int (i : Nat), x])) { s with heap := h'', toks := tk + 1 } :=
      I.turnedNew (ch := [e, it]) (fun b ob hb q => (sb.2 b (fun z => hb (by simp [z]))).trans (hk b ob (fun z => hb (by simp [z])) (fun z => hb (by simp [z])) q)) hf (Nat.le_refl _) new
    refine ⟨.ref s.heap.objs.size, _, I1, rfl, ⟨_, x, rfl, I.hok.fresh (Nat.le_refl _), rfl, fun ys hy => by rw [I.tuple_inj hy hq]; exact hx⟩, ⟨⟨y, ?_⟩, hst'.1.at fun o q => (sb.2 it (Ne.symm hne)).trans q, hne, hne2, hne3⟩, fun b hb => ?_⟩
    · have e1 : ((i + 1 : Nat) : Int) = (i : Int) + 1 := by omega
      rw [e1]; exact he'
    · have hb' : b < s.heap.objs.size := by
        have e' : b = e ∨ b = it := by simpa using hb
        rcases e' with z | z
        · rw [z]; exact hel
        · rw [z]; exact hil
      rw [upd_ne (Nat.ne_of_lt hb')]
      exact (hf b hb).1
  done := by
    intro X hP hw hK hc i pins s σ H E I hf st hg
    subst hP hw hK
    obtain ⟨⟨old, he⟩, hit, hne, hne2, hne3⟩ := st
    obtain ⟨xs, hq, hx⟩ := hg
    obtain ⟨its, rv, p, hz⟩ := I.tuple hq
    obtain ⟨f0, f1, f2, f3, f4, f5⟩ := hf it (by simp)
    have hl := rv.length
    have ht : s.heap.IsTuple a its.toArray := p
    exact pyNext_enumT_end (I.ok.hd hc) he hit ht (by simp; omega) fun h' eb => ⟨rfl, I.turned (t' := s.toks) (fun b o hb q => eb b o hb q) f0 f1 f3 f4 f5⟩
  self := fun A i s Q E st h => let ⟨⟨_, he⟩, _⟩ := st; wpAny_pyIter_enum he h
def iEnumT (K : PySem.W.Frag) (ta : TA) : TI := fun σ H R => ta σ H fun vs H1 => ∃ a xs, vs = [.ref a] ∧ SqT K H1 a xs ∧ R (Itet K a) H1
theorem pi_enumT {X : Cx} {e : Expr} {ta : TA} {p pos tpos : Pos} {elts : List Expr} {kk : Nat} (hg : Gl X "enumerate") (hm : X.mg "enumerate" = none) (ha : PA X [e] ta) (hs : starEach [e] X.env = [(false, eval e X.env)] := by rfl) :
    PI X (.Tuple elts kk tpos) (.Call (.Name "enumerate" p) [e] [] pos) (iEnumT X.K ta) := by
  refine ⟨fun pins s σ H R I h => ?_⟩
  refine Call_ (ld_blt I hg hm boot_enumerate (PyProof.Rows.callWith_type1 (thn (ha.run pos pins s σ H _ I h) fun us s1 ⟨vs, H1, I1, r1, q1⟩ => ?_) hs rfl))
  obtain ⟨a, xs, ex, hq, q⟩ := q1
  subst ex
  cases r1 with
  | cons r rr =>
    cases rr
    cases r
    obtain ⟨its, rv, p', hz⟩ := I1.tuple hq
    have ht : s1.heap.IsTuple a its.toArray := p'
    have hal : a < s1.heap.objs.size := by obtain ⟨_, q', _⟩ := id ht; exact Heap.lt_size q'
    refine call_enumT ht fun h' he hit hsz hk => wpAny_pyIter_enum he ?_
    have I2 : Inv X pins σ H1 { s1 with heap := h' } := I1.kept (t' := s1.toks) hk
    refine ⟨s1.heap.objs.size + 1, [s1.heap.objs.size + 1, s1.heap.objs.size], _, _, H1, rfl, I2, turn_enumT a (s1.heap.objs.size + 1) s1.heap.objs.size, ⟨⟨.none, he⟩, hit, Nat.succ_ne_self _, Nat.ne_of_lt hal, Nat.ne_of_gt (Nat.lt_succ_of_lt hal)⟩, fun b hb => ?_, q⟩
    have e' : b = s1.heap.objs.size + 1 ∨ b = s1.heap.objs.size := by simpa using hb
    have hle : s1.heap.objs.size ≤ b := by
      rcases e' with z | z
      · rw [z]; exact Nat.le_add_right _ _
      · rw [z]; exact Nat.le_refl _
    exact I1.fpOk hle (I1.hok.fresh hle)
theorem walk_enumT {K : PySem.W.Frag} {a : Addr} {xs : List V} : Walk (Itet K a) xs.length (fun H => SqT K H a xs) (YPair (fun i => some (.int (i : Nat))) (fun i => xs[i]?)) := by
  refine ⟨fun i _ hi q => ⟨xs, xs[i], q, by simp [hi]⟩, fun _ q => ⟨xs, q, Nat.le_refl _⟩, fun i H v H' _ q y => ?_⟩
  obtain ⟨T, x, h1, h2, h3, h4⟩ := y
  exact ⟨T, .int (i : Nat), x, h1, h2, h3, rfl, h4 xs q⟩
theorem walk_byt {x : Array UInt8} : Walk (Itb x) x.size (fun _ => True) (fun i H v H' => H' = H ∧ ∃ c, x[i]? = some c ∧ v = .int ((c.toNat : Nat) : Int)) :=
  ⟨fun _ _ hi _ => hi, fun _ _ => Nat.le_refl _, fun _ _ _ _ _ _ y => y⟩
/-- the i-th byte -/
theorem byt_at {bs : List Int} {i : Nat} {c : UInt8} (hb : B8 bs) (h : (byteArr bs)[i]? = some c) : bs[i]? = some ((c.toNat : Nat) : Int) := by
  have h1 : (bs.map fun n : Int => n.toNat.toUInt8)[i]? = some c := by
    have : (byteArr bs)[i]? = (bs.map fun n : Int => n.toNat.toUInt8)[i]? := by unfold byteArr; simp
    rw [← this]; exact h
  have hl : i < bs.length := by
    have := (List.getElem?_eq_some_iff.mp h1).1
    simpa using this
  have h2 := byte_at (j := i) hb (List.getElem?_eq_getElem hl)
  rw [List.getD_eq_getElem?_getD, h1] at h2
  rw [List.getElem?_eq_getElem hl, ← h2]
  rfl
/-! ### max(list of ints, default=int) -/
theorem args_maxD (a v : Value) : argsOk "max" ⟨[a], [(Str.ofString "default", v)]⟩ := by unfold argsOk; kernel_rfl
section
variable {prog : Program} {w : World} {A : Around} {R : Result → Shared → Prop} {I S : Addr} {fp wr : List Addr} {n : Nat} {P : Nat → Value → Prop} {St : Nat → Heap → Prop} {f : Nat → Int} {kw : List (Str × Value)}
theorem maxD_turns (W : Walks prog w A.in1 I fp wr n P St) (num : ∀ i v, P i v → ∃ t, v = Value.int (f i) t) (apart : S ∉ fp) : ∀ (left j b : Nat) (s : Shared) (best : Value) (c : Nat), n = j + 1 + left → St (j + 1) s.heap → P b best → b ≤ j → (∀ i, i ≤ j → f i ≤ f b) →
    s.heap.get? S = some { cls := .type "list", dict := none, data := .seq #[best, best] c, slots := #[] } →
    (∀ b v h' tk, b < n → P b v → (∀ i, i < n → f i ≤ f b) → (∀ a o, a ∉ wr → a ≠ S → s.heap.get? a = some o → h'.get? a = some o) → R (.ok (.ret v)) { s with heap := h', toks := tk }) →
    codeAny (model prog w) A (.builtin "max.loop" ⟨[.ref I, .none, .ref S], kw⟩) R s := by
  have outside : S ∉ wr := fun z => apart (W.sub _ z)
  have nm : (toString "max" ++ toString ".loop" : String) = "max.loop" := by decide
  intro left
  induction left with
  | zero =>
    intro j b s best c en st hb bj top hS fin
    refine codeAny_builtin F.entry_max_loop ?_
    rw [Around.under_plainId F.plain_max_loop _]
    refine wpAny_bind (wpAny_seqItems hS rfl (wpAny_bind (wpAny_tryCatch (W.done s _ _ (by rw [en]; exact st) fun h' tk kept => ?_))))
    refine wpAny_bind (wpAny_updateSeq (kept S _ outside hS) rfl (wpAny_bind (wpAny_letGo (wpAny_pure ?_))))
    exact fin b best _ tk (by omega) hb (fun i hi => top i (by omega)) fun a o ha hs e => (Heap.get?_update_other _ _ (Ne.symm hs)).trans (kept a o ha e)
  | succ left ih =>
    intro j b s best c en st hb bj top hS fin
    refine codeAny_builtin F.entry_max_loop ?_
    rw [Around.under_plainId F.plain_max_loop _]
    refine wpAny_bind (wpAny_seqItems hS rfl (wpAny_bind (wpAny_tryCatch (W.item (j + 1) s _ _ (by omega) st fun v h' tk hv st' kept => ?_))))
    have hS1 := kept S _ outside hS
    refine wpAny_bind (wpAny_pure ?_)
    refine wpAny_bind (wpAny_tryCatch (wpAny_holding (wpAny_bind (CmpOf.ints_gt f num (j + 1) b v best _ _ _ hv hb ?_))))
    refine wpAny_bind (wpAny_holding (wpAny_truthy_bool (wpAny_bind (wpAny_letGo (wpAny_pure ?_)))))
    by_cases gt : f (j + 1) > f b
    · rw [if_pos (by exact decide_eq_true gt)]
      refine wpAny_bind ?_
      refine wpAny_updateSeq hS1 rfl (wpAny_bind (wpAny_letGo ?_))
      rw [nm]
      refine wpAny_pure ⟨plainId_quiet F.plain_max_loop _, ?_⟩
      refine ih (j + 1) (j + 1) _ v c (by omega) (W.frame _ _ _ st' fun a ha o e => ?_) hv (Nat.le_refl _) (fun i hi => ?_) (Heap.get?_update_self _ hS1 rfl) fun b' v' h2 tk2 lt hv' top' kept' => ?_
      · exact (Heap.get?_update_other _ _ (fun z : S = a => apart (by rw [z]; exact ha))).trans e
      · by_cases e : i = j + 1
        · rw [e]; omega
        · have := top i (by omega)
          omega
      · exact fin b' v' h2 tk2 lt hv' top' fun a o ha hs e => kept' a o ha hs ((Heap.get?_update_other _ _ (Ne.symm hs)).trans (kept a o ha e))
    · rw [if_neg (by intro z; exact gt (of_decide_eq_true z))]
      refine wpAny_bind (wpAny_letGo ?_)
      rw [nm]
      refine wpAny_pure ⟨plainId_quiet F.plain_max_loop _, ?_⟩
      refine ih (j + 1) b _ best c (by omega) st' hb (by omega) (fun i hi => ?_) hS1 fun b' v' h2 tk2 lt hv' top' kept' => ?_
      · by_cases e : i = j + 1
        · rw [e]; omega
        · exact top i (by omega)
      · exact fin b' v' h2 tk2 lt hv' top' fun a o ha hs e => kept' a o ha hs (kept a o ha e)
end
theorem call_maxD {prog : Program} {w : World} {A : Around} {E : Value → Shared → Prop} {s : Shared} {l : Addr} {its : List Value} {ns : List Int} {d : Value} {Q : Value → Shared → Prop} (hh : A.handled = none) (hl : s.heap.IsList l its.toArray) (hi : ∀ i v, its[i]? = some v → ∃ t, v = Value.int (ns.getD i 0) t) (len : its.length = ns.length)
    (h0 : ns = [] → ∀ h' tk, (∀ b o, s.heap.get? b = some o → h'.get? b = some o) → Q d { s with heap := h', toks := tk })
    (h1 : ∀ m t h' tk, m ∈ ns → (∀ y, y ∈ ns → y ≤ m) → (∀ b o, s.heap.get? b = some o → h'.get? b = some o) → Q (Value.int m t) { s with heap := h', toks := tk }) :
    wpAny (model prog w) A (call (.builtin "max") [.ref l] [(Str.ofString "default", d)]) Q E s := by
  have nm : (toString "max" ++ toString ".loop" : String) = "max.loop" := by decide
  have below : l < s.heap.objs.size := by obtain ⟨_, q, _⟩ := id hl; exact Heap.lt_size q
  refine PyProof.Rows.kmk_tree F.kind_max F.plain_max F.entry_max (args_maxD _ _) ?_
  refine wpAny_bind (wpAny_of_eq (show Builtin.Builtins.bindParams "max" ["key", "default"] 0 ⟨[], [(Str.ofString "default", d)]⟩ = pure [none, some d] from rfl) (wpAny_bind (wpAny_pure ?_)))
  refine wpAny_bind (wpAny_pyIter_list hl (wpAny_bind (wpAny_newList ?_ (Nat.zero_le _))))
  rw [nm]
  have sz : (s.heap.push { cls := .type "list_iterator", data := .fields #[.ref l, .int 0 0] }).objs.size = s.heap.objs.size + 1 := Heap.size_push ..
  refine wpAny_pure ⟨plainId_quiet F.plain_max_loop _, ?_⟩
  have W := Walks.list (prog := prog) (w := w) (A := A.in1) hh s.heap.objs.size l (Nat.ne_of_lt below) its.toArray
  have hn : its.toArray.size = ns.length := by rw [List.size_toArray]; exact len
  have gI : ((s.heap.push { cls := .type "list_iterator", data := .fields #[.ref l, .int 0 0] }).push (PyProof.Rows.seqObj "list" #[] 0)).IsListIter s.heap.objs.size l 0 := ⟨_, Heap.get?_push_of_some _ (Heap.get?_push_size _ rfl), rfl, rfl⟩
  have gS : ((s.heap.push { cls := .type "list_iterator", data := .fields #[.ref l, .int 0 0] }).push (PyProof.Rows.seqObj "list" #[] 0)).get? (s.heap.push { cls := .type "list_iterator", data := .fields #[.ref l, .int 0 0] }).objs.size = some (PyProof.Rows.seqObj "list" #[] 0) := Heap.get?_push_size _ rfl
  have nS : (s.heap.push { cls := .type "list_iterator", data := .fields #[.ref l, .int 0 0] }).objs.size ≠ s.heap.objs.size := by rw [sz]; exact Nat.succ_ne_self _
  have old : ∀ b o, s.heap.get? b = some o → ((s.heap.push { cls := .type "list_iterator", data := .fields #[.ref l, .int 0 0] }).push (PyProof.Rows.seqObj "list" #[] 0)).get? b = some o := fun b o e => Heap.get?_push_of_some _ (Heap.get?_push_of_some _ e)
  have gl := hl.at fun o e => old l o e
  have away : ∀ b o, s.heap.get? b = some o → b ∉ [s.heap.objs.size] ∧ b ≠ (s.heap.push { cls := .type "list_iterator", data := .fields #[.ref l, .int 0 0] }).objs.size := fun b o e => by
    have := Heap.lt_size e
    constructor
    · intro hm; rw [List.mem_singleton.mp hm] at this; exact Nat.lt_irrefl _ this
    · rw [sz]; exact Nat.ne_of_lt (Nat.lt_succ_of_lt this)
  refine codeAny_builtin F.entry_max_loop ?_
  rw [Around.under_plainId F.plain_max_loop _]
  refine wpAny_bind (wpAny_seqItems gS rfl ?_)
  cases e : ns with
  | nil =>
    have z : its.toArray.size = 0 := by rw [hn, e]; rfl
    refine wpAny_bind (wpAny_tryCatch (W.done _ _ _ (by rw [z]; exact ⟨gI, gl⟩) fun h' tk kept => ?_))
    refine wpAny_bind (wpAny_rule (wpAny_pure ?_))
    exact h0 e _ tk fun b o q => kept b o (away b o q).1 (old b o q)
  | cons y r =>
    have pos : 0 < its.toArray.size := by rw [hn, e]; exact Nat.succ_pos _
    refine wpAny_bind (wpAny_tryCatch (W.item 0 _ _ _ pos ⟨gI, gl⟩ fun v h' tk hv st' kept => ?_))
    have hS1 := kept _ _ (by simpa using nS) gS
    refine wpAny_bind (wpAny_pure ?_)
    refine wpAny_bind ?_
    refine wpAny_updateSeq hS1 rfl ?_
    rw [nm]
    refine wpAny_pure ⟨plainId_quiet F.plain_max_loop _, ?_⟩
    have ap : (s.heap.push { cls := .type "list_iterator", data := .fields #[.ref l, .int 0 0] }).objs.size ∉ [s.heap.objs.size, l] := by
      intro hm
      rcases List.mem_cons.mp hm with hm | hm
      · exact nS hm
      · have q := List.mem_singleton.mp hm
        rw [sz] at q
        rw [← q] at below
        exact absurd below (by simp [Nat.not_lt])
    refine maxD_turns (f := fun i => ns.getD i 0) W (fun i v h => hi i v (by simpa using h)) ap (its.toArray.size - 1) 0 0 _ v _ (by omega) (W.frame _ _ _ st' fun a ha o q => ?_) hv (Nat.le_refl _) (fun i hi => by rw [Nat.le_zero.mp hi]; exact Int.le_refl _) (Heap.get?_update_self _ hS1 rfl) fun b v' h2 tk2 lt hv' top kept' => ?_
    · exact (Heap.get?_update_other _ _ (fun z => ap (by rw [z]; exact ha))).trans q
    · obtain ⟨t, ev⟩ := hi b v' (by simpa using hv')
      subst ev
      refine h1 _ t h2 tk2 ?_ (fun x hx => ?_) fun a o q => kept' a o (away a o q).1 (away a o q).2 ((Heap.get?_update_other _ _ (Ne.symm (away a o q).2)).trans (kept a o (away a o q).1 (old a o q)))
      · have lb : b < ns.length := by rw [← hn]; exact lt
        show ns.getD b 0 ∈ ns
        rw [List.getD_eq_getElem?_getD, List.getElem?_eq_getElem lb]
        exact List.getElem_mem lb
      · obtain ⟨i, hi', rfl⟩ := List.mem_iff_getElem.mp hx
        have := top i (by rw [hn]; exact hi')
        rw [List.getD_eq_getElem?_getD, List.getElem?_eq_getElem hi'] at this
        exact this
/-- max(xs, default=z) of a list of ints -/
def rMaxDf (K : PySem.W.Frag) : List V → List V → Hp → VK → Prop := fun vs zs H Q => ∃ (a : Addr) (ns : List Int) (z : Int), vs = [.ref a] ∧ zs = [.int z] ∧ SqL K H a (ns.map V.int) ∧ (ns = [] → Q (.int z) H) ∧ ∀ m, m ∈ ns → (∀ y, y ∈ ns → y ≤ m) → Q (.int m) H
theorem cr_maxDf {X : Cx} (hc : X.calm = true) : CallRK X (.builtin "max") [Str.ofString "default"] (rMaxDf X.K) := by
  intro pins s σ H vs zs us ws Q I r rz h
  obtain ⟨a, ns, z, rfl, rfl, hs, q0, q1⟩ := h
  obtain ⟨its, rv, hl, _⟩ := I.list hs
  obtain rfl := Vals.ref1 r
  obtain ⟨w1, rfl, e1⟩ := vals1 rz
  have len : its.length = ns.length := by rw [← rv.length, List.length_map]
  refine call_maxD (ns := ns) (I.ok.hd hc) hl.isList (fun i v hv => ?_) len (fun e h' tk hk => ⟨.int z, H, I.kept hk, e1, q0 e⟩) fun m t h' tk hm top hk => ⟨.int m, H, I.kept hk, ⟨t, rfl⟩, q1 m hm top⟩
  have lt : i < ns.length := by rw [← len]; exact (List.getElem?_eq_some_iff.mp hv).1
  obtain ⟨u, hu, ru⟩ := rv.get (i := i) (x := V.int ns[i]) (by rw [List.getElem?_map, List.getElem?_eq_getElem lt]; rfl)
  rw [hv] at hu
  cases hu
  obtain ⟨t, rfl⟩ := ru
  exact ⟨t, by rw [List.getD_eq_getElem?_getD, List.getElem?_eq_getElem lt]; rfl⟩
/-! ### zip(tuple, list) -/
def Itzm (K : PySem.W.Frag) (a b : Addr) : It :=
  ⟨fun i H => ∃ (xs ys : List V) (x y : V), SqT K H a xs ∧ SqL K H b ys ∧ xs[i]? = some x ∧ ys[i]? = some y,
    fun i H v H' => ∃ T x y, v = .ref T ∧ H T = none ∧ H' = upd H T (.tup [x, y]) ∧ (∀ xs, SqT K H a xs → xs[i]? = some x) ∧ ∀ ys, SqL K H b ys → ys[i]? = some y,
    fun i H => ∃ xs ys : List V, SqT K H a xs ∧ SqL K H b ys ∧ i ≤ xs.length ∧ i ≤ ys.length ∧ (i = xs.length ∨ i = ys.length)⟩
theorem turn_zipM {P : Program} {w : World} {K : PySem.W.Frag} {elts : List Expr} {kk : Nat} {tpos : Pos} {a b z TI TO i1 i2 : Addr} (D : ZipSep2 z TI TO i1 i2 [i1, a] [i2, b]) :
    Turn P w K (.Tuple elts kk tpos) (Itzm K a b) [z, TI, TO, i1, i2] z (fun i h => IsZip h z TI TO .none ∧ IsTupOf2 h TI (.ref i1) (.ref i2) ∧ (∃ x y, IsTupOf2 h TO x y) ∧ h.IsTupleIter i1 a i ∧ h.IsListIter i2 b i) where
  mem := by simp
  obj := fun i h st c hc => by
    obtain ⟨hz, hTI, ⟨x, y, hTO⟩, ⟨o1, e1, _, d1⟩, ⟨o2, e2, _, d2⟩⟩ := st
    have which : c = z ∨ c = TI ∨ c = TO ∨ c = i1 ∨ c = i2 := by simpa using hc
    rcases which with rfl | rfl | rfl | rfl | rfl
    · exact ⟨_, hz, fun v q => nomatch q⟩
    · exact ⟨_, hTI, fun v q => nomatch q⟩
    · exact ⟨_, hTO, fun v q => nomatch q⟩
    · exact ⟨o1, e1, fun v q => by rw [d1] at q; cases q⟩
    · exact ⟨o2, e2, fun v q => by rw [d2] at q; cases q⟩
  keep := fun i h h' ⟨hz, hTI, ⟨x, y, hTO⟩, h1, h2⟩ k =>
    ⟨k z (by simp) _ hz, k TI (by simp) _ hTI, ⟨x, y, k TO (by simp) _ hTO⟩, h1.at fun o q => k i1 (by simp) o q, h2.at fun o q => k i2 (by simp) o q⟩
  item := by
    intro X hP hw hK hc i pins s σ H E I hf st hg
    subst hP hw hK
    obtain ⟨hz, hTI, ⟨x0, y0, hTO⟩, h1, h2⟩ := st
    obtain ⟨xs, ys, x, y, hqx, hqy, hx, hy⟩ := hg
    obtain ⟨its, rv, p, _⟩ := I.tuple hqx
    obtain ⟨its2, rv2, p2, _⟩ := I.list hqy
    obtain ⟨u, hu, ru⟩ := rv.get hx
    obtain ⟨u2, hu2, ru2⟩ := rv2.get hy
    have l1 : i < its.toArray.size := by have := (List.getElem?_eq_some_iff.mp hu).1; simpa using this
    have l2 : i < its2.toArray.size := by have := (List.getElem?_eq_some_iff.mp hu2).1; simpa using this
    have hzl : z < s.heap.objs.size := Heap.lt_size hz
    have ht : s.heap.IsTuple a its.toArray := p
    have a1 : a ≠ i1 := by
      intro e; subst e
      obtain ⟨o, ho, c1, _⟩ := ht
      obtain ⟨o', ho', c2, _⟩ := h1
      rw [ho] at ho'; cases ho'
      rw [c1] at c2; exact absurd c2 (by simp)
    have b2 : b ≠ i2 := by
      intro e; subst e
      obtain ⟨o, ho, c1, _⟩ := p2.isList
      obtain ⟨o', ho', c2, _⟩ := h2
      rw [ho] at ho'; cases ho'
      rw [c1] at c2; exact absurd c2 (by simp)
    refine wpAny_pyNext_zipD2_item D (Draws.tuple (A := X.A.in1) (by exact I.ok.hd hc) i1 a a1 its.toArray) (Draws.list (A := X.A.in1) (by exact I.ok.hd hc) i2 b b2 its2.toArray) hz hTI hTO ⟨h1, ht⟩ ⟨h2, p2.isList⟩ l1 l2 fun y1 y2 h' tk e1 e2 z' TO' st1 st2 hT hsz hk => ?_
    have eq1 : y1 = u := by have q : its[i]? = some y1 := by simpa using e1
                            rw [hu] at q; exact (Option.some.inj q).symm
    have eq2 : y2 = u2 := by have q : its2[i]? = some y2 := by simpa using e2
                             rw [hu2] at q; exact (Option.some.inj q).symm
    subst eq1 eq2
    have n1 : i1 ≠ z := fun q => D.zf1 (by rw [← q]; exact D.mem1)
    have n2 : i2 ≠ z := fun q => D.zf2 (by rw [← q]; exact D.mem2)
    refine ⟨_, rfl, wpAny_letOwnedTupleGo_zip (s := { s with heap := h', toks := tk }) z' fun h'' z'' sb => ?_⟩
    have hT2 : h''.get? s.heap.objs.size = some { cls := .type "tuple", data := .seq #[y1, y2] } := (sb.2 _ (Nat.ne_of_gt hzl)).trans hT
    have new : ObjOk X.prog X.w (upd H s.heap.objs.size (.tup [x, y])) h'' s.heap.objs.size (.tup [x, y]) :=
      ⟨by show 2 ≤ sizeLine; decide, [y1, y2], .cons ru (.cons ru2 .nil), ⟨_, hT2, rfl, _, rfl⟩⟩
    have I1 : Inv X pins σ (upd H s.heap.objs.size (.tup [x, y])) { s with heap := h'', toks := tk } :=
      I.turnedNew (ch := [z, TI, TO, i1, i2]) (fun c o hb q => (sb.2 c (fun q' => hb (by simp [q']))).trans (hk c o (fun q' => hb (by simp [q'])) (fun q' => hb (by simp [q'])) (fun q' => hb (by simp [q'])) (fun q' => hb (by simp [q'])) q)) hf (Nat.le_refl _) new
    refine ⟨.ref s.heap.objs.size, _, I1, rfl, ⟨_, x, y, rfl, I.hok.fresh (Nat.le_refl _), rfl, fun l hl => by rw [I.tuple_inj hl hqx]; exact hx, fun l hl => by rw [I.list_inj hl hqy]; exact hy⟩, ⟨z'', ?_, ⟨y1, y2, ?_⟩, ?_, ?_⟩, fun c hcm => ?_⟩
    · exact (sb.2 _ D.TIz).trans (hk _ _ D.TIz D.TITO D.TIi1 D.TIi2 hTI)
    · exact (sb.2 _ D.TOz).trans TO'
    · exact st1.1.at fun o q => (sb.2 _ n1).trans q
    · exact st2.1.at fun o q => (sb.2 _ n2).trans q
    · have hlt : c < s.heap.objs.size := by
        have which : c = z ∨ c = TI ∨ c = TO ∨ c = i1 ∨ c = i2 := by simpa using hcm
        rcases which with rfl | rfl | rfl | rfl | rfl
        · exact hzl
        · exact Heap.lt_size hTI
        · exact Heap.lt_size hTO
        · obtain ⟨_, e1, _⟩ := h1; exact Heap.lt_size e1
        · obtain ⟨_, e2, _⟩ := h2; exact Heap.lt_size e2
      rw [upd_ne (Nat.ne_of_lt hlt)]
      exact (hf c hcm).1
  done := by
    intro X hP hw hK hc i pins s σ H E I hf st hg
    subst hP hw hK
    obtain ⟨hz, hTI, ⟨x0, y0, hTO⟩, h1, h2⟩ := st
    obtain ⟨xs, ys, hqx, hqy, le1, le2, hend⟩ := hg
    obtain ⟨its, rv, p, _⟩ := I.tuple hqx
    obtain ⟨its2, rv2, p2, _⟩ := I.list hqy
    have q1 := rv.length
    have q2 := rv2.length
    have ht : s.heap.IsTuple a its.toArray := p
    have a1 : a ≠ i1 := by
      intro e; subst e
      obtain ⟨o, ho, c1, _⟩ := ht
      obtain ⟨o', ho', c2, _⟩ := h1
      rw [ho] at ho'; cases ho'
      rw [c1] at c2; exact absurd c2 (by simp)
    have b2 : b ≠ i2 := by
      intro e; subst e
      obtain ⟨o, ho, c1, _⟩ := p2.isList
      obtain ⟨o', ho', c2, _⟩ := h2
      rw [ho] at ho'; cases ho'
      rw [c1] at c2; exact absurd c2 (by simp)
    refine wpAny_pyNext_zipD2_end D (Draws.tuple (A := X.A.in1) (by exact I.ok.hd hc) i1 a a1 its.toArray) (Draws.list (A := X.A.in1) (by exact I.ok.hd hc) i2 b b2 its2.toArray) hz hTI hTO ⟨h1, ht⟩ ⟨h2, p2.isList⟩ (by simp; omega) (by simp; omega) (by simp; omega) fun h' tk hk => ⟨rfl, I.turnedL (ch := [z, TI, TO, i1, i2]) (fun c o hb q =>
      hk c o (fun q' => hb (by simp [q'])) (fun q' => hb (by simp [q'])) (fun q' => hb (by simp [q'])) (fun q' => hb (by simp [q'])) q) hf⟩
  self := fun A i s Q E st h => wpAny_pyIter_zip st.1 h
def iZipM (K : PySem.W.Frag) (ta : TA) : TI := fun σ H R => ta σ H fun vs H1 => ∃ a b xs ys, vs = [.ref a, .ref b] ∧ SqT K H1 a xs ∧ SqL K H1 b ys ∧ R (Itzm K a b) H1
theorem pi_zipM {X : Cx} {e e2 : Expr} {ta : TA} {p pos tpos : Pos} {elts : List Expr} {kk : Nat} (hg : Gl X "zip") (hm : X.mg "zip" = none) (ha : PA X [e, e2] ta)
    (hs : starEach [e, e2] X.env = (false, eval e X.env) :: starEach [e2] X.env := by rfl) (hpl : (backTo pos (starEach [e2] X.env)).any (·.1) = false := by rfl) :
    PI X (.Tuple elts kk tpos) (.Call (.Name "zip" p) [e, e2] [] pos) (iZipM X.K ta) := by
  refine ⟨fun pins s σ H R I h => ?_⟩
  refine Call_ (ld_blt I hg hm PyProof.Rows.boot_zip (PyProof.Rows.callWith_type1 (thn (ha.run pos pins s σ H _ I h) fun us s1 ⟨vs, H1, I1, r1, q1⟩ => ?_) hs hpl))
  obtain ⟨a, b, xs, ys, ex, hqx, hqy, q⟩ := q1
  subst ex
  cases r1 with
  | cons r rr =>
    cases rr with
    | cons r' rr =>
      cases rr
      cases r
      cases r'
      obtain ⟨its, rv, p1, _⟩ := I1.tuple hqx
      obtain ⟨its2, rv2, p2, _⟩ := I1.list hqy
      have ht : s1.heap.IsTuple a its.toArray := p1
      have la : a < s1.heap.objs.size := by obtain ⟨_, z, _⟩ := id ht; exact Heap.lt_size z
      have lb : b < s1.heap.objs.size := p2.lt
      refine zip_begins2 (begins_tuple a its.toArray) (begins_list b its2.toArray) ht p2.isList fun h' hz hTI hTO g1 g2 hsz hk => wpAny_pyIter_zip hz ?_
      have I2 : Inv X pins σ H1 { s1 with heap := h' } := I1.kept (t' := s1.toks) hk
      refine ⟨s1.heap.objs.size + 4, [s1.heap.objs.size + 4, s1.heap.objs.size + 2, s1.heap.objs.size + 3, s1.heap.objs.size, s1.heap.objs.size + 1], _, _, H1, rfl, I2,
        turn_zipM (zip_sep2 (N := s1.heap.objs.size) (fp1 := [a]) (fp2 := [b]) (fun c hc => by rw [List.mem_singleton.mp hc]; exact la) (fun c hc => by rw [List.mem_singleton.mp hc]; exact lb)), ⟨hz, hTI, ⟨_, _, hTO⟩, ⟨_, g1, rfl, rfl⟩, ⟨_, g2, rfl, rfl⟩⟩, fun c hcm => ?_, q⟩
      have which : c = s1.heap.objs.size + 4 ∨ c = s1.heap.objs.size + 2 ∨ c = s1.heap.objs.size + 3 ∨ c = s1.heap.objs.size ∨ c = s1.heap.objs.size + 1 := by simpa using hcm
      have hle : s1.heap.objs.size ≤ c := by
        rcases which with z | z | z | z | z <;> (rw [z]; first | exact Nat.le_add_right _ _ | exact Nat.le_refl _)
      exact I1.fpOk hle (I1.hok.fresh hle)
theorem walk_zipM {K : PySem.W.Frag} {a b : Addr} {xs ys : List V} (hl : xs.length = ys.length) : Walk (Itzm K a b) xs.length (fun H => SqT K H a xs ∧ SqL K H b ys) (YPair (fun i => xs[i]?) (fun i => ys[i]?)) := by
  refine ⟨fun i _ hi q => ?_, fun _ q => ⟨xs, ys, q.1, q.2, Nat.le_refl _, by omega, .inl rfl⟩, fun i H v H' _ q y => ?_⟩
  · have h2 : i < ys.length := by omega
    exact ⟨xs, ys, xs[i], ys[i], q.1, q.2, by simp [hi], by simp [h2]⟩
  · obtain ⟨T, x, z, h1, h2, h3, h4, h5⟩ := y
    exact ⟨T, x, z, h1, h2, h3, h4 xs q.1, h5 ys q.2⟩
/-! ### rows, pieces, cells -/
inductive Cell where
  | old (k : Int) | new (b : Int)
  deriving DecidableEq
inductive Row where
  | copy (b n : Int) | run (b n : Int) | bring (bs : List Int)
  deriving DecidableEq
def Cell.tup : Cell → List V
  | .old k => [.str "old", .int k]
  | .new b => [.str "new", .int b]
def Row.tup : Row → List V
  | .copy b n => [.str "copy", .int b, .int n]
  | .run b n => [.str "run", .int b, .int n]
  | .bring bs => [.str "bring", .byt (byteArr bs)]
def Row.len : Row → Int
  | .copy _ n => n
  | .run _ n => n
  | .bring bs => bs.length
def Row.ok (c : Int) : Row → Prop
  | .copy b n => 0 ≤ b ∧ 1 ≤ n ∧ b + n ≤ c
  | .run b n => 0 ≤ b ∧ b < 256 ∧ 1 ≤ n
  | .bring bs => 1 ≤ (bs.length : Int) ∧ B8 bs
def total : List Row → Int
  | [] => 0
  | r :: l => r.len + total l
theorem total_app : ∀ (a b : List Row), total (a ++ b) = total a + total b
  | [], b => by show total b = 0 + total b; omega
  | r :: a, b => by
    have := total_app a b
    show r.len + total (a ++ b) = r.len + total a + total b
    omega
theorem Row.len_pos {c : Int} : ∀ {r : Row}, r.ok c → 1 ≤ r.len
  | .copy _ _, h => h.2.1
  | .run _ _, h => h.2.2
  | .bring _, h => h.1
theorem total_nn {c : Int} : ∀ {l : List Row}, (∀ r ∈ l, r.ok c) → 0 ≤ total l
  | [], _ => by show (0 : Int) ≤ 0; decide
  | r :: l, h => by
    have a := Row.len_pos (h r List.mem_cons_self)
    have b := total_nn (l := l) fun x hx => h x (List.mem_cons_of_mem _ hx)
    show 0 ≤ r.len + total l
    omega
theorem len_le_total {c : Int} : ∀ {l : List Row}, (∀ r ∈ l, r.ok c) → (l.length : Int) ≤ total l
  | [], _ => by show (0 : Int) ≤ 0; decide
  | r :: l, h => by
    have a := Row.len_pos (h r List.mem_cons_self)
    have b := len_le_total (l := l) fun x hx => h x (List.mem_cons_of_mem _ hx)
    show ((l.length + 1 : Nat) : Int) ≤ r.len + total l
    omega
def CellV (H : Hp) (v : V) (c : Cell) : Prop := ∃ p, v = .ref p ∧ H p = some (.tup c.tup)
def PieceV (H : Hp) (v : V) (r : Row) : Prop := ∃ p, v = .ref p ∧ H p = some (.tup r.tup)
def RowV (H : Hp) (v : V) : Row → Prop
  | .bring bs => ∃ p q, v = .ref p ∧ H p = some (.tup [.str "bring", .ref q]) ∧ H q = some (.lst (bs.map V.int))
  | r => ∃ p, v = .ref p ∧ H p = some (.tup r.tup)
/-- the tuples stay -/
def Tups (H H' : Hp) : Prop := ∀ p xs, H p = some (.tup xs) → H' p = some (.tup xs)
theorem Same.tups {H H' : Hp} (s : Same H H') : Tups H H' := fun p xs h => s p _ h
theorem But.tups {K : PySem.W.Frag} {a : Addr} {ns : List Int} {d : Addr} {H H' : Hp} (b : But d H H') (D : Dice K a ns H d) : Tups H H' := fun p xs h => tup_but D b h
theorem Tups.lst {H : Hp} {p : Addr} {xs : List V} {o : HO} (h : H p = some (.lst xs)) : Tups H (upd H p o) := fun q ys e => by rw [upd_ne (ne_of e h tup_lst)]; exact e
theorem Tups.trans {H H1 H2 : Hp} (a : Tups H H1) (b : Tups H1 H2) : Tups H H2 := fun p xs h => b p xs (a p xs h)
theorem CellV.tups {H H' : Hp} {v : V} {c : Cell} (t : Tups H H') (h : CellV H v c) : CellV H' v c := let ⟨p, e, x⟩ := h; ⟨p, e, t _ _ x⟩
theorem PieceV.tups {H H' : Hp} {v : V} {c : Row} (t : Tups H H') (h : PieceV H v c) : PieceV H' v c := let ⟨p, e, x⟩ := h; ⟨p, e, t _ _ x⟩
theorem RowV.keep {H H' : Hp} {v : V} : ∀ {r : Row}, Tups H H' → (∀ q ns, H q = some (.lst (List.map V.int ns)) → H' q = some (.lst (List.map V.int ns))) → RowV H v r → RowV H' v r
  | .copy _ _, t, _, ⟨p, e, x⟩ => ⟨p, e, t _ _ x⟩
  | .run _ _, t, _, ⟨p, e, x⟩ => ⟨p, e, t _ _ x⟩
  | .bring _, t, l, ⟨p, q, e, x, y⟩ => ⟨p, q, e, t _ _ x, l _ _ y⟩
theorem RowV.same {H H' : Hp} {v : V} {r : Row} (s : Same H H') (h : RowV H v r) : RowV H' v r := h.keep (Same.tups s) (fun q ns e => s _ _ e)
theorem RowV.but {K : PySem.W.Frag} {a : Addr} {ns : List Int} {H H' : Hp} {d : Addr} {v : V} {r : Row} (D : Dice K a ns H d) (b : But d H H') (h : RowV H v r) : RowV H' v r := h.keep (But.tups b D) (fun q ns e => ints_but D b e)
theorem RowV.isRef {H : Hp} {v : V} : ∀ {r : Row}, RowV H v r → ∃ p, v = .ref p
  | .copy _ _, ⟨p, e, _⟩ => ⟨p, e⟩
  | .run _ _, ⟨p, e, _⟩ => ⟨p, e⟩
  | .bring _, ⟨p, _, e, _⟩ => ⟨p, e⟩
theorem pairedMem {α β : Type} {F G : α → β → Prop} : ∀ {l : List α} {m : List β}, Paired F l m → (∀ a ∈ l, ∀ b ∈ m, F a b → G a b) → Paired G l m
  | _, _, .nil, _ => .nil
  | _, _, .cons r t, f => .cons (f _ List.mem_cons_self _ List.mem_cons_self r) (pairedMem t fun a ha b hb => f a (List.mem_cons_of_mem _ ha) b (List.mem_cons_of_mem _ hb))
theorem pairedMap {α β : Type} {F G : α → β → Prop} {l : List α} {m : List β} (h : Paired F l m) (f : ∀ a b, F a b → G a b) : Paired G l m := pairedMem h fun a _ b _ => f a b
theorem pairedApp {α β : Type} {F : α → β → Prop} : ∀ {l l' : List α} {m m' : List β}, Paired F l m → Paired F l' m' → Paired F (l ++ l') (m ++ m')
  | _, _, _, _, .nil, s => s
  | _, _, _, _, .cons r t, s => .cons r (pairedApp t s)
theorem pairedAt {α β : Type} {F : α → β → Prop} : ∀ {l : List α} {m : List β} {i : Nat} {x : α}, Paired F l m → l[i]? = some x → ∃ y, m[i]? = some y ∧ F x y
  | _, _, _, _, .nil, e => by simp at e
  | _, _, 0, _, .cons r _, e => by simp at e; subst e; exact ⟨_, rfl, r⟩
  | _, _, i + 1, x, .cons _ t, e => by
    obtain ⟨y, h1, h2⟩ := pairedAt (i := i) (x := x) t (by simpa using e)
    exact ⟨y, by simpa using h1, h2⟩
theorem pairedAt' {α β : Type} {F : α → β → Prop} : ∀ {l : List α} {m : List β} {i : Nat} {y : β}, Paired F l m → m[i]? = some y → ∃ x, l[i]? = some x ∧ F x y
  | _, _, _, _, .nil, e => by simp at e
  | _, _, 0, _, .cons r _, e => by simp at e; subst e; exact ⟨_, rfl, r⟩
  | _, _, i + 1, y, .cons _ t, e => by
    obtain ⟨x, h1, h2⟩ := pairedAt' (i := i) (y := y) t (by simpa using e)
    exact ⟨x, by simpa using h1, h2⟩
/-- a list of rows at p -/
def RowsAt (H : Hp) (p : Addr) (rows : List Row) : Prop := ∃ vs, H p = some (.lst vs) ∧ Paired (RowV H) vs rows
def PatchAt (H : Hp) (v : V) (rows : List Row) : Prop := ∃ p vs, v = .ref p ∧ H p = some (.tup vs) ∧ Paired (PieceV H) vs rows
def CellsAt (H : Hp) (p : Addr) (cs : List Cell) : Prop := ∃ vs, H p = some (.lst vs) ∧ Paired (CellV H) vs cs
theorem RowsAt.same {H H' : Hp} {p : Addr} {rows : List Row} (s : Same H H') (h : RowsAt H p rows) : RowsAt H' p rows := let ⟨vs, e, r⟩ := h; ⟨vs, s _ _ e, pairedMap r fun _ _ x => x.same s⟩
theorem CellsAt.same {H H' : Hp} {p : Addr} {cs : List Cell} (s : Same H H') (h : CellsAt H p cs) : CellsAt H' p cs := let ⟨vs, e, r⟩ := h; ⟨vs, s _ _ e, pairedMap r fun _ _ x => x.tups (Same.tups s)⟩
theorem PatchAt.tups {H H' : Hp} {v : V} {rows : List Row} (s : Tups H H') (h : PatchAt H v rows) : PatchAt H' v rows := let ⟨p, vs, e, x, r⟩ := h; ⟨p, vs, e, s _ _ x, pairedMap r fun _ _ x => x.tups s⟩
theorem RowsAt.but {K : PySem.W.Frag} {a : Addr} {ns : List Int} {H H' : Hp} {d p : Addr} {rows : List Row} (D : Dice K a ns H d) (b : But d H H') (hn : p ≠ d) (h : RowsAt H p rows) : RowsAt H' p rows :=
  let ⟨vs, e, r⟩ := h; ⟨vs, b _ _ hn e, pairedMap r fun _ _ x => x.but D b⟩
/-- one row more at the end of the list -/
theorem rows_put {H : Hp} {p : Addr} {vs : List V} {rows : List Row} {v : V} {r : Row} (e : H p = some (.lst vs)) (h : Paired (RowV H) vs rows) (hv : RowV H v r) (hq : ∀ bs p' q, r = .bring bs → H p' = some (.tup [.str "bring", .ref q]) → v = .ref p' → q ≠ p) :
    RowsAt (upd H p (.lst (vs ++ [v]))) p (rows ++ [r]) := by
  refine ⟨_, upd_same, pairedApp (pairedMem h fun a ha b _ x => ?_) (.cons ?_ .nil)⟩
  · refine x.keep (Tups.lst e) fun q ns z => ?_
    rw [upd_ne]
    · exact z
    · rintro rfl
      rw [e] at z
      obtain ⟨u, rfl⟩ := x.isRef
      have z' : vs = ns.map V.int := by injection z with z; injection z
      rw [z'] at ha
      obtain ⟨_, _, z2⟩ := List.mem_map.mp ha
      cases z2
  · cases r with
    | copy b n => obtain ⟨u, e1, e2⟩ := hv; exact ⟨u, e1, Tups.lst e _ _ e2⟩
    | run b n => obtain ⟨u, e1, e2⟩ := hv; exact ⟨u, e1, Tups.lst e _ _ e2⟩
    | bring bs =>
      obtain ⟨u, q, e1, e2, e3⟩ := hv
      exact ⟨u, q, e1, Tups.lst e _ _ e2, by rw [upd_ne (hq bs u q rfl e2 e1)]; exact e3⟩
/-! ### _law_bytes, _law_rows, _law_handed, bytes_of, is_number, numbers_of -/
def spBytes (K : PySem.W.Frag) : Sp := fun vs H Q _ => ∃ (a : Addr) (ns : List Int) (d : Addr) (m : Int), vs = [.ref d, .int m] ∧ Dice K a ns H d ∧ 0 ≤ m ∧ m ≤ 1000 ∧
  ∀ H' p bs, But d H H' → Dice K a ns H' d → H p = none → H' p = some (.lst (List.map V.int bs)) → B8 bs → (bs.length : Int) ≤ m → Q (.ref p) H'
def spRows (K : PySem.W.Frag) : Sp := fun vs H Q _ => ∃ (a : Addr) (ns : List Int) (d : Addr) (c m : Int), vs = [.ref d, .int c, .int m] ∧ Dice K a ns H d ∧ 0 ≤ c ∧ c ≤ 1000 ∧ 0 ≤ m ∧ m ≤ 1000 ∧
  ∀ H' p rows, But d H H' → Dice K a ns H' d → H p = none → RowsAt H' p rows → (∀ r ∈ rows, r.ok c) → total rows ≤ m → Q (.ref p) H'
def spIsNum : Sp := fun vs H Q _ => ∃ z lo hi : Int, vs = [.int z, .int lo, .int hi] ∧ Q (.bl (decide (lo ≤ z) && decide (z ≤ hi))) H
def spBytesOf (K : PySem.W.Frag) : Sp := fun vs H Q _ => ∃ (p : Addr) (bs : List Int), vs = [.ref p] ∧ SqL K H p (bs.map V.int) ∧ B8 bs ∧ Q (.byt (byteArr bs)) H
def spNumsOf : Sp := fun vs H Q _ => ∃ bs : List Int, vs = [.byt (byteArr bs)] ∧ B8 bs ∧ bs.length ≤ 100000 ∧ ∀ p, H p = none → Q (.ref p) (upd H p (.lst (bs.map V.int)))
def spHanded : Sp := fun vs H Q _ => ∃ (p : Addr) (rows : List Row) (c : Int), vs = [.ref p] ∧ RowsAt H p rows ∧ (∀ r ∈ rows, r.ok c) ∧ rows.length ≤ 10000 ∧ ∀ H' v, Same H H' → PatchAt H' v rows → Q v H'
section
variable {P : Program} {w : World} {K : PySem.W.Frag} {mg : Str → Option Value} {base : Heap}
theorem ok_is_number (T : All K mg) : FnOk P w K mg base CX0 1 T.d_is_number.f T.d_is_number.fd ["what", "least", "most"] spIsNum := by
  refine T.d_is_number.F.ok sc_is_number (fun vs H Q E h => ?_) (fun cdv A outer s H vs Q E hr h => ?_)
  · obtain ⟨z, lo, hi, rfl, _⟩ := h
    rfl
  · obtain ⟨z, lo, hi, rfl, k⟩ := h
    refine ⟨_, (pss_one 
      (ps_ret (pe_and (pe_callB call_isi (by rfl) T.b_isinstance (by decide +kernel) (pa_cons (pv 0) (pa_cons (pe_bltn (v := .ty "int") (by rfl) T.b_int (by decide +kernel) rfl) pa_nil))) (pe_and (pe_not (pe_callB call_isi (by rfl) T.b_isinstance (by decide +kernel) (pa_cons (pv 0) (pa_cons (pe_bltn (v := .ty "bool") (by rfl) T.b_bool (by decide +kernel) rfl) pa_nil)))) (pe_one (pe_chain op_le op_le (pv 1) (pv 0) (pv 2))))))), ?_⟩
    refine ⟨_, rfl, _, _, _, _, true, rfl, .ty _, .base (.int z), kit_ty (by decide +kernel), true, rfl, iteT ?_⟩
    refine ⟨_, rfl, _, _, _, _, false, rfl, .ty _, .base (.int z), kit_ty (by decide +kernel), false, rfl, true, rfl, iteT ?_⟩
    refine ⟨_, rfl, _, rfl, _, _, rfl, rfl, decide (lo ≤ z), rfl, ?_⟩
    by_cases h1 : lo ≤ z
    · rw [decide_eq_true h1] at k ⊢
      refine iteT ⟨_, rfl, _, _, rfl, rfl, ?_⟩
      exact k
    · rw [decide_eq_false h1] at k ⊢
      exact iteF k
theorem ok_bytes_of (T : All K mg) : FnOk P w K mg base CX0 2 T.d_bytes_of.f T.d_bytes_of.fd ["numbers"] (spBytesOf K) := by
  have G_is_number : FnOk P w K mg base CX0 1 T.d_is_number.f T.d_is_number.fd ["what", "least", "most"] spIsNum := ok_is_number T
  refine T.d_bytes_of.F.ok sc_bytes_of (fun vs H Q E h => ?_) (fun cdv A outer s H vs Q E hr h => ?_)
  · obtain ⟨p, bs, rfl, _⟩ := h
    rfl
  · obtain ⟨p, bs, rfl, hS, hb, k⟩ := h
    refine ⟨_, (pss_cons 
      (ps_for PassesOwn.never rfl (pi_list (pv 0)) (pg_name (i := 1) sc_bytes_of.nd rfl (Or.inl rfl)) (pss_one 
      (ps_if (pt_not (pt_val (pe_call G_is_number (hr.mono (by decide)) rfl T.d_is_number.m T.d_is_number.F.kp T.d_is_number.b .nil pass0 (pa_cons (pv 1) (pa_cons pe_int (pa_cons (pe_glob (v := .int 255) rfl T.c_LAST_BYTE ⟨_, rfl⟩) pa_nil)))))) (pss_one ps_never) pss_nil))) (pss_one 
      (ps_ret (pe_bytesOf rfl (by rfl) T.b_bytes (pv 0))))), ?_⟩
    refine ⟨_, rfl, p, rfl, ⟨_, hS⟩, for_list (K := K) (a := p) (xs := bs.map V.int) (fun i σ H' => ∃ v : Option V, σ = [some (.ref p), v] ∧ H' = H)
      ⟨none, rfl, rfl⟩ (fun i σ H' _ ⟨_, _, e⟩ => by rw [e]; exact hS) ?_ ?_⟩
    · rintro i y σ H' hi ⟨v, rfl, rfl⟩
      obtain ⟨z, rfl, hz⟩ := at_map hi
      have hm := hb z (List.mem_of_getElem? hz)
      refine ⟨_, rfl, z, 0, 255, rfl, _, rfl, ?_⟩
      rw [decide_eq_true hm.1, decide_eq_true (show z ≤ 255 by omega)]
      refine iteF ?_
      exact ⟨_, rfl, rfl⟩
    · rintro σ H' ⟨v, rfl, rfl⟩
      refine ⟨_, rfl, .inr ⟨p, bs, rfl, hS, hb, k⟩⟩
theorem ok_numbers_of (T : All K mg) : FnOk P w K mg base CX0 1 T.d_numbers_of.f T.d_numbers_of.fd ["some"] spNumsOf := by
  refine T.d_numbers_of.F.ok sc_numbers_of (fun vs H Q E h => ?_) (fun cdv A outer s H vs Q E hr h => ?_)
  · obtain ⟨bs, rfl, _⟩ := h
    rfl
  · obtain ⟨bs, rfl, hb, hl, k⟩ := h
    refine ⟨_, (pss_one 
      (ps_ret (pe_listOfB rfl (by rfl) T.b_list (pv 0)))), ?_⟩
    refine ⟨_, rfl, _, rfl, by rw [byteArr_size]; exact sizeS hl, fun q hq => ?_⟩
    rw [bi_make hb]
    exact k q hq
theorem ok_law_bytes (T : All K mg) : FnOk P w K mg base CX0 2 T.d_law_bytes.f T.d_law_bytes.fd ["_law_d", "_law_most"] (spBytes K) := by
  have G_law_next : FnOk P w K mg base CX0 1 T.d_law_next.f T.d_law_next.fd ["_law_dice_here", "_law_many"] (spNext K) := ok_law_next T
  refine T.d_law_bytes.F.ok sc_law_bytes (fun vs H Q E h => ?_) (fun cdv A outer s H vs Q E hr h => ?_)
  · obtain ⟨_, _, d, m, rfl, _⟩ := h
    rfl
  · obtain ⟨a, ns, d, m, rfl, D, m0, m1, k⟩ := h
    refine ⟨_, (pss_cons 
      (ps_set (i := 2) sc_law_bytes.nd rfl (Or.inr rfl) (pe_ix ix_list (pe_lst (pa_cons pe_int (pa_cons pe_int (pa_cons pe_int (pa_cons pe_int pa_nil))))) (pe_call G_law_next (hr.mono (by decide)) rfl T.d_law_next.m T.d_law_next.F.kp T.d_law_next.b .nil pass0 (pa_cons (pv 0) (pa_cons pe_int pa_nil))) (fun _ _ => rfl))) (pss_one 
      (ps_ret (pe_lc (own := [("_law_k", 3)]) (g := gName 3) (tt := tYes) rfl sc_law_bytes.nd (pi_range1 (by rfl) T.b_range (pa_cons (pe_call G_law_next (hr.mono (by decide)) rfl T.d_law_next.m T.d_law_next.F.kp T.d_law_next.b .nil pass0 (pa_cons (pv 0) (pa_cons (pe_op op_add (pv 1) pe_int) pa_nil))) pa_nil)) (blkOk_by (own := [("_law_k", 3)]) (N := ["_law_d", "_law_most", "_law_kinds", "_law_k"]) (sc := defScope s_law_bytes) (by decide +kernel)) (fun _ _ _ _ _ => (pg_name (i := 3) sc_law_bytes.nd rfl (Or.inl rfl))) (fun _ _ _ _ _ => pts_nil) (fun _ _ _ _ _ => (pe_op op_mod (pe_callTy call_int1 (by rfl) T.b_int PyProof.Rows.boot_int (pa_cons (pe_op op_mul (pe_call G_law_next (hr.mono (by decide)) rfl T.d_law_next.m T.d_law_next.F.kp T.d_law_next.b .nil pass0 (pa_cons (pv 0) (pa_cons (pv 2) pa_nil))) (pe_ix (ixlK (K := K) rfl) (pe_lst (pa_cons pe_int (pa_cons pe_int pa_nil))) (pe_callTy call_int1 (by rfl) T.b_int PyProof.Rows.boot_int (pa_cons (pe_cmpR op_lt (pv 2) pe_int (nomark _)) pa_nil)) (fun _ _ => rfl))) pa_nil)) pe_int)))))), ?_⟩
    -- _law_kinds
    refine ⟨sizeS (by show 4 ≤ 100000; decide), fun l hl => ⟨_, rfl, a, ns, d, 4, rfl, D.same (Same.new hl), by decide, by decide, fun H1 r b1 D1 r0 r1 => ?_⟩⟩
    have hl1 : H1 l = some (.lst (List.map V.int [1, 2, 3, 256])) := ints_but (D.same (Same.new hl)) b1 (by exact upd_same)
    obtain ⟨kd, hk, k0, k1⟩ : ∃ kd : Int, atI (List.map V.int [1, 2, 3, 256]) r = some (.int kd) ∧ 1 ≤ kd ∧ kd ≤ 256 := by
      have : r = 0 ∨ r = 1 ∨ r = 2 ∨ r = 3 := by omega
      rcases this with rfl | rfl | rfl | rfl
      · exact ⟨1, rfl, by decide, by decide⟩
      · exact ⟨2, rfl, by decide, by decide⟩
      · exact ⟨3, rfl, by decide, by decide⟩
      · exact ⟨256, rfl, by decide, by decide⟩
    have bb1 : But d H H1 := (But.new hl).trans b1
    refine ⟨l, _, _, _, rfl, rfl, SqL.of hl1, hk, ?_⟩
    -- the comprehension
    refine ⟨_, rfl, _, rfl, _, _, rfl, rfl, a, ns, d, m + 1, rfl, D1, by omega, by omega, fun H2 t b2 D2 t0 t1 => ?_⟩
    refine ⟨t, rfl, by omega, by omega, fun p hp => lc_range (lo := 0) (n := t.toNat) (fun i H3 => ∃ bs : List Int, But d H2 H3 ∧ Dice K a ns H3 d ∧ H3 p = some (.lst (bs.map V.int)) ∧ B8 bs ∧ bs.length ≤ i)
      ⟨[], But.new hp, D2.same (Same.new hp), upd_same, fun n hn => (List.not_mem_nil hn).elim, Nat.le_refl _⟩ ?_ ?_⟩
    · rintro i H3 hi ⟨bs, b3, D3, hp3, hb, hlen⟩
      refine ⟨rfl, ?_⟩
      refine ⟨_, rfl, _, rfl, a, ns, d, kd, rfl, D3, by omega, by omega, fun H4 u b4 D4 u0 u1 => ?_⟩
      refine ⟨sizeS (by show 2 ≤ 100000; decide), fun l2 hl2 => ⟨_, rfl, _, _, rfl, rfl, .inr ⟨_, rfl, ?_⟩⟩⟩
      have e2 : ∃ x : Int, atI (List.map V.int [1, 97]) (if decide (kd < 4) = true then 1 else 0) = some (.int x) ∧ 1 ≤ x ∧ x ≤ 97 := by
        by_cases c : kd < 4
        · rw [decide_eq_true c]; exact ⟨97, rfl, by decide, by decide⟩
        · rw [decide_eq_false c]; exact ⟨1, rfl, by decide, by decide⟩
      obtain ⟨x, hx, x0, x1⟩ := e2
      refine ⟨l2, _, _, _, rfl, rfl, SqL.of (by exact upd_same), hx, _, _, rfl, rfl, .inl ⟨by omega, by omega⟩, .inl ⟨_, rfl, _, _, rfl, rfl, (by show (0 : Int) < 256; decide), ?_⟩⟩
      have hp4 : H4 p = some (.lst (bs.map V.int)) := b4 p _ (D2.ne hp) hp3
      have np : p ≠ l2 := ne_of_none hp4 hl2
      have b5 : But d H2 (upd H4 l2 (.lst (List.map V.int [1, 97]))) := (b3.trans b4).trans (But.new hl2)
      refine ⟨_, (by rw [upd_ne np]; exact hp4), sizeL (by rw [List.length_map]; omega), bs ++ [u * x % 256], But.fresh b5 hp, Dice.fresh D2 b5 hp (D4.same (Same.new hl2)), ?_, ?_, ?_⟩
      · rw [upd_same, List.map_append]; rfl
      · exact hb.app (fun n hn => by
          rw [List.mem_singleton.mp hn]
          exact ⟨Int.emod_nonneg _ (by decide), Int.emod_lt_of_pos _ (by decide)⟩)
      · rw [List.length_append]; show bs.length + 1 ≤ i + 1; omega
    · rintro H3 ⟨bs, b3, D3, hp3, hb, hlen⟩
      exact k H3 p bs ((bb1.trans b2).trans b3) D3 (none_but D D2 (bb1.trans b2) hp) hp3 hb (by omega)
end
section
variable {P : Program} {w : World} {K : PySem.W.Frag} {mg : Str → Option Value} {base : Heap}
theorem RowsAt.at {H : Hp} {p : Addr} {rows : List Row} (h : RowsAt H p rows) : ∃ vs, H p = some (.lst vs) ∧ vs.length = rows.length := by
  obtain ⟨vs, e, r⟩ := h
  exact ⟨vs, e, Paired.length r⟩
end
/-! ### what a patch tells -/
def cellsR : Row → List Cell
  | .copy b n => (List.range n.toNat).map fun i => Cell.old (b + (i : Nat))
  | .run b n => List.replicate n.toNat (Cell.new b)
  | .bring bs => bs.map Cell.new
def cellsOf (rows : List Row) : List Cell := rows.flatMap cellsR
def Good (rows : List Row) : Prop := (∀ r ∈ rows, r.ok 200) ∧ total rows ≤ 200
def endsOf : List Row → List Int
  | [] => []
  | .copy b n :: l => (b + n) :: endsOf l
  | _ :: l => endsOf l
def top0 : List Int → Int
  | [] => 0
  | x :: l => if top0 l < x then x else top0 l
def needsOf (rows : List Row) : Int := top0 (endsOf rows)
def valOf (es : List Int) : Cell → Int
  | .old k => es.getD k.toNat 0
  | .new b => b
def doneOf (rows : List Row) (es : List Int) : List Int := (cellsOf rows).map (valOf es)
theorem Row.ok_mono {c e : Int} (h : c ≤ e) : ∀ {r : Row}, r.ok c → r.ok e
  | .copy _ _, ⟨a, b, d⟩ => ⟨a, b, by omega⟩
  | .run _ _, x => x
  | .bring _, x => x
theorem top0_ge : ∀ {l : List Int} {y : Int}, y ∈ l → y ≤ top0 l
  | x :: l, y, h => by
    show y ≤ if top0 l < x then x else top0 l
    rcases List.mem_cons.mp h with rfl | h
    · split <;> omega
    · have := top0_ge h
      split <;> omega
theorem top0_is : ∀ (l : List Int), top0 l = 0 ∨ top0 l ∈ l
  | [] => .inl rfl
  | x :: l => by
    show (if top0 l < x then x else top0 l) = 0 ∨ (if top0 l < x then x else top0 l) ∈ x :: l
    split
    · exact .inr List.mem_cons_self
    · rcases top0_is l with h | h
      · exact .inl h
      · exact .inr (List.mem_cons_of_mem _ h)
theorem top0_nn : ∀ (l : List Int), 0 ≤ top0 l
  | [] => by show (0 : Int) ≤ 0; decide
  | x :: l => by
    have := top0_nn l
    show (0 : Int) ≤ if top0 l < x then x else top0 l
    split <;> omega
theorem ends_pos {c : Int} : ∀ {l : List Row}, (∀ r ∈ l, r.ok c) → ∀ y ∈ endsOf l, 0 < y
  | [], _, y, hy => (List.not_mem_nil hy).elim
  | .copy b n :: l, h, y, hy => by
    have h0 := h _ List.mem_cons_self
    rcases List.mem_cons.mp hy with rfl | hy
    · have := h0.1; have := h0.2.1; omega
    · exact ends_pos (fun r hr => h r (List.mem_cons_of_mem _ hr)) y hy
  | .run b n :: l, h, y, hy => ends_pos (fun r hr => h r (List.mem_cons_of_mem _ hr)) y hy
  | .bring bs :: l, h, y, hy => ends_pos (fun r hr => h r (List.mem_cons_of_mem _ hr)) y hy
theorem top0_eq {l : List Int} {m : Int} (hm : m ∈ l) (hp : 0 < m) (ht : ∀ y, y ∈ l → y ≤ m) : m = top0 l := by
  have h1 := top0_ge hm
  rcases top0_is l with h | h
  · omega
  · have := ht _ h; omega
theorem cellsR_len {c : Int} : ∀ {r : Row}, r.ok c → ((cellsR r).length : Int) = r.len
  | .copy b n, h => by
    have := h.2.1
    show ((((List.range n.toNat).map fun i => Cell.old (b + (i : Nat))).length : Nat) : Int) = n
    rw [List.length_map, List.length_range]; omega
  | .run b n, h => by
    have := h.2.2
    show (((List.replicate n.toNat (Cell.new b)).length : Nat) : Int) = n
    rw [List.length_replicate]; omega
  | .bring bs, h => by
    show (((bs.map Cell.new).length : Nat) : Int) = bs.length
    rw [List.length_map]
theorem cellsOf_len {c : Int} : ∀ {l : List Row}, (∀ r ∈ l, r.ok c) → ((cellsOf l).length : Int) = total l
  | [], _ => rfl
  | r :: l, h => by
    have a := cellsR_len (h r List.mem_cons_self)
    have b := cellsOf_len (l := l) fun x hx => h x (List.mem_cons_of_mem _ hx)
    show ((((cellsR r) ++ cellsOf l).length : Nat) : Int) = r.len + total l
    rw [List.length_append]; omega
theorem take_snoc {α : Type} {l : List α} {i : Nat} {x : α} (h : l[i]? = some x) : l.take (i + 1) = l.take i ++ [x] := by rw [List.take_add_one, h]; rfl
theorem total_take {l : List Row} {i : Nat} {r : Row} (h : l[i]? = some r) : total (l.take (i + 1)) = total (l.take i) + r.len := by
  rw [take_snoc h, total_app]
  show total (l.take i) + (r.len + 0) = _
  omega
theorem total_take_le {c : Int} {l : List Row} (h : ∀ r ∈ l, r.ok c) (i : Nat) : total (l.take i) ≤ total l := by
  have e := total_app (l.take i) (l.drop i)
  rw [List.take_append_drop] at e
  have := total_nn (l := l.drop i) fun r hr => h r (List.mem_of_mem_drop hr)
  omega
theorem len_le_of {c : Int} {l : List Row} (h : ∀ r ∈ l, r.ok c) {r : Row} (hr : r ∈ l) : r.len ≤ total l := by
  obtain ⟨i, hi, rfl⟩ := List.mem_iff_getElem.mp hr
  have a := total_take (List.getElem?_eq_getElem hi)
  have b := total_take_le h (i + 1)
  have d := total_nn (l := l.take i) fun r hr => h r (List.mem_of_mem_take hr)
  omega
theorem CellsAt.len {H : Hp} {p : Addr} {cs : List Cell} (h : CellsAt H p cs) : ∃ vs, H p = some (.lst vs) ∧ Paired (CellV H) vs cs ∧ vs.length = cs.length := let ⟨vs, e, r⟩ := h; ⟨vs, e, r, Paired.length r⟩
/-! ### the promises -/
def spCanBe : Sp := fun vs H Q _ => ∃ (p : Addr) (r : Row), vs = [.ref p] ∧ H p = some (.tup r.tup) ∧ r.ok 200 ∧ r.len ≤ 200 ∧ Q (.bl true) H
def spLengthOf : Sp := fun vs H Q _ => ∃ (p : Addr) (r : Row), vs = [.ref p] ∧ H p = some (.tup r.tup) ∧ r.ok 200 ∧ r.len ≤ 200 ∧ Q (.int r.len) H
def spCellsOf : Sp := fun vs H Q _ => ∃ (p : Addr) (r : Row), vs = [.ref p] ∧ H p = some (.tup r.tup) ∧ r.ok 200 ∧ r.len ≤ 200 ∧ ∀ H' q, Same H H' → H q = none → CellsAt H' q (cellsR r) → Q (.ref q) H'
def spCheckPatch : Sp := fun vs H Q _ => ∃ (v : V) (rows : List Row), vs = [v] ∧ PatchAt H v rows ∧ Good rows ∧ ∀ H', Same H H' → Q .non H'
def spCheckEdition : Sp := fun vs H Q _ => ∃ es : List Int, vs = [.byt (byteArr es)] ∧ es.length ≤ 200 ∧ Q .non H
def spCheckReach : Sp := fun vs H Q _ => ∃ (v : V) (rows : List Row) (es : List Int), vs = [v, .byt (byteArr es)] ∧ PatchAt H v rows ∧ (∀ r ∈ rows, r.ok es.length) ∧ es.length ≤ 200 ∧ ∀ H', Same H H' → Q .non H'
def spCells : Sp := fun vs H Q _ => ∃ (v : V) (rows : List Row), vs = [v] ∧ PatchAt H v rows ∧ Good rows ∧ ∀ H' p, Same H H' → H p = none → CellsAt H' p (cellsOf rows) → Q (.ref p) H'
def spMakes : Sp := fun vs H Q _ => ∃ (v : V) (rows : List Row), vs = [v] ∧ PatchAt H v rows ∧ Good rows ∧ ∀ H', Same H H' → Q (.int (total rows)) H'
def spNeeds : Sp := fun vs H Q _ => ∃ (v : V) (rows : List Row), vs = [v] ∧ PatchAt H v rows ∧ Good rows ∧ ∀ H', Same H H' → Q (.int (needsOf rows)) H'
def spDone : Sp := fun vs H Q _ => ∃ (v : V) (rows : List Row) (es : List Int), vs = [v, .byt (byteArr es)] ∧ PatchAt H v rows ∧ Good rows ∧ (∀ r ∈ rows, r.ok es.length) ∧ B8 es ∧ es.length ≤ 200 ∧ ∀ H', Same H H' → Q (.byt (byteArr (doneOf rows es))) H'
section
variable {P : Program} {w : World} {K : PySem.W.Frag} {mg : Str → Option Value} {base : Heap}
theorem ok_length_of (T : All K mg) : FnOk P w K mg base CX0 1 T.d_length_of.f T.d_length_of.fd ["piece"] spLengthOf := by
  refine T.d_length_of.F.ok sc_length_of (fun vs H Q E h => ?_) (fun cdv A outer s H vs Q E hr h => ?_)
  · obtain ⟨p, _, rfl, _⟩ := h
    rfl
  · obtain ⟨p, r, rfl, hp, hok, hl, k⟩ := h
    refine ⟨_, (pss_cons 
      (ps_if (pt_cmpR op_eq (pe_ix ix_tup (pv 0) pe_int (fun _ _ => rfl)) pe_str (nomark _)) (pss_one 
      (ps_ret (pe_callB call_len (by rfl) T.b_len PySem.boot_len (pa_cons (pe_ix ix_tup (pv 0) pe_int (fun _ _ => rfl)) pa_nil)))) pss_nil) (pss_one 
      (ps_ret (pe_ix ix_tup (pv 0) pe_int (fun _ _ => rfl))))), ?_⟩
    cases r with
    | copy b n =>
      refine ⟨_, rfl, p, _, _, _, rfl, rfl, SqT.of hp, rfl, rfl, _, rfl, ite2 (fun h => absurd h (by decide)) fun _ => ?_⟩
      exact ⟨_, rfl, p, _, _, _, rfl, rfl, SqT.of hp, rfl, k⟩
    | run b n =>
      refine ⟨_, rfl, p, _, _, _, rfl, rfl, SqT.of hp, rfl, rfl, _, rfl, ite2 (fun h => absurd h (by decide)) fun _ => ?_⟩
      exact ⟨_, rfl, p, _, _, _, rfl, rfl, SqT.of hp, rfl, k⟩
    | bring bs =>
      refine ⟨_, rfl, p, _, _, _, rfl, rfl, SqT.of hp, rfl, rfl, _, rfl, ite2 (fun _ => ?_) fun h => absurd (by decide) h⟩
      have hl : (bs.length : Int) ≤ 200 := hl
      refine ⟨_, rfl, p, _, _, _, rfl, rfl, SqT.of hp, rfl, _, bs.length, rfl, ⟨by rw [byteArr_size]; exact sizeS (by omega), (byteArr_size bs).symm⟩, k⟩
theorem ok_can_be (T : All K mg) : FnOk P w K mg base CX0 2 T.d_can_be.f T.d_can_be.fd ["piece"] spCanBe := by
  have G_is_number : FnOk P w K mg base CX0 1 T.d_is_number.f T.d_is_number.fd ["what", "least", "most"] spIsNum := ok_is_number T
  refine T.d_can_be.F.ok sc_can_be (fun vs H Q E h => ?_) (fun cdv A outer s H vs Q E hr h => ?_)
  · obtain ⟨p, _, rfl, _⟩ := h
    rfl
  · obtain ⟨p, r, rfl, hp, hok, hl, k⟩ := h
    refine ⟨_, (pss_cons 
      (ps_if (pt_not (pt_val (pe_callB call_isi (by rfl) T.b_isinstance (by decide +kernel) (pa_cons (pv 0) (pa_cons (pe_bltn (v := .ty "tuple") (by rfl) T.b_tuple (by decide +kernel) rfl) pa_nil))))) (pss_one 
      (ps_ret pe_bl)) pss_nil) (pss_cons 
      (ps_if (pt_cmpR op_eq (pe_callB call_len (by rfl) T.b_len PySem.boot_len (pa_cons (pv 0) pa_nil)) pe_int (nomark _)) (pss_cons 
      (ps_asg (pv 0) (pg_tup rfl (pgs_cons (pg_name (i := 1) sc_can_be.nd rfl (Or.inl rfl)) (pgs_cons (pg_name (i := 2) sc_can_be.nd rfl (Or.inl rfl)) pgs_nil)))) (pss_one 
      (ps_ret (pe_and (pe_cmpR op_eq (pv 1) pe_str (nomark _)) (pe_and (pe_callB call_isi (by rfl) T.b_isinstance (by decide +kernel) (pa_cons (pv 2) (pa_cons (pe_bltn (v := .ty "bytes") (by rfl) T.b_bytes (by decide +kernel) rfl) pa_nil))) (pe_one (pe_chain op_le op_le pe_int (pe_callB call_len (by rfl) T.b_len PySem.boot_len (pa_cons (pv 2) pa_nil)) (pe_glob (v := .int 200) rfl T.c_MOST ⟨_, rfl⟩)))))))) pss_nil) (pss_cons 
      (ps_if (pt_cmpR op_ne (pe_callB call_len (by rfl) T.b_len PySem.boot_len (pa_cons (pv 0) pa_nil)) pe_int (nomark _)) (pss_one 
      (ps_ret pe_bl)) pss_nil) (pss_cons 
      (ps_asg (pv 0) (pg_tup rfl (pgs_cons (pg_name (i := 1) sc_can_be.nd rfl (Or.inl rfl)) (pgs_cons (pg_name (i := 3) sc_can_be.nd rfl (Or.inl rfl)) (pgs_cons (pg_name (i := 4) sc_can_be.nd rfl (Or.inl rfl)) pgs_nil))))) (pss_cons 
      (ps_if (pt_not (pt_val (pe_call G_is_number (hr.mono (by decide)) rfl T.d_is_number.m T.d_is_number.F.kp T.d_is_number.b .nil pass0 (pa_cons (pv 4) (pa_cons pe_int (pa_cons (pe_glob (v := .int 200) rfl T.c_MOST ⟨_, rfl⟩) pa_nil)))))) (pss_one 
      (ps_ret pe_bl)) pss_nil) (pss_cons 
      (ps_if (pt_cmpR op_eq (pv 1) pe_str (nomark _)) (pss_one 
      (ps_ret (pe_call G_is_number (hr.mono (by decide)) rfl T.d_is_number.m T.d_is_number.F.kp T.d_is_number.b .nil pass0 (pa_cons (pv 3) (pa_cons pe_int (pa_cons (pe_op op_sub (pe_glob (v := .int 200) rfl T.c_MOST ⟨_, rfl⟩) (pv 4)) pa_nil)))))) pss_nil) (pss_one 
      (ps_ret (pe_and (pe_cmpR op_eq (pv 1) pe_str (nomark _)) (pe_one (pe_call G_is_number (hr.mono (by decide)) rfl T.d_is_number.m T.d_is_number.F.kp T.d_is_number.b .nil pass0 (pa_cons (pv 3) (pa_cons pe_int (pa_cons (pe_glob (v := .int 255) rfl T.c_LAST_BYTE ⟨_, rfl⟩) pa_nil)))))))))))))), ?_⟩
    refine ⟨_, rfl, _, _, _, _, true, rfl, .ty _, .base (.tup hp), kit_ty (by decide +kernel), true, rfl, iteF ?_⟩
    cases r with
    | copy b n =>
      have h1 := hok.1
      have h2 := hok.2.1
      have h3 := hok.2.2
      have h4 : n ≤ 200 := hl
      refine ⟨_, rfl, _, 3, rfl, .inr ⟨_, SqT.of hp, rfl⟩, rfl, _, rfl, ite2 (fun h => absurd h (by decide)) fun _ => ?_⟩
      refine ⟨_, rfl, _, 3, rfl, .inr ⟨_, SqT.of hp, rfl⟩, rfl, _, rfl, ite2 (fun h => absurd h (by decide)) fun _ => ?_⟩
      refine ⟨_, rfl, p, _, rfl, SqT.of hp, rfl, _, _, rfl, _, _, rfl, _, _, rfl, rfl, ?_⟩
      refine ⟨_, rfl, n, 1, 200, rfl, _, rfl, ?_⟩
      rw [decide_eq_true h2, decide_eq_true h4]
      refine iteF ?_
      refine ⟨_, rfl, rfl, _, rfl, ite2 (fun _ => ?_) fun h => absurd (by decide) h⟩
      refine ⟨_, rfl, _, rfl, _, _, rfl, rfl, b, 0, 200 - n, rfl, ?_⟩
      rw [decide_eq_true h1, decide_eq_true (show b ≤ 200 - n by omega)]
      exact k
    | run b n =>
      have h1 := hok.1
      have h2 := hok.2.1
      have h3 := hok.2.2
      have h4 : n ≤ 200 := hl
      refine ⟨_, rfl, _, 3, rfl, .inr ⟨_, SqT.of hp, rfl⟩, rfl, _, rfl, ite2 (fun h => absurd h (by decide)) fun _ => ?_⟩
      refine ⟨_, rfl, _, 3, rfl, .inr ⟨_, SqT.of hp, rfl⟩, rfl, _, rfl, ite2 (fun h => absurd h (by decide)) fun _ => ?_⟩
      refine ⟨_, rfl, p, _, rfl, SqT.of hp, rfl, _, _, rfl, _, _, rfl, _, _, rfl, rfl, ?_⟩
      refine ⟨_, rfl, n, 1, 200, rfl, _, rfl, ?_⟩
      rw [decide_eq_true h3, decide_eq_true h4]
      refine iteF ?_
      refine ⟨_, rfl, rfl, _, rfl, ite2 (fun h => absurd h (by decide)) fun _ => ?_⟩
      refine ⟨_, rfl, rfl, _, rfl, ite2 (fun _ => ?_) fun h => absurd (by decide) h⟩
      refine ⟨_, rfl, b, 0, 255, rfl, ?_⟩
      rw [decide_eq_true h1, decide_eq_true (show b ≤ 255 by omega)]
      exact k
    | bring bs =>
      have h1 : 1 ≤ (bs.length : Int) := hok.1
      have h4 : (bs.length : Int) ≤ 200 := hl
      refine ⟨_, rfl, _, 2, rfl, .inr ⟨_, SqT.of hp, rfl⟩, rfl, _, rfl, ite2 (fun _ => ?_) fun h => absurd (by decide) h⟩
      refine ⟨_, rfl, p, _, rfl, SqT.of hp, rfl, _, _, rfl, _, _, rfl, rfl, ?_⟩
      refine ⟨_, rfl, rfl, _, rfl, ite2 (fun _ => ?_) fun h => absurd (by decide) h⟩
      refine ⟨_, rfl, _, _, _, _, true, rfl, .ty _, .byt _, kit_ty (by decide +kernel), true, rfl, iteT ?_⟩
      refine ⟨_, rfl, _, bs.length, rfl, ⟨by rw [byteArr_size]; exact sizeS (by omega), (byteArr_size bs).symm⟩, _, _, rfl, rfl, _, rfl, ?_⟩
      rw [decide_eq_true h1]
      refine iteT ⟨_, _, rfl, rfl, ?_⟩
      show Q (.bl (decide ((bs.length : Int) ≤ 200))) H
      rw [decide_eq_true h4]
      exact k
end
theorem cell_more {H H2 : Hp} {D : Addr} {ws : List V} {cs : List Cell} {c : Cell} {t : Addr} (hD : H D = none) (s2 : Same H H2) (hw : H2 D = some (.lst ws)) (pw : Paired (CellV H2) ws cs) (ht : H2 t = none) :
    Same H (upd (upd H2 t (.tup c.tup)) D (.lst (ws ++ [.ref t]))) ∧ Paired (CellV (upd (upd H2 t (.tup c.tup)) D (.lst (ws ++ [.ref t])))) (ws ++ [.ref t]) (cs ++ [c]) := by
  have hw' : (upd H2 t (.tup c.tup)) D = some (.lst ws) := Same.new ht _ _ hw
  refine ⟨fun b o e => ?_, pairedApp (pairedMap pw fun _ _ x => (x.tups (Same.tups (Same.new ht))).tups (Tups.lst hw')) (.cons ⟨t, rfl, Tups.lst hw' _ _ upd_same⟩ .nil)⟩
  rw [upd_ne (ne_of_none e hD)]
  exact Same.new ht _ _ (s2 _ _ e)
theorem rep_flat {α : Type} (x : α) : ∀ m : Nat, (List.replicate m [x]).flatten = List.replicate m x
  | 0 => rfl
  | m + 1 => by rw [List.replicate_succ, List.replicate_succ, List.flatten_cons, rep_flat x m]; rfl
theorem paired_rep {α β : Type} {F : α → β → Prop} {x : α} {y : β} (h : F x y) : ∀ m : Nat, Paired F (List.replicate m x) (List.replicate m y)
  | 0 => .nil
  | m + 1 => .cons h (paired_rep h m)
theorem cellsOf_take {rows : List Row} {i : Nat} {r : Row} (h : rows[i]? = some r) : cellsOf (rows.take (i + 1)) = cellsOf (rows.take i) ++ cellsR r := by
  rw [take_snoc h]
  show (rows.take i ++ [r]).flatMap cellsR = _
  rw [List.flatMap_append, List.flatMap_cons, List.flatMap_nil, List.append_nil]
  rfl
/-- what a cell may be -/
theorem cells_fit {c : Int} {rows : List Row} (hre : ∀ r ∈ rows, r.ok c) : ∀ cl ∈ cellsOf rows, (∃ n, cl = .old n ∧ 0 ≤ n ∧ n < c) ∨ ∃ b, cl = .new b ∧ 0 ≤ b ∧ b < 256 := by
  intro cl hcl
  obtain ⟨r, hr1, hr2⟩ := List.mem_flatMap.mp hcl
  have ho := hre r hr1
  cases r with
  | copy b n =>
    obtain ⟨i, hi, rfl⟩ := List.mem_map.mp hr2
    have hi := List.mem_range.mp hi
    have h1 := ho.1
    have h2 := ho.2.1
    have h3 := ho.2.2
    exact .inl ⟨_, rfl, by omega, by omega⟩
  | run b n =>
    rw [List.eq_of_mem_replicate hr2]
    exact .inr ⟨_, rfl, ho.1, ho.2.1⟩
  | bring bs =>
    obtain ⟨z, hz, rfl⟩ := List.mem_map.mp hr2
    exact .inr ⟨_, rfl, (ho.2 z hz).1, (ho.2 z hz).2⟩
theorem done_B8 {rows : List Row} {es : List Int} (hre : ∀ r ∈ rows, r.ok es.length) (hb : B8 es) : B8 (doneOf rows es) := fun z hz => by
  obtain ⟨cl, hcl, rfl⟩ := List.mem_map.mp hz
  rcases cells_fit hre cl hcl with ⟨n, rfl, n0, n1⟩ | ⟨b, rfl, b0, b1⟩
  · have jl : n.toNat < es.length := by omega
    show 0 ≤ es.getD n.toNat 0 ∧ es.getD n.toNat 0 < 256
    rw [List.getD_eq_getElem?_getD, List.getElem?_eq_getElem jl]
    exact hb _ (List.getElem_mem jl)
  · exact ⟨b0, b1⟩
theorem done_len {c : Int} {rows : List Row} (es : List Int) (hre : ∀ r ∈ rows, r.ok c) : ((doneOf rows es).length : Int) = total rows := by
  show ((((cellsOf rows).map (valOf es)).length : Nat) : Int) = _
  rw [List.length_map]; exact cellsOf_len hre
theorem Good.each {rows : List Row} (h : Good rows) : ∀ r ∈ rows, r.ok 200 ∧ r.len ≤ 200 := fun r hr => ⟨h.1 r hr, Int.le_trans (len_le_of h.1 hr) h.2⟩
theorem Good.few {rows : List Row} (h : Good rows) : (rows.length : Int) ≤ 200 := Int.le_trans (len_le_total h.1) h.2
theorem Good.take {rows : List Row} (h : Good rows) (i : Nat) : Good (rows.take i) := ⟨fun r hr => h.1 r (List.mem_of_mem_take hr), Int.le_trans (total_take_le h.1 i) h.2⟩
theorem Good.nat {rows : List Row} (h : Good rows) : rows.length ≤ 200 := by have := h.few; omega
section
variable {P : Program} {w : World} {K : PySem.W.Frag} {mg : Str → Option Value} {base : Heap}
theorem ends_app (a b : List Row) : endsOf (a ++ b) = endsOf a ++ endsOf b := by
  induction a with
  | nil => rfl
  | cons r l ih => cases r <;> simp [endsOf, ih]
theorem ends_len (a : List Row) : (endsOf a).length ≤ a.length := by
  induction a with
  | nil => exact Nat.le_refl _
  | cons r l ih => cases r <;> simp [endsOf] <;> omega
theorem total_sum : ∀ rows : List Row, (rows.map Row.len).sum = total rows
  | [] => rfl
  | r :: l => by rw [List.map_cons, List.sum_cons, total_sum l]; rfl
theorem ok_check_patch (T : All K mg) : FnOk P w K mg base CX0 3 T.d_check_patch.f T.d_check_patch.fd ["patch"] spCheckPatch := by
  have G_can_be : FnOk P w K mg base CX0 2 T.d_can_be.f T.d_can_be.fd ["piece"] spCanBe := ok_can_be T
  have G_length_of : FnOk P w K mg base CX0 1 T.d_length_of.f T.d_length_of.fd ["piece"] spLengthOf := ok_length_of T
  refine T.d_check_patch.F.ok sc_check_patch (fun vs H Q E h => ?_) (fun cdv A outer s H vs Q E hr h => ?_)
  · obtain ⟨v, _, rfl, _⟩ := h
    rfl
  · obtain ⟨v, rows, rfl, ⟨p, vs, rfl, hv, hpr⟩, ⟨hok, htot⟩, k⟩ := h
    have hvl : vs.length = rows.length := Paired.length hpr
    refine ⟨_, (pss_cons 
      (ps_set (i := 1) sc_check_patch.nd rfl (Or.inl rfl) pe_int) (pss_one 
      (ps_for PassesOwn.never rfl (pi_enumT (by rfl) T.b_enumerate (pa_cons (pv 0) pa_nil)) (pg_tup rfl (pgs_cons (pg_name (i := 2) sc_check_patch.nd rfl (Or.inl rfl)) (pgs_cons (pg_name (i := 3) sc_check_patch.nd rfl (Or.inl rfl)) pgs_nil))) (pss_cons 
      (ps_if (pt_not (pt_val (pe_call G_can_be (hr.mono (by decide)) rfl T.d_can_be.m T.d_can_be.F.kp T.d_can_be.b .nil pass0 (pa_cons (pv 3) pa_nil)))) (pss_one ps_never) pss_nil) (pss_cons 
      (ps_aug (i := 1) sc_check_patch.nd rfl (Or.inl rfl) (pe_call G_length_of (hr.mono (by decide)) rfl T.d_length_of.m T.d_length_of.F.kp T.d_length_of.b .nil pass0 (pa_cons (pv 3) pa_nil)) ip_add) (pss_one 
      (ps_if (pt_cmpR op_gt (pv 1) (pe_glob (v := .int 200) rfl T.c_MOST ⟨_, rfl⟩) (nomark _)) (pss_one ps_never) pss_nil))))))), ?_⟩
    refine ⟨_, rfl, p, vs, rfl, SqT.of hv, for_it walk_enumT (fun i σ H2 => ∃ v2 v3 : Option V, σ = [some (.ref p), some (.int (total (rows.take i))), v2, v3] ∧ Same H H2)
      ⟨none, none, rfl, Same.refl _⟩ (fun i σ H2 _ ⟨_, _, _, s2⟩ => SqT.of (s2 _ _ hv)) ?_ ?_⟩
    · rintro i x σ H2 H3 hi ⟨v2, v3, rfl, s2⟩ ⟨t, x1, y1, rfl, ht, rfl, e1, e2⟩
      cases e1
      obtain ⟨r, hr1, q, rfl, hq⟩ := pairedAt hpr e2
      have hro := hok r (List.mem_of_getElem? hr1)
      have hrl : r.len ≤ total rows := len_le_of hok (List.mem_of_getElem? hr1)
      have s3 : Same H (upd H2 t (.tup [.int (i : Nat), .ref q])) := s2.trans (Same.new ht)
      have hq3 := s3 _ _ hq
      refine ⟨t, _, rfl, SqT.of upd_same, rfl, _, _, rfl, _, _, rfl, rfl, ?_⟩
      refine ⟨_, rfl, q, r, rfl, hq3, hro, by omega, _, rfl, iteF ?_⟩
      refine ⟨_, rfl, _, rfl, q, r, rfl, hq3, hro, by omega, _, _, rfl, rfl, ?_⟩
      have ht1 := total_take hr1
      have ht2 := total_take_le hok (i + 1)
      refine ⟨_, rfl, _, _, rfl, rfl, _, rfl, ite2 (fun h => absurd (show (200 : Int) < total (rows.take i) + r.len from of_decide_eq_true h) (by omega)) fun _ => ?_⟩
      exact ⟨_, _, by rw [ht1]; rfl, s3⟩
    · rintro σ H2 ⟨v2, v3, rfl, s2⟩
      exact k H2 s2
theorem ok_check_edition (T : All K mg) : FnOk P w K mg base CX0 1 T.d_check_edition.f T.d_check_edition.fd ["edition"] spCheckEdition := by
  refine T.d_check_edition.F.ok sc_check_edition (fun vs H Q E h => ?_) (fun cdv A outer s H vs Q E hr h => ?_)
  · obtain ⟨_, rfl, _⟩ := h
    rfl
  · obtain ⟨es, rfl, hl, k⟩ := h
    refine ⟨_, (pss_one 
      (ps_if (pt_cmpR op_gt (pe_callB call_len (by rfl) T.b_len PySem.boot_len (pa_cons (pv 0) pa_nil)) (pe_glob (v := .int 200) rfl T.c_MOST ⟨_, rfl⟩) (nomark _)) (pss_one ps_never) pss_nil)), ?_⟩
    refine ⟨_, rfl, _, es.length, rfl, ⟨by rw [byteArr_size]; exact sizeS (by omega), (byteArr_size es).symm⟩, _, _, rfl, rfl, _, rfl, ite2 (fun h => absurd (of_decide_eq_true h) (by omega)) fun _ => k⟩
end
/-! ### the code of a patch -/
def numCode (n : Int) : List Int := if n < 128 then [n] else [128 + n % 2 ^ 7, n / 128]
def numSize (n : Int) : Int := if n < 128 then 1 else 2
def Row.word : Row → Int
  | .copy _ _ => 0
  | .bring _ => 1
  | .run _ _ => 2
def Row.tail : Row → List Int
  | .copy b _ => numCode b
  | .bring bs => bs
  | .run b _ => [b]
def firstNum (r : Row) : Int := r.len * 4 + r.word
def rowCode (r : Row) : List Int := numCode (firstNum r) ++ r.tail
def rowSize (r : Row) : Int := (rowCode r).length
def bodyCode (rows : List Row) : List Int := numCode rows.length ++ rows.flatMap rowCode
def codeOf (rows : List Row) : List Int := bodyCode rows ++ [(bodyCode rows).sum % 251]
theorem p7 : (2 : Int) ^ 7 = 128 := by decide
theorem p2 : (2 : Int) ^ 2 = 4 := by decide
theorem numCode_len (n : Int) : ((numCode n).length : Int) = numSize n := by
  unfold numCode numSize
  split <;> rfl
theorem numSize_le (n : Int) : 1 ≤ numSize n ∧ numSize n ≤ 2 := by
  unfold numSize
  split <;> constructor <;> decide
theorem numCode_b8 {n : Int} (h0 : 0 ≤ n) (h1 : n < 32768) : B8 (numCode n) := by
  unfold numCode
  split
  · intro x hx
    rw [List.mem_singleton.mp hx]
    omega
  · intro x hx
    rcases List.mem_cons.mp hx with rfl | hx
    · have : (2 : Int) ^ 7 = 128 := by decide
      omega
    · rw [List.mem_singleton.mp hx]
      omega
theorem Row.word_le : ∀ (r : Row), 0 ≤ r.word ∧ r.word ≤ 2
  | .copy _ _ => ⟨(by decide : (0 : Int) ≤ 0), (by decide : (0 : Int) ≤ 2)⟩
  | .bring _ => ⟨(by decide : (0 : Int) ≤ 1), (by decide : (1 : Int) ≤ 2)⟩
  | .run _ _ => ⟨(by decide : (0 : Int) ≤ 2), (by decide : (2 : Int) ≤ 2)⟩
theorem firstNum_le {r : Row} {c : Int} (h : r.ok c) (hl : r.len ≤ 200) : 4 ≤ firstNum r ∧ firstNum r ≤ 802 := by
  have a := Row.len_pos h
  have b := r.word_le
  unfold firstNum
  omega
theorem tail_b8 {r : Row} (h : r.ok 200) : B8 r.tail := by
  cases r with
  | copy b n =>
    have h1 := h.1
    have h2 := h.2.1
    have h3 := h.2.2
    exact numCode_b8 h1 (by omega)
  | run b n =>
    have h1 := h.1
    have h2 := h.2.1
    intro x hx
    rw [List.mem_singleton.mp hx]
    exact ⟨h1, h2⟩
  | bring bs => exact h.2
theorem tail_len {r : Row} (h : r.ok 200) : (r.tail.length : Int) ≤ r.len + 1 := by
  have a := Row.len_pos h
  cases r with
  | copy b n =>
    have h2 := numSize_le b
    rw [← numCode_len] at h2
    show ((numCode b).length : Int) ≤ n + 1
    have a : 1 ≤ n := a
    omega
  | run b n =>
    have a : 1 ≤ n := a
    show (([b] : List Int).length : Int) ≤ n + 1
    show (1 : Int) ≤ n + 1
    omega
  | bring bs =>
    show (bs.length : Int) ≤ bs.length + 1
    omega
theorem rowCode_b8 {r : Row} (h : r.ok 200) (hl : r.len ≤ 200) : B8 (rowCode r) := by
  have := firstNum_le h hl
  exact (numCode_b8 (by omega) (by omega)).app (tail_b8 h)
theorem rowCode_len {r : Row} (h : r.ok 200) : ((rowCode r).length : Int) ≤ 4 * r.len := by
  have a := Row.len_pos h
  have b := tail_len h
  have c := numSize_le (firstNum r)
  rw [← numCode_len] at c
  unfold rowCode
  rw [List.length_append]
  omega
theorem rows_b8 : ∀ {rows : List Row}, (∀ r ∈ rows, r.ok 200 ∧ r.len ≤ 200) → B8 (rows.flatMap rowCode)
  | [], _ => fun n hn => (List.not_mem_nil hn).elim
  | r :: l, h => by
    have a := h r List.mem_cons_self
    rw [List.flatMap_cons]
    exact (rowCode_b8 a.1 a.2).app (rows_b8 fun x hx => h x (List.mem_cons_of_mem _ hx))
theorem rows_len : ∀ {rows : List Row}, (∀ r ∈ rows, r.ok 200) → ((rows.flatMap rowCode).length : Int) ≤ 4 * total rows
  | [], _ => by show (0 : Int) ≤ 4 * 0; decide
  | r :: l, h => by
    have a := rowCode_len (h r List.mem_cons_self)
    have b := rows_len (rows := l) fun x hx => h x (List.mem_cons_of_mem _ hx)
    rw [List.flatMap_cons, List.length_append]
    show (((rowCode r).length + (l.flatMap rowCode).length : Nat) : Int) ≤ 4 * (r.len + total l)
    omega
/-- a body of some of the pieces -/
def partCode (n : Nat) (rows : List Row) : List Int := numCode n ++ rows.flatMap rowCode
theorem part_b8 {n : Nat} {rows : List Row} (hn : n ≤ 200) (h : Good rows) : B8 (partCode n rows) := (numCode_b8 (by omega) (by omega)).app (rows_b8 h.each)
theorem part_len {n : Nat} {rows : List Row} (h : Good rows) : (partCode n rows).length ≤ 810 := by
  have a := rows_len h.1
  have b := numSize_le n
  have d := h.2
  rw [← numCode_len] at b
  unfold partCode
  rw [List.length_append]
  omega
theorem body_part (rows : List Row) : bodyCode rows = partCode rows.length rows := rfl
theorem part_snoc {n : Nat} {rows : List Row} {i : Nat} {r : Row} (h : rows[i]? = some r) : partCode n (rows.take (i + 1)) = partCode n (rows.take i) ++ rowCode r := by
  unfold partCode
  rw [take_snoc h, List.flatMap_append, List.append_assoc, List.flatMap_cons, List.flatMap_nil, List.append_nil]
theorem code_b8 {rows : List Row} (h : Good rows) : B8 (codeOf rows) := by
  refine (part_b8 h.nat h).app fun x hx => ?_
  rw [List.mem_singleton.mp hx]
  have := Int.emod_nonneg (bodyCode rows).sum (show (251 : Int) ≠ 0 by decide)
  have := Int.emod_lt_of_pos (bodyCode rows).sum (show (0 : Int) < 251 by decide)
  omega
theorem code_len {rows : List Row} (h : Good rows) : (codeOf rows).length ≤ 811 := by
  have := part_len (n := rows.length) h
  unfold codeOf
  rw [List.length_append, body_part]
  show (partCode rows.length rows).length + 1 ≤ 811
  omega
theorem sizes_sum : ∀ (rows : List Row), (rows.map rowSize).sum = ((rows.flatMap rowCode).length : Int)
  | [] => rfl
  | r :: l => by
    rw [List.map_cons, List.sum_cons, sizes_sum l, List.flatMap_cons, List.length_append]
    show ((rowCode r).length : Int) + _ = _
    omega
theorem code_size (rows : List Row) : numSize rows.length + (rows.map rowSize).sum + 1 = ((codeOf rows).length : Int) := by
  rw [sizes_sum, ← numCode_len]
  unfold codeOf bodyCode
  rw [List.length_append, List.length_append]
  show _ = ((_ + 1 : Nat) : Int)
  omega
/-! ### sum(bytes), bytes += bytes -/
theorem noI_bytes_add : typeLookup (.type "bytes") (dunderI "add") = pure none := by rw [typeLookup_type, builtinLookup_eq_fast]; kernel_rfl
open PySem.W PySem.W.KBy Builtin in
theorem iadd_bytes {prog : Program} {w : World} {A : Around} {E : Value → Shared → Prop} {s : Shared} {b c : Array UInt8} {t u : Tok} {Q : Value → Shared → Prop} (hsz : b.size + c.size ≤ 16777216) (h : ∀ t' k, Q (.bytes (b ++ c) t') { s with toks := k }) :
    wpAny (model prog w) A (inplaceOp .Add (.bytes b t) (.bytes c u)) Q E s := by
  refine iconcat_gives (typeIs_bytes s b t) (typeIs_bytes s c u) noI_bytes_add noFill_bytes_add seq_bytes_add FB.slot_bytes_add FB.entry_bytes_add (FB.args_bytes_add_2 _ _) (gives_bytes_add (tooLong_not hsz)) ?_
  by_cases hb : b.isEmpty = true
  · rw [if_pos hb]
    have e : b = #[] := Array.isEmpty_iff.1 hb
    have h' := h u s.toks
    rw [e, Array.empty_append] at h'
    exact h'
  · rw [if_neg hb]
    by_cases hc : c.isEmpty = true
    · rw [if_pos hc]
      have e : c = #[] := Array.isEmpty_iff.1 hc
      have h' := h t s.toks
      rw [e, Array.append_empty] at h'
      exact h'
    · rw [if_neg hc]
      exact ⟨by rw [Array.size_append, sizeLine_eq]; exact hsz, h s.toks (s.toks + 1)⟩
theorem ip_add_byt {X : Cx} : PIp X .Add (fun x y H Q => ∃ i j, x = .byt i ∧ y = .byt j ∧ i.size + j.size ≤ 16777216 ∧ Q (.byt (i ++ j)) H) := by
  intro pins s σ H x y v u Q I rx ry h
  obtain ⟨i, j, rfl, rfl, hz, q⟩ := h
  obtain ⟨t, rfl⟩ := rx
  obtain ⟨t', rfl⟩ := ry
  exact iadd_bytes hz (fun t' tk => ⟨.byt (i ++ j), H, I.tok _, ⟨_, rfl⟩, q⟩)
theorem preSum_bi (b : Array UInt8) : ∀ (n : Nat), preSum (fun i => (PySem.W.KBw.bInts b).getD i 0) n = ((PySem.W.KBw.bInts b).take n).sum
  | 0 => rfl
  | n + 1 => by
    show preSum _ n + _ = _
    show _ + (PySem.W.KBw.bInts b).getD n 0 = _
    rw [preSum_bi b n, List.take_add_one, List.sum_append, List.getD_eq_getElem?_getD]
    cases (PySem.W.KBw.bInts b)[n]? with
    | none => rfl
    | some x => show _ = _ + (x + 0); simp
theorem cr_sumB {X : Cx} (hc : X.calm = true) : CallR X (.builtin "sum") (fun vs H Q => ∃ bs : List Int, vs = [.byt (byteArr bs)] ∧ B8 bs ∧ Q (.int bs.sum) H) := by
  intro pins s σ H vs us Q I r h
  obtain ⟨bs, rfl, hb, q⟩ := h
  cases r with
  | cons r rr =>
    cases rr
    obtain ⟨t, rfl⟩ := r
    refine call_sum_walkG (PySem.W.KBw.pyIter_bytes ?_)
    have W := PySem.W.KBw.walks (prog := X.prog) (w := X.w) (A := X.A.in1) (I.ok.hd hc) s.heap.objs.size (byteArr bs) t
    refine ⟨_, _, _, _, _, _, fun i => (PySem.W.KBw.bInts (byteArr bs)).getD i 0, rfl, W, ⟨_, Heap.get?_push_size _ rfl, rfl, rfl⟩, fun b hb => ?_, ?_, fun h' tk t' hk => ?_⟩
    · rw [List.mem_singleton.mp hb]
      show s.heap.objs.size < (s.heap.push _).objs.size
      rw [Heap.size_push]
      exact Nat.lt_succ_self _
    · rintro i v ⟨c, u, hc, rfl⟩
      refine ⟨u, ?_⟩
      show _ = Value.int ((PySem.W.KBw.bInts (byteArr bs)).getD i 0) u
      rw [List.getD_eq_getElem?_getD, PySem.W.KBw.ints_get hc]
      rfl
    · rw [preSum_bi, List.take_of_length_le (by rw [PySem.W.KBw.ints_length]; exact Nat.le_refl _), bInts_of hb]
      refine ⟨.int bs.sum, H, I.kept (t' := tk) fun b o e => ?_, ⟨_, rfl⟩, q⟩
      exact hk b o (fun hm => by rw [List.mem_singleton.mp hm] at e; exact absurd (Heap.lt_size e) (Nat.lt_irrefl _)) (Heap.get?_push_of_some _ e)
/-! ### the promises -/
def spNumCode : Sp := fun vs H Q _ => ∃ n : Int, vs = [.int n] ∧ 0 ≤ n ∧ n < 16384 ∧ ∀ H', Same H H' → Q (.byt (byteArr (numCode n))) H'
def spNumSize : Sp := fun vs H Q _ => ∃ n : Int, vs = [.int n] ∧ Q (.int (numSize n)) H
def spFirstNum : Sp := fun vs H Q _ => ∃ (p : Addr) (r : Row), vs = [.ref p] ∧ H p = some (.tup r.tup) ∧ r.ok 200 ∧ r.len ≤ 200 ∧ Q (.int (firstNum r)) H
def spPieceCode : Sp := fun vs H Q _ => ∃ (p : Addr) (r : Row), vs = [.ref p] ∧ H p = some (.tup r.tup) ∧ r.ok 200 ∧ r.len ≤ 200 ∧ ∀ H', Same H H' → Q (.byt (byteArr (rowCode r))) H'
def spPieceSize : Sp := fun vs H Q _ => ∃ (p : Addr) (r : Row), vs = [.ref p] ∧ H p = some (.tup r.tup) ∧ r.ok 200 ∧ r.len ≤ 200 ∧ Q (.int (rowSize r)) H
def spCheckOf : Sp := fun vs H Q _ => ∃ bs : List Int, vs = [.byt (byteArr bs)] ∧ B8 bs ∧ Q (.int (bs.sum % 251)) H
def spWithCheck : Sp := fun vs H Q _ => ∃ bs : List Int, vs = [.byt (byteArr bs)] ∧ B8 bs ∧ bs.length ≤ 10000 ∧ ∀ H', Same H H' → Q (.byt (byteArr (bs ++ [bs.sum % 251]))) H'
def spCoded : Sp := fun vs H Q _ => ∃ (v : V) (rows : List Row), vs = [v] ∧ PatchAt H v rows ∧ Good rows ∧ ∀ H', Same H H' → Q (.byt (byteArr (codeOf rows))) H'
def spSizeOf : Sp := fun vs H Q _ => ∃ (v : V) (rows : List Row), vs = [v] ∧ PatchAt H v rows ∧ Good rows ∧ ∀ H', Same H H' → Q (.int ((codeOf rows).length : Nat)) H'
section
variable {P : Program} {w : World} {K : PySem.W.Frag} {mg : Str → Option Value} {base : Heap}
theorem ok_number_size (T : All K mg) : FnOk P w K mg base CX0 1 T.d_number_size.f T.d_number_size.fd ["number"] spNumSize := by
  refine T.d_number_size.F.ok sc_number_size (fun vs H Q E h => ?_) (fun cdv A outer s H vs Q E hr h => ?_)
  · obtain ⟨n, rfl, _⟩ := h
    rfl
  · obtain ⟨n, rfl, k⟩ := h
    refine ⟨_, (pss_one 
      (ps_ret (pe_ifExp (pt_cmpR op_lt (pv 0) (pe_glob (v := .int 128) rfl T.c_SEVENS ⟨_, rfl⟩) (nomark _)) pe_int (pe_glob (v := .int 2) rfl T.c_MOST_SEVENS ⟨_, rfl⟩)))), ?_⟩
    refine ⟨_, rfl, _, _, rfl, rfl, _, rfl, ite2 (fun h => ?_) fun h => ?_⟩
    · have e : numSize n = 1 := if_pos (of_decide_eq_true h)
      rw [e] at k
      exact k
    · have e : numSize n = 2 := if_neg (of_decide_eq_false (Bool.not_eq_true _ ▸ h))
      rw [e] at k
      exact k
theorem ok_first_number (T : All K mg) : FnOk P w K mg base CX0 2 T.d_first_number.f T.d_first_number.fd ["piece"] spFirstNum := by
  have G_length_of : FnOk P w K mg base CX0 1 T.d_length_of.f T.d_length_of.fd ["piece"] spLengthOf := ok_length_of T
  refine T.d_first_number.F.ok sc_first_number (fun vs H Q E h => ?_) (fun cdv A outer s H vs Q E hr h => ?_)
  · obtain ⟨p, r, rfl, _⟩ := h
    rfl
  · obtain ⟨p, r, rfl, hp, hok, hl, k⟩ := h
    have hpos := Row.len_pos hok
    refine ⟨_, (pss_one 
      (ps_ret (pe_op op_add (pe_op op_mul (pe_call G_length_of (hr.mono (by decide)) rfl T.d_length_of.m T.d_length_of.F.kp T.d_length_of.b .nil pass0 (pa_cons (pv 0) pa_nil)) pe_int) (pe_bm PySem.F.plainAttrs_tuple PySem.F.slot_tuple_index PySem.F.type_tuple_index mt_tup_index (pe_glob (v := .ref T.a_WORDS) rfl T.c_WORDS rfl) (pa_cons (pe_ix ix_tup (pv 0) pe_int (fun _ _ => rfl)) pa_nil))))), ?_⟩
    refine ⟨_, rfl, p, r, rfl, hp, hok, hl, _, _, rfl, rfl, .inl ⟨by omega, by omega⟩, .inr (.inl ⟨rfl, T.w_WORDS⟩), _, rfl, p, ?_⟩
    cases r with
    | copy b n => exact ⟨_, _, _, rfl, rfl, SqT.of hp, rfl, _, ["copy", "bring", "run"], "copy", 0, rfl, rfl, T.v_WORDS H, rfl, fun m hm => absurd hm (Nat.not_lt_zero _), _, _, rfl, rfl, k⟩
    | run b n => exact ⟨_, _, _, rfl, rfl, SqT.of hp, rfl, _, ["copy", "bring", "run"], "run", 2, rfl, rfl, T.v_WORDS H, rfl, fun m hm => by
        have : m = 0 ∨ m = 1 := by omega
        rcases this with rfl | rfl <;> decide, _, _, rfl, rfl, k⟩
    | bring bs => exact ⟨_, _, _, rfl, rfl, SqT.of hp, rfl, _, ["copy", "bring", "run"], "bring", 1, rfl, rfl, T.v_WORDS H, rfl, fun m hm => by
        have : m = 0 := by omega
        subst this; decide, _, _, rfl, rfl, k⟩
theorem ok_piece_size (T : All K mg) : FnOk P w K mg base CX0 3 T.d_piece_size.f T.d_piece_size.fd ["piece"] spPieceSize := by
  have G_number_size : FnOk P w K mg base CX0 1 T.d_number_size.f T.d_number_size.fd ["number"] spNumSize := ok_number_size T
  have G_first_number : FnOk P w K mg base CX0 2 T.d_first_number.f T.d_first_number.fd ["piece"] spFirstNum := ok_first_number T
  refine T.d_piece_size.F.ok sc_piece_size (fun vs H Q E h => ?_) (fun cdv A outer s H vs Q E hr h => ?_)
  · obtain ⟨p, r, rfl, _⟩ := h
    rfl
  · obtain ⟨p, r, rfl, hp, hok, hl, k⟩ := h
    refine ⟨_, (pss_cons 
      (ps_set (i := 1) sc_piece_size.nd rfl (Or.inl rfl) (pe_call G_number_size (hr.mono (by decide)) rfl T.d_number_size.m T.d_number_size.F.kp T.d_number_size.b .nil pass0 (pa_cons (pe_call G_first_number (hr.mono (by decide)) rfl T.d_first_number.m T.d_first_number.F.kp T.d_first_number.b .nil pass0 (pa_cons (pv 0) pa_nil)) pa_nil))) (pss_cons 
      (ps_if (pt_cmpR op_eq (pe_ix ix_tup (pv 0) pe_int (fun _ _ => rfl)) pe_str (nomark _)) (pss_one 
      (ps_ret (pe_op op_add (pv 1) (pe_call G_number_size (hr.mono (by decide)) rfl T.d_number_size.m T.d_number_size.F.kp T.d_number_size.b .nil pass0 (pa_cons (pe_ix ix_tup (pv 0) pe_int (fun _ _ => rfl)) pa_nil))))) pss_nil) (pss_cons 
      (ps_if (pt_cmpR op_eq (pe_ix ix_tup (pv 0) pe_int (fun _ _ => rfl)) pe_str (nomark _)) (pss_one 
      (ps_ret (pe_op op_add (pv 1) (pe_callB call_len (by rfl) T.b_len PySem.boot_len (pa_cons (pe_ix ix_tup (pv 0) pe_int (fun _ _ => rfl)) pa_nil))))) pss_nil) (pss_one 
      (ps_ret (pe_op op_add (pv 1) pe_int)))))), ?_⟩
    have e : rowSize r = numSize (firstNum r) + (r.tail.length : Int) := by
      unfold rowSize rowCode
      rw [List.length_append, ← numCode_len]
      omega
    rw [e] at k
    refine ⟨_, rfl, p, r, rfl, hp, hok, hl, _, rfl, ?_⟩
    cases r with
    | copy b n =>
      refine ⟨_, rfl, p, _, _, _, rfl, rfl, SqT.of hp, rfl, rfl, _, rfl, ite2 (fun _ => ?_) fun h => absurd (by decide) h⟩
      have e2 : ((Row.tail (.copy b n)).length : Int) = numSize b := numCode_len b
      rw [e2] at k
      exact ⟨_, rfl, _, rfl, p, _, _, _, rfl, rfl, SqT.of hp, rfl, _, rfl, _, _, rfl, rfl, k⟩
    | run b n =>
      refine ⟨_, rfl, p, _, _, _, rfl, rfl, SqT.of hp, rfl, rfl, _, rfl, ite2 (fun h => absurd h (by decide)) fun _ => ?_⟩
      refine ⟨_, rfl, p, _, _, _, rfl, rfl, SqT.of hp, rfl, rfl, _, rfl, ite2 (fun h => absurd h (by decide)) fun _ => ?_⟩
      exact ⟨_, rfl, _, _, rfl, rfl, k⟩
    | bring bs =>
      have hbl : (bs.length : Int) ≤ 200 := hl
      refine ⟨_, rfl, p, _, _, _, rfl, rfl, SqT.of hp, rfl, rfl, _, rfl, ite2 (fun h => absurd h (by decide)) fun _ => ?_⟩
      refine ⟨_, rfl, p, _, _, _, rfl, rfl, SqT.of hp, rfl, rfl, _, rfl, ite2 (fun _ => ?_) fun h => absurd (by decide) h⟩
      exact ⟨_, rfl, _, rfl, p, _, _, _, rfl, rfl, SqT.of hp, rfl, _, bs.length, rfl, ⟨by rw [byteArr_size]; exact sizeS (by omega), (byteArr_size bs).symm⟩, _, _, rfl, rfl, k⟩
theorem ok_size (T : All K mg) : FnOk P w K mg base CX0 4 T.d_size.f T.d_size.fd ["patch"] spSizeOf := by
  have G_check_patch : FnOk P w K mg base CX0 3 T.d_check_patch.f T.d_check_patch.fd ["patch"] spCheckPatch := ok_check_patch T
  have G_number_size : FnOk P w K mg base CX0 1 T.d_number_size.f T.d_number_size.fd ["number"] spNumSize := ok_number_size T
  have G_piece_size : FnOk P w K mg base CX0 3 T.d_piece_size.f T.d_piece_size.fd ["piece"] spPieceSize := ok_piece_size T
  refine T.d_size.F.ok sc_size (fun vs H Q E h => ?_) (fun cdv A outer s H vs Q E hr h => ?_)
  · obtain ⟨v, _, rfl, _⟩ := h
    rfl
  · obtain ⟨v, rows, rfl, hP, hG, k⟩ := h
    refine ⟨_, (pss_cons 
      (ps_expr (pe_call G_check_patch (hr.mono (by decide)) rfl T.d_check_patch.m T.d_check_patch.F.kp T.d_check_patch.b .nil pass0 (pa_cons (pv 0) pa_nil))) (pss_one 
      (ps_ret (pe_op op_add (pe_op op_add (pe_call G_number_size (hr.mono (by decide)) rfl T.d_number_size.m T.d_number_size.F.kp T.d_number_size.b .nil pass0 (pa_cons (pe_callB call_len (by rfl) T.b_len PySem.boot_len (pa_cons (pv 0) pa_nil)) pa_nil)) (pe_callB (cr_sum rfl) (by rfl) T.b_sum (by decide +kernel) (pa_cons (pe_lc (own := [("piece", 1)]) (g := gName 1) (tt := tYes) rfl sc_size.nd (pi_tup (pv 0)) (blkOk_by (own := [("piece", 1)]) (N := ["patch", "piece"]) (sc := defScope s_size) (by decide +kernel)) (fun _ _ _ _ _ => (pg_name (i := 1) sc_size.nd rfl (Or.inl rfl))) (fun _ _ _ _ _ => pts_nil) (fun _ _ _ _ _ => (pe_call G_piece_size (hr.mono (by decide)) rfl T.d_piece_size.m T.d_piece_size.F.kp T.d_piece_size.b .nil pass0 (pa_cons (pv 1) pa_nil)))) pa_nil))) pe_int)))), ?_⟩
    refine ⟨_, rfl, v, rows, rfl, hP, hG, fun H1 s1 => ?_⟩
    obtain ⟨p, vs, rfl, hv, hpr⟩ := hP
    have hfew := hG.nat
    have hvl := Paired.length hpr
    refine ⟨_, rfl, _, vs.length, rfl, .inr ⟨_, SqT.of (s1 _ _ hv), rfl⟩, _, rfl, ?_⟩
    refine ⟨_, rfl, p, rfl, ⟨vs, SqT.of (s1 _ _ hv)⟩, fun D hD => lc_tup (K := K) (a := p) (xs := vs) (fun i H2 => Same H1 H2 ∧ H2 D = some (.lst (List.map V.int ((rows.take i).map rowSize))))
      ⟨Same.new hD, upd_same⟩ (fun i H2 _ ⟨s2, _⟩ => SqT.of (s2 _ _ (s1 _ _ hv))) ?_ ?_⟩
    · rintro i x H2 hi ⟨s2, hd⟩
      obtain ⟨r, hr1, q, rfl, hq⟩ := pairedAt hpr hi
      have hro := hG.each r (List.mem_of_getElem? hr1)
      have il : i < rows.length := (List.getElem?_eq_some_iff.mp hr1).1
      refine ⟨rfl, _, rfl, q, r, rfl, s2 _ _ (s1 _ _ hq), hro.1, hro.2, _, hd, sizeL (by rw [List.length_map, List.length_map, List.length_take]; omega), fun b o z => ?_, ?_⟩
      · rw [upd_ne (ne_of_none z hD)]; exact s2 _ _ z
      · rw [upd_same, take_snoc hr1, List.map_append, List.map_append]; rfl
    · rintro H2 ⟨s2, hd⟩
      rw [hvl, List.take_length] at hd
      refine ⟨D, _, rfl, SqL.of hd, _, _, rfl, rfl, _, _, rfl, rfl, ?_⟩
      have kk := k H2 (s1.trans s2)
      rw [← code_size rows, ← hvl] at kk
      exact kk
end
/-! ### a statement whose ways meet again; a list against the empty one -/
def tJoin (t : TS) : TS := fun D σ H => ∃ J : L2.St → Hp → Prop, t { D with nx := J } σ H ∧ ∀ σ' H', J σ' H' → D.nx σ' H'
theorem ps_join {X : Cx} {st : Stmt} {t : TS} (h : PS X st t) : PS X st (tJoin t) := by
  refine ⟨fun pins s σ H D I hh => ?_⟩
  obtain ⟨J, h1, h2⟩ := hh
  refine thn (h.run pins s σ H { D with nx := J } I h1) fun f s' q => ?_
  cases f with
  | next =>
    obtain ⟨σ', H', I', j⟩ := q
    exact ⟨σ', H', I', h2 _ _ j⟩
  | ret u => exact q
  | brk => exact q
  | cont => exact q
def rNeEmpty : R2 := fun x y H Q => ∃ a b xs, x = .ref a ∧ y = .ref b ∧ H a = some (.lst xs) ∧ H b = some (.lst []) ∧ Q (.bl (!xs.isEmpty)) H
theorem op_neEmpty {X : Cx} (hu : X.A.units + 64 < cLine) : OpR X (compareOp .NotEq) rNeEmpty := by
  intro pins s σ H x y v u Q I rx ry h
  obtain ⟨a, b, xs, rfl, rfl, ha, hb, q⟩ := h
  cases (show v = Value.ref a from rx)
  cases (show u = Value.ref b from ry)
  obtain ⟨us, r1, p1, _⟩ := I.list (SqL.of ha)
  obtain ⟨ws, r2, p2, _⟩ := I.list (SqL.of hb)
  cases r2
  cases r1 with
  | nil =>
    have z := SeqAt.RcNeAt.lists (A := X.A) (e := fun _ => true) p1.isList p2.isList rfl (by omega) (fun j h1 => absurd h1 (Nat.not_lt_zero j))
    exact z X.prog X.w _ _ ⟨.bl false, H, I, rfl, q⟩
  | cons c t =>
    have z := SeqAt.RcNeAt.lists_lengths (A := X.A) p1.isList p2.isList (by simp) (by omega)
    exact z X.prog X.w _ _ ⟨.bl true, H, I, rfl, q⟩
theorem op_notIn_rng {X : Cx} : OpR X (compareOp .NotIn) (fun x y H Q => ∃ i a lo hi, x = V.int i ∧ y = V.ref a ∧ H a = some (.rng lo hi) ∧ Q (.bl (!decide (lo ≤ i ∧ i < hi))) H) := by
  intro pins s σ H x y v u Q I rx ry h
  obtain ⟨i, a, lo, hi, rfl, rfl, ha, q⟩ := h
  obtain ⟨k, rfl⟩ := rx
  obtain rfl : u = Value.ref a := ry
  obtain ⟨t1, t2, t3, ho⟩ := I.hok a _ ha
  refine NotIn_slot (T := "range") ⟨_, ho, rfl⟩ PySem.F.slot_range_contains (call_meets PySem.F.slot_range_contains ⟨_, ho, rfl⟩ PySem.F.entry_range_contains (PySem.F.args_range_contains_2 _ _) (q_contains a lo hi i t1 t2 t3 k) ⟨ho, wpAny_truthy_bool ⟨.bl _, H, I, rfl, ?_⟩⟩)
  show Q (.bl (!(Builtin.Range.rangePlace? lo hi 1 i).isSome)) H
  rw [place1]
  exact q
theorem atIb {bs : List Int} {z b : Int} (h0 : 0 ≤ z) (h : bs[z.toNat]? = some b) : atI (bs.map V.int) z = some (.int b) := at_of (j := z.toNat) (by omega) (by rw [List.getElem?_map, h]; rfl)
/-- alike data, of nesting below n -/
def Alk (H : Hp) : Nat → V → V → Prop
  | 0, _, _ => False
  | n + 1, x, y => (x = y ∧ ((∃ i, x = .int i) ∨ ∃ s, x = .str s)) ∨ ∃ p q xs ys, x = .ref p ∧ y = .ref q ∧ ((H p = some (.tup xs) ∧ H q = some (.tup ys)) ∨ (H p = some (.lst xs) ∧ H q = some (.lst ys))) ∧ xs.length ≤ 100000 ∧ Paired (Alk H n) xs ys
theorem Alk.same {H H' : Hp} (s : Same H H') : ∀ {n : Nat} {x y : V}, Alk H n x y → Alk H' n x y
  | n + 1, x, y, .inl h => .inl h
  | n + 1, x, y, .inr ⟨p, q, xs, ys, e1, e2, h, l, r⟩ => .inr ⟨p, q, xs, ys, e1, e2, h.imp (fun z => ⟨s _ _ z.1, s _ _ z.2⟩) (fun z => ⟨s _ _ z.1, s _ _ z.2⟩), l, pairedMap r fun _ _ z => Alk.same s z⟩
def spLike (n : Nat) : Sp := fun vs H Q _ => ∃ x y : V, vs = [x, y] ∧ Alk H n x y ∧ ∀ H', Same H H' → Q (.bl true) H'
theorem eqv_nil : PyData.eqv (.list []) (.list []) = true := by simp [PyData.eqv, PyData.eqvAll]
theorem shaped_nil : SeqAt.shaped (.list []) = true := by decide
theorem Alk.cell {H : Hp} {v u : V} {c : Cell} (h : CellV H v c) (h' : CellV H u c) : Alk H 2 v u := by
  obtain ⟨p, rfl, hp⟩ := h
  obtain ⟨q, rfl, hq⟩ := h'
  refine .inr ⟨p, q, _, _, rfl, rfl, .inl ⟨hp, hq⟩, ?_, ?_⟩
  · cases c <;> (show 2 ≤ 100000; decide)
  · cases c with
    | old k => exact .cons (.inl ⟨rfl, .inr ⟨_, rfl⟩⟩) (.cons (.inl ⟨rfl, .inl ⟨_, rfl⟩⟩) .nil)
    | new b => exact .cons (.inl ⟨rfl, .inr ⟨_, rfl⟩⟩) (.cons (.inl ⟨rfl, .inl ⟨_, rfl⟩⟩) .nil)
theorem Alk.cells {H : Hp} : ∀ {vs us : List V} {cs : List Cell}, Paired (CellV H) vs cs → Paired (CellV H) us cs → Paired (Alk H 2) vs us
  | _, _, _, .nil, .nil => .nil
  | _, _, _, .cons a r, .cons b t => .cons (Alk.cell a b) (Alk.cells r t)
section
variable {P : Program} {w : World} {K : PySem.W.Frag} {mg : Str → Option Value} {base : Heap}
theorem ok_law_like (T : All K mg) : ∀ n : Nat, FnOk P w K mg base CX0 n T.d_law_like.f T.d_law_like.fd ["_law_found", "_law_due"] (spLike n)
  | 0 => ⟨fun _ _ _ _ ⟨_, _, _, h, _⟩ => h.elim, fun _ _ _ _ _ _ _ _ _ _ _ _ _ ⟨_, _, _, h, _⟩ => h.elim⟩
  | n + 1 => by
    have G_law_like : FnOk P w K mg base CX0 n T.d_law_like.f T.d_law_like.fd ["_law_found", "_law_due"] (spLike n) := ok_law_like T n
    refine T.d_law_like.F.ok sc_law_like (fun vs H Q E h => ?_) (fun cdv A outer s H vs Q E hr h => ?_)
    · obtain ⟨x, y, rfl, _⟩ := h
      rfl
    · obtain ⟨x, y, rfl, h, k⟩ := h
      refine ⟨_, (pss_cons 
      (ps_if (PW.pt (pw_or (pt_val (pe_callB call_isi (by rfl) T.b_isinstance (by decide +kernel) (pa_cons (pv 1) (pa_cons (pe_bltn (v := .ty "tuple") (by rfl) T.b_tuple (by decide +kernel) rfl) pa_nil)))) (pw_or1 (pt_val (pe_callB call_isi (by rfl) T.b_isinstance (by decide +kernel) (pa_cons (pv 1) (pa_cons (pe_bltn (v := .ty "list") (by rfl) T.b_list (by decide +kernel) rfl) pa_nil))))))) (pss_cons 
      (ps_if (pt_cmpR op_ne (pe_callB call_isi (by rfl) T.b_isinstance (by decide +kernel) (pa_cons (pv 0) (pa_cons (pe_bltn (v := .ty "tuple") (by rfl) T.b_tuple (by decide +kernel) rfl) pa_nil))) (pe_callB call_isi (by rfl) T.b_isinstance (by decide +kernel) (pa_cons (pv 1) (pa_cons (pe_bltn (v := .ty "tuple") (by rfl) T.b_tuple (by decide +kernel) rfl) pa_nil))) (nomark _)) (pss_one 
      (ps_ret pe_bl)) pss_nil) (pss_cons 
      (ps_if (PW.pt (pw_or (pt_cmpR op_ne (pe_callB call_isi (by rfl) T.b_isinstance (by decide +kernel) (pa_cons (pv 0) (pa_cons (pe_bltn (v := .ty "list") (by rfl) T.b_list (by decide +kernel) rfl) pa_nil))) (pe_callB call_isi (by rfl) T.b_isinstance (by decide +kernel) (pa_cons (pv 1) (pa_cons (pe_bltn (v := .ty "list") (by rfl) T.b_list (by decide +kernel) rfl) pa_nil))) (nomark _)) (pw_or1 (pt_cmpR op_ne (pe_callB call_len (by rfl) T.b_len PySem.boot_len (pa_cons (pv 0) pa_nil)) (pe_callB call_len (by rfl) T.b_len PySem.boot_len (pa_cons (pv 1) pa_nil)) (nomark _))))) (pss_one 
      (ps_ret pe_bl)) pss_nil) (pss_one 
      (ps_ret (pe_cmpR (op_eqD hr.units) (pe_lc (own := [("_law_k", 2)]) (g := gName 2) rfl sc_law_like.nd (pi_range1 (by rfl) T.b_range (pa_cons (pe_callB call_len (by rfl) T.b_len PySem.boot_len (pa_cons (pv 1) pa_nil)) pa_nil)) (blkOk_by (own := [("_law_k", 2)]) (N := ["_law_found", "_law_due", "_law_k"]) (sc := defScope s_law_like) (by decide +kernel)) (fun _ _ _ _ _ => (pg_name (i := 2) sc_law_like.nd rfl (Or.inl rfl))) (fun _ _ _ _ _ => (pts_one (pt_not (pt_val (pe_call G_law_like (hr.mono (Nat.le_refl _)) rfl T.d_law_like.m T.d_law_like.F.kp T.d_law_like.b .nil pass0 (pa_cons (pe_ix (ixsK (K := K) rfl) (pv 0) (pv 2) (fun _ _ => rfl)) (pa_cons (pe_ix (ixsK (K := K) rfl) (pv 1) (pv 2) (fun _ _ => rfl)) pa_nil))))))) (fun _ _ _ _ _ => (pv 2))) (pe_lst pa_nil) (nomark _)))))) pss_nil) (pss_cons 
      (ps_if (pt_cmpR op_ne (pe_callB call_isi (by rfl) T.b_isinstance (by decide +kernel) (pa_cons (pv 0) (pa_cons (pe_bltn (v := .ty "bool") (by rfl) T.b_bool (by decide +kernel) rfl) pa_nil))) (pe_callB call_isi (by rfl) T.b_isinstance (by decide +kernel) (pa_cons (pv 1) (pa_cons (pe_bltn (v := .ty "bool") (by rfl) T.b_bool (by decide +kernel) rfl) pa_nil))) (nomark _)) (pss_one 
      (ps_ret pe_bl)) pss_nil) (pss_cons 
      (ps_if (PW.pt (pw_or (pt_cmpR op_ne (pe_callB call_isi (by rfl) T.b_isinstance (by decide +kernel) (pa_cons (pv 0) (pa_cons (pe_bltn (v := .ty "int") (by rfl) T.b_int (by decide +kernel) rfl) pa_nil))) (pe_callB call_isi (by rfl) T.b_isinstance (by decide +kernel) (pa_cons (pv 1) (pa_cons (pe_bltn (v := .ty "int") (by rfl) T.b_int (by decide +kernel) rfl) pa_nil))) (nomark _)) (pw_or1 (pt_cmpR op_ne (pe_callB call_isi (by rfl) T.b_isinstance (by decide +kernel) (pa_cons (pv 0) (pa_cons (pe_bltn (v := .ty "str") (by rfl) T.b_str (by decide +kernel) rfl) pa_nil))) (pe_callB call_isi (by rfl) T.b_isinstance (by decide +kernel) (pa_cons (pv 1) (pa_cons (pe_bltn (v := .ty "str") (by rfl) T.b_str (by decide +kernel) rfl) pa_nil))) (nomark _))))) (pss_one 
      (ps_ret pe_bl)) pss_nil) (pss_one 
      (ps_ret (pe_cmpR op_eq (pv 0) (pv 1) (nomark _))))))), ?_⟩
      rcases h with ⟨rfl, ⟨i, rfl⟩ | ⟨z, rfl⟩⟩ | ⟨p, q, xs, ys, rfl, rfl, h, hl, hp⟩
      · refine ⟨_, rfl, _, _, _, _, false, rfl, .ty _, .base (.int i), kit_ty (by decide +kernel), false, rfl, iteF ?_⟩
        refine ⟨_, rfl, _, _, _, _, false, rfl, .ty _, .base (.int i), kit_ty (by decide +kernel), false, rfl, iteF ?_⟩
        refine ⟨_, rfl, _, _, _, _, false, rfl, .ty _, .base (.int i), kit_ty (by decide +kernel), _, rfl, _, _, _, _, false, rfl, .ty _, .base (.int i), kit_ty (by decide +kernel), rfl, _, rfl, iteNS rfl ?_⟩
        refine ⟨_, rfl, _, _, _, _, true, rfl, .ty _, .base (.int i), kit_ty (by decide +kernel), _, rfl, _, _, _, _, true, rfl, .ty _, .base (.int i), kit_ty (by decide +kernel), rfl, _, rfl, iteNS rfl ?_⟩
        refine ⟨_, rfl, _, _, _, _, false, rfl, .ty _, .base (.int i), kit_ty (by decide +kernel), _, rfl, _, _, _, _, false, rfl, .ty _, .base (.int i), kit_ty (by decide +kernel), rfl, _, rfl, iteNS rfl ?_⟩
        refine ⟨_, rfl, _, rfl, rfl, ?_⟩
        have kk := k H (Same.refl _)
        rw [← decide_eq_true (rfl : V.int i = V.int i)] at kk
        exact kk
      · refine ⟨_, rfl, _, _, _, _, false, rfl, .ty _, .base (.str z), kit_ty (by decide +kernel), false, rfl, iteF ?_⟩
        refine ⟨_, rfl, _, _, _, _, false, rfl, .ty _, .base (.str z), kit_ty (by decide +kernel), false, rfl, iteF ?_⟩
        refine ⟨_, rfl, _, _, _, _, false, rfl, .ty _, .base (.str z), kit_ty (by decide +kernel), _, rfl, _, _, _, _, false, rfl, .ty _, .base (.str z), kit_ty (by decide +kernel), rfl, _, rfl, iteNS rfl ?_⟩
        refine ⟨_, rfl, _, _, _, _, false, rfl, .ty _, .base (.str z), kit_ty (by decide +kernel), _, rfl, _, _, _, _, false, rfl, .ty _, .base (.str z), kit_ty (by decide +kernel), rfl, _, rfl, iteNS rfl ?_⟩
        refine ⟨_, rfl, _, _, _, _, true, rfl, .ty _, .base (.str z), kit_ty (by decide +kernel), _, rfl, _, _, _, _, true, rfl, .ty _, .base (.str z), kit_ty (by decide +kernel), rfl, _, rfl, iteNS rfl ?_⟩
        refine ⟨_, rfl, _, rfl, rfl, ?_⟩
        have kk := k H (Same.refl _)
        rw [← decide_eq_true (rfl : V.str z = V.str z)] at kk
        exact kk
      · have el : xs.length = ys.length := Paired.length hp
        rcases h with ⟨hx, hy⟩ | ⟨hx, hy⟩
        · refine ⟨_, rfl, _, _, _, _, true, rfl, .ty _, .base (.tup hy), kit_ty (by decide +kernel), true, rfl, iteT (iteT ?_)⟩
          refine ⟨_, rfl, _, _, _, _, true, rfl, .ty _, .base (.tup hx), kit_ty (by decide +kernel), _, rfl, _, _, _, _, true, rfl, .ty _, .base (.tup hy), kit_ty (by decide +kernel), rfl, _, rfl, iteNS rfl ?_⟩
          refine ⟨_, rfl, _, _, _, _, false, rfl, .ty _, .base (.tup hx), kit_ty (by decide +kernel), _, rfl, _, _, _, _, false, rfl, .ty _, .base (.tup hy), kit_ty (by decide +kernel), rfl, _, rfl, iteNS rfl ?_⟩
          refine ⟨_, rfl, _, xs.length, rfl, .inr ⟨_, SqT.of hx, rfl⟩, _, rfl, _, ys.length, rfl, .inr ⟨_, SqT.of hy, rfl⟩, rfl, _, rfl, iteNS (by rw [el]) ?_⟩
          refine ⟨_, rfl, _, ys.length, rfl, .inr ⟨_, SqT.of hy, rfl⟩, _, rfl, by omega, by omega, fun D hD => ?_⟩
          refine lc_range (lo := 0) (n := ((ys.length : Int)).toNat) (fun i H2 => Same H H2 ∧ H2 D = some (.lst [])) ⟨Same.new hD, upd_same⟩ ?_ ?_
          · rintro i H2 hi ⟨s2, hd⟩
            rw [Int.toNat_natCast] at hi
            have hi' : i < xs.length := by omega
            obtain ⟨y, hy1, hy2⟩ := pairedAt hp (List.getElem?_eq_getElem hi')
            exact ⟨rfl, _, rfl, _, rfl, .inr (.inl ⟨p, xs, _, _, rfl, rfl, SqT.of (s2 _ _ hx), at_of (by omega) (List.getElem?_eq_getElem hi'), _, rfl, _, rfl, .inr (.inl ⟨q, ys, _, _, rfl, rfl, SqT.of (s2 _ _ hy), at_of (by omega) hy1, xs[i], y, rfl, Alk.same s2 hy2, fun H3 s3 => ⟨_, rfl, iteF ⟨s2.trans s3, s3 _ _ hd⟩⟩⟩)⟩)⟩
          · rintro H2 ⟨s2, hd⟩
            refine ⟨sizeS (by show 0 ≤ 100000; decide), fun l hl => ⟨.list [], .list [], Dp.lst (SqL.of (Same.new hl _ _ hd)) .nil, Dp.lst (SqL.of upd_same) .nil, shaped_nil, shaped_nil, ?_⟩⟩
            have kk := k _ (s2.trans (Same.new (o := .lst []) hl))
            rw [← eqv_nil] at kk
            exact kk
        · refine ⟨_, rfl, _, _, _, _, false, rfl, .ty _, .base (.lst hy), kit_ty (by decide +kernel), false, rfl, iteF ?_⟩
          refine ⟨_, rfl, _, _, _, _, true, rfl, .ty _, .base (.lst hy), kit_ty (by decide +kernel), true, rfl, iteT ?_⟩
          refine ⟨_, rfl, _, _, _, _, false, rfl, .ty _, .base (.lst hx), kit_ty (by decide +kernel), _, rfl, _, _, _, _, false, rfl, .ty _, .base (.lst hy), kit_ty (by decide +kernel), rfl, _, rfl, iteNS rfl ?_⟩
          refine ⟨_, rfl, _, _, _, _, true, rfl, .ty _, .base (.lst hx), kit_ty (by decide +kernel), _, rfl, _, _, _, _, true, rfl, .ty _, .base (.lst hy), kit_ty (by decide +kernel), rfl, _, rfl, iteNS rfl ?_⟩
          refine ⟨_, rfl, _, xs.length, rfl, .inl ⟨_, SqL.of hx, rfl⟩, _, rfl, _, ys.length, rfl, .inl ⟨_, SqL.of hy, rfl⟩, rfl, _, rfl, iteNS (by rw [el]) ?_⟩
          refine ⟨_, rfl, _, ys.length, rfl, .inl ⟨_, SqL.of hy, rfl⟩, _, rfl, by omega, by omega, fun D hD => ?_⟩
          refine lc_range (lo := 0) (n := ((ys.length : Int)).toNat) (fun i H2 => Same H H2 ∧ H2 D = some (.lst [])) ⟨Same.new hD, upd_same⟩ ?_ ?_
          · rintro i H2 hi ⟨s2, hd⟩
            rw [Int.toNat_natCast] at hi
            have hi' : i < xs.length := by omega
            obtain ⟨y, hy1, hy2⟩ := pairedAt hp (List.getElem?_eq_getElem hi')
            exact ⟨rfl, _, rfl, _, rfl, .inl ⟨p, xs, _, _, rfl, rfl, SqL.of (s2 _ _ hx), at_of (by omega) (List.getElem?_eq_getElem hi'), _, rfl, _, rfl, .inl ⟨q, ys, _, _, rfl, rfl, SqL.of (s2 _ _ hy), at_of (by omega) hy1, xs[i], y, rfl, Alk.same s2 hy2, fun H3 s3 => ⟨_, rfl, iteF ⟨s2.trans s3, s3 _ _ hd⟩⟩⟩⟩⟩
          · rintro H2 ⟨s2, hd⟩
            refine ⟨sizeS (by show 0 ≤ 100000; decide), fun l hl => ⟨.list [], .list [], Dp.lst (SqL.of (Same.new hl _ _ hd)) .nil, Dp.lst (SqL.of upd_same) .nil, shaped_nil, shaped_nil, ?_⟩⟩
            have kk := k _ (s2.trans (Same.new (o := .lst []) hl))
            rw [← eqv_nil] at kk
            exact kk
end
def spIsPatch : Sp := fun vs H Q _ => ∃ (v : V) (p : Addr) (rows : List Row) (c : Int), vs = [v, .ref p] ∧ PatchAt H v rows ∧ RowsAt H p rows ∧ (∀ r ∈ rows, r.ok c) ∧ total rows ≤ 10000 ∧ ∀ H', Same H H' → Q (.bl true) H'
def spSize : Sp := fun vs H Q _ => ∃ (v : V) (r : Row), vs = [v] ∧ RowV H v r ∧ r.len ≤ 10000 ∧ Q (.int r.len) H
theorem dp_ints' {K : PySem.W.Frag} {H : Hp} {p : Addr} {ns : List Int} (h : H p = some (.lst (List.map V.int ns))) : Dp K H (.ref p) (.list (ns.map PyData.int)) := by
  refine Dp.lst (SqL.of h) ?_
  clear h
  induction ns with
  | nil => exact .nil
  | cons n r ih => exact .cons (.int n) ih
theorem eqv_ints' (ns : List Int) : PyData.eqv (.list (ns.map PyData.int)) (.list (ns.map PyData.int)) = true :=
  SeqAt.eqv_refl _ (SeqAt.canLay_of_shaped (PySem.W.ke_shaped_ints ns))
theorem alk_tups {H : Hp} {p q : Addr} {xs : List V} (hp : H p = some (.tup xs)) (hq : H q = some (.tup xs)) (hl : xs.length ≤ 100000) (hs : ∀ x ∈ xs, (∃ i, x = .int i) ∨ ∃ s, x = .str s) : Alk H 2 (.ref p) (.ref q) := by
  refine .inr ⟨p, q, xs, xs, rfl, rfl, .inl ⟨hp, hq⟩, hl, ?_⟩
  clear hp hq hl
  induction xs with
  | nil => exact .nil
  | cons x xs ih => exact .cons (.inl ⟨rfl, hs x List.mem_cons_self⟩) (ih fun y hy => hs y (List.mem_cons_of_mem _ hy))
section
variable {P : Program} {w : World} {K : PySem.W.Frag} {mg : Str → Option Value} {base : Heap}
theorem ok_law_is_patch (T : All K mg) : FnOk P w K mg base CX0 3 T.d_law_is_patch.f T.d_law_is_patch.fd ["_law_told", "_law_rows"] spIsPatch := by
  have G_numbers_of : FnOk P w K mg base CX0 1 T.d_numbers_of.f T.d_numbers_of.fd ["some"] spNumsOf := ok_numbers_of T
  have G_law_like : FnOk P w K mg base CX0 2 T.d_law_like.f T.d_law_like.fd ["_law_found", "_law_due"] (spLike 2) := ok_law_like T 2
  refine T.d_law_is_patch.F.ok sc_law_is_patch (fun vs H Q E h => ?_) (fun cdv A outer s H vs Q E hr h => ?_)
  · obtain ⟨v, p, _, _, rfl, _⟩ := h
    rfl
  · obtain ⟨v, p, rows, c, rfl, ⟨u, us, rfl, hu, pu⟩, ⟨ws, hw, pw⟩, hok, htot, k⟩ := h
    refine ⟨_, (pss_cons 
      (ps_if (PW.pt (pw_or (pt_not (pt_val (pe_callB call_isi (by rfl) T.b_isinstance (by decide +kernel) (pa_cons (pv 0) (pa_cons (pe_bltn (v := .ty "tuple") (by rfl) T.b_tuple (by decide +kernel) rfl) pa_nil))))) (pw_or1 (pt_cmpR op_ne (pe_callB call_len (by rfl) T.b_len PySem.boot_len (pa_cons (pv 0) pa_nil)) (pe_callB call_len (by rfl) T.b_len PySem.boot_len (pa_cons (pv 1) pa_nil)) (nomark _))))) (pss_one 
      (ps_ret pe_bl)) pss_nil) (pss_cons 
      (ps_for PassesOwn.never rfl (pi_zipM (by rfl) T.b_zip (pa_cons (pv 0) (pa_cons (pv 1) pa_nil))) (pg_tup rfl (pgs_cons (pg_name (i := 2) sc_law_is_patch.nd rfl (Or.inl rfl)) (pgs_cons (pg_name (i := 3) sc_law_is_patch.nd rfl (Or.inl rfl)) pgs_nil))) (pss_cons 
      (ps_if (PW.pt (pw_or (pt_not (pt_val (pe_callB call_isi (by rfl) T.b_isinstance (by decide +kernel) (pa_cons (pv 2) (pa_cons (pe_bltn (v := .ty "tuple") (by rfl) T.b_tuple (by decide +kernel) rfl) pa_nil))))) (pw_or (pt_cmpR op_ne (pe_callB call_len (by rfl) T.b_len PySem.boot_len (pa_cons (pv 2) pa_nil)) (pe_callB call_len (by rfl) T.b_len PySem.boot_len (pa_cons (pv 3) pa_nil)) (nomark _)) (pw_or1 (pt_cmpR op_ne (pe_ix ix_tup (pv 2) pe_int (fun _ _ => rfl)) (pe_ix ix_tup (pv 3) pe_int (fun _ _ => rfl)) (nomark _)))))) (pss_one 
      (ps_ret pe_bl)) pss_nil) (pss_one 
      (ps_if (PW.pt (pw_or (PW.pt (pw_and (pt_cmpR op_eq (pe_ix ix_tup (pv 3) pe_int (fun _ _ => rfl)) pe_str (nomark _)) (pw_and1 (pt_cmpR (op_neD hr.units) (pe_call G_numbers_of (hr.mono (by decide)) rfl T.d_numbers_of.m T.d_numbers_of.F.kp T.d_numbers_of.b .nil pass0 (pa_cons (pe_ix ix_tup (pv 2) pe_int (fun _ _ => rfl)) pa_nil)) (pe_ix ix_tup (pv 3) pe_int (fun _ _ => rfl)) (nomark _))))) (pw_or1 (PW.pt (pw_and (pt_cmpR op_ne (pe_ix ix_tup (pv 3) pe_int (fun _ _ => rfl)) pe_str (nomark _)) (pw_and1 (pt_not (pt_val (pe_call G_law_like (hr.mono (by decide)) rfl T.d_law_like.m T.d_law_like.F.kp T.d_law_like.b .nil pass0 (pa_cons (pv 2) (pa_cons (pe_callTy call_tuple_of (by rfl) T.b_tuple (by decide +kernel) (pa_cons (pv 3) pa_nil)) pa_nil))))))))))) (pss_one 
      (ps_ret pe_bl)) pss_nil)))) (pss_one 
      (ps_ret pe_bl)))), ?_⟩
    have el : us.length = ws.length := by rw [Paired.length pu, Paired.length pw]
    refine ⟨_, rfl, _, _, _, _, true, rfl, .ty _, .base (.tup hu), kit_ty (by decide +kernel), true, rfl, iteF ?_⟩
    refine ⟨_, rfl, _, us.length, rfl, .inr ⟨_, SqT.of hu, rfl⟩, _, rfl, _, ws.length, rfl, .inl ⟨_, SqL.of hw, rfl⟩, rfl, _, rfl, iteNS (by rw [el]) ?_⟩
    refine ⟨_, rfl, _, rfl, u, p, us, ws, rfl, SqT.of hu, SqL.of hw, for_it (walk_zipM el) (fun i σ H2 => ∃ v2 v3 : Option V, σ = [some (.ref u), some (.ref p), v2, v3] ∧ Same H H2)
      ⟨none, none, rfl, Same.refl _⟩ (fun i σ H2 _ ⟨_, _, _, s2⟩ => ⟨SqT.of (s2 _ _ hu), SqL.of (s2 _ _ hw)⟩) ?_ ?_⟩
    · rintro i x σ H2 H3 hi ⟨v2, v3, rfl, s2⟩ ⟨t, x1, y1, rfl, ht, rfl, e1, e2⟩
      obtain ⟨r, hr1, q, rfl, hq⟩ := pairedAt pu e1
      obtain ⟨r', hr1', hrow⟩ := pairedAt pw e2
      rw [hr1] at hr1'
      cases hr1'
      have hro := hok r (List.mem_of_getElem? hr1)
      have hrl : r.len ≤ total rows := len_le_of hok (List.mem_of_getElem? hr1)
      have s3 : Same H (upd H2 t (.tup [.ref q, y1])) := s2.trans (Same.new ht)
      have hq3 := s3 _ _ hq
      refine ⟨t, _, rfl, SqT.of upd_same, rfl, _, _, rfl, _, _, rfl, rfl, ?_⟩
      refine ⟨_, rfl, _, _, _, _, true, rfl, .ty _, .base (.tup hq3), kit_ty (by decide +kernel), true, rfl, iteF ?_⟩
      cases r with
      | copy b n =>
        obtain ⟨z, rfl, hz⟩ := hrow.same s3
        refine ⟨_, rfl, _, 3, rfl, .inr ⟨_, SqT.of hq3, rfl⟩, _, rfl, _, 3, rfl, .inr ⟨_, SqT.of hz, rfl⟩, rfl, _, rfl, iteNS rfl ?_⟩
        refine ⟨_, rfl, q, _, _, _, rfl, rfl, SqT.of hq3, rfl, _, rfl, z, _, _, _, rfl, rfl, SqT.of hz, rfl, rfl, _, rfl, iteNS rfl ?_⟩
        refine ⟨_, rfl, z, _, _, _, rfl, rfl, SqT.of hz, rfl, rfl, _, rfl, ite2 (fun h => absurd h (by decide)) fun _ => iteF ?_⟩
        refine ⟨_, rfl, z, _, _, _, rfl, rfl, SqT.of hz, rfl, rfl, _, rfl, ite2 (fun _ => ?_) fun h => absurd (by decide) h⟩
        refine ⟨_, rfl, _, rfl, z, _, rfl, .inr ⟨SqT.of hz, .ref q, .ref z, rfl, alk_tups hq3 hz (by show 3 ≤ 100000; decide) ?_, fun H4 s4 => ⟨_, rfl, iteF ⟨_, _, rfl, s3.trans s4⟩⟩⟩⟩
        intro x hx
        simp [Row.tup] at hx
        rcases hx with rfl | rfl | rfl
        · exact .inr ⟨_, rfl⟩
        · exact .inl ⟨_, rfl⟩
        · exact .inl ⟨_, rfl⟩
      | run b n =>
        obtain ⟨z, rfl, hz⟩ := hrow.same s3
        refine ⟨_, rfl, _, 3, rfl, .inr ⟨_, SqT.of hq3, rfl⟩, _, rfl, _, 3, rfl, .inr ⟨_, SqT.of hz, rfl⟩, rfl, _, rfl, iteNS rfl ?_⟩
        refine ⟨_, rfl, q, _, _, _, rfl, rfl, SqT.of hq3, rfl, _, rfl, z, _, _, _, rfl, rfl, SqT.of hz, rfl, rfl, _, rfl, iteNS rfl ?_⟩
        refine ⟨_, rfl, z, _, _, _, rfl, rfl, SqT.of hz, rfl, rfl, _, rfl, ite2 (fun h => absurd h (by decide)) fun _ => iteF ?_⟩
        refine ⟨_, rfl, z, _, _, _, rfl, rfl, SqT.of hz, rfl, rfl, _, rfl, ite2 (fun _ => ?_) fun h => absurd (by decide) h⟩
        refine ⟨_, rfl, _, rfl, z, _, rfl, .inr ⟨SqT.of hz, .ref q, .ref z, rfl, alk_tups hq3 hz (by show 3 ≤ 100000; decide) ?_, fun H4 s4 => ⟨_, rfl, iteF ⟨_, _, rfl, s3.trans s4⟩⟩⟩⟩
        intro x hx
        simp [Row.tup] at hx
        rcases hx with rfl | rfl | rfl
        · exact .inr ⟨_, rfl⟩
        · exact .inl ⟨_, rfl⟩
        · exact .inl ⟨_, rfl⟩
      | bring bs =>
        obtain ⟨z, l, rfl, hz, hl⟩ := hrow.same s3
        have hbl : (bs.length : Int) ≤ total rows := hrl
        refine ⟨_, rfl, _, 2, rfl, .inr ⟨_, SqT.of hq3, rfl⟩, _, rfl, _, 2, rfl, .inr ⟨_, SqT.of hz, rfl⟩, rfl, _, rfl, iteNS rfl ?_⟩
        refine ⟨_, rfl, q, _, _, _, rfl, rfl, SqT.of hq3, rfl, _, rfl, z, _, _, _, rfl, rfl, SqT.of hz, rfl, rfl, _, rfl, iteNS rfl ?_⟩
        refine ⟨_, rfl, z, _, _, _, rfl, rfl, SqT.of hz, rfl, rfl, _, rfl, ite2 (fun _ => ?_) fun h => absurd (by decide) h⟩
        refine ⟨_, rfl, q, _, _, _, rfl, rfl, SqT.of hq3, rfl, bs, rfl, hro.2, by omega, fun m hm => ?_⟩
        have s4 := s3.trans (Same.new (o := .lst (List.map V.int bs)) hm)
        refine ⟨_, rfl, z, _, _, _, rfl, rfl, SqT.of (Same.new hm _ _ hz), rfl, _, _, dp_ints' upd_same, dp_ints' (Same.new hm _ _ hl), PySem.W.ke_shaped_ints _, PySem.W.ke_shaped_ints _, ?_⟩
        rw [eqv_ints']
        refine ⟨_, rfl, iteF ?_⟩
        refine ⟨_, rfl, z, _, _, _, rfl, rfl, SqT.of (Same.new hm _ _ hz), rfl, rfl, _, rfl, iteNS rfl (iteF ?_)⟩
        exact ⟨_, _, rfl, s4⟩
    · rintro σ H2 ⟨v2, v3, rfl, s2⟩
      exact k H2 s2
end
/-! ### a < b, a == b of tuples: items are asked only up to the first that differ; min of a list of what compares so; bytes.find -/
section
open AutoSeq1 (wpAny_loadPart')
open SeqAt MeetsSeq MeetsSeq2 MeetsSeq3 SeqRoads2
/-- how two things compare: ==, and where they differ < -/
def Cmp (A : Around) (s : Shared) (v u : Value) (o : Ordering) : Prop := EqAt A s v u (decide (o = .eq)) ∧ RcLt A s v u (decide (o = .lt))
inductive Lex (A : Around) (s : Shared) : List Value → List Value → Ordering → Prop
  | nil : Lex A s [] [] .eq
  | less {u : Value} {us : List Value} : Lex A s [] (u :: us) .lt
  | more {v : Value} {vs : List Value} : Lex A s (v :: vs) [] .gt
  | eq {v u : Value} {vs us : List Value} {o : Ordering} : Cmp A s v u .eq → Lex A s vs us o → Lex A s (v :: vs) (u :: us) o
  | diff {v u : Value} {vs us : List Value} {o : Ordering} : o ≠ .eq → Cmp A s v u o → Lex A s (v :: vs) (u :: us) o
theorem Lex.ends {A : Around} {s : Shared} {a b : List Value} {o : Ordering} (h : Lex A s a b o) (z : a = [] ∨ b = []) : decide (o = .lt) = decide (a.length < b.length) ∧ decide (o = .eq) = decide (a.length = b.length) := by
  cases h with
  | nil => exact ⟨rfl, rfl⟩
  | less => exact ⟨by simp, by simp⟩
  | more => exact ⟨by simp, by simp⟩
  | eq _ _ => rcases z with z | z <;> cases z
  | diff _ _ => rcases z with z | z <;> cases z
theorem tuple_ltL (l b : Addr) (items items2 : Array Value) (n n2 : Nat) (dd dd2 : Option Addr) (sl sl2 : Array (Option Value)) (o : Ordering) :
    Meets (Builtin.«tuple.__lt__» ⟨[.ref l, .ref b], []⟩)
      (fun A R s => s.heap.get? l = some { cls := .type "tuple", dict := dd, data := .seq items n, slots := sl } ∧ s.heap.get? b = some { cls := .type "tuple", dict := dd2, data := .seq items2 n2, slots := sl2 } ∧
        Lex A.in1 s items.toList items2.toList o ∧ R (.ok (.ret (.bool (decide (o = .lt))))) s) :=
  .of_wp fun prog w A R s h => by
    obtain ⟨hp, g, d, tk, os⟩ := s; obtain ⟨hl, hb, hx, h⟩ := h
    have f2 := AutoSeq1.sub_tuple_tuple
    have hZ : (items.toList.zip items2.toList).length = min items.size items2.size := by simp
    wp_walk using wpAny_loadPart' hl, wpAny_loadPart' hb, wpAny_forIn_list _ (fun rest b s' => b.1 = none ∧ s' = ⟨hp, g, d, tk, os⟩ ∧ ∃ i, i ≤ min items.size items2.size ∧ rest = (items.toList.zip items2.toList).drop i ∧
      Lex A.in1 ⟨hp, g, d, tk, os⟩ (items.toList.drop i) (items2.toList.drop i) o) _
    case turn =>
      rintro ⟨y, x⟩ rest b s' ⟨hb', rfl, i, hi, hz, hR⟩
      have hlt : i < (items.toList.zip items2.toList).length := by
        rcases Nat.lt_or_ge i (items.toList.zip items2.toList).length with h' | h'
        · exact h'
        · rw [List.drop_of_length_le h'] at hz; cases hz
      have hm : i < min items.size items2.size := hZ ▸ hlt
      have h1 : i < items.size := Nat.lt_of_lt_of_le hm (Nat.min_le_left _ _)
      have h2 : i < items2.size := Nat.lt_of_lt_of_le hm (Nat.min_le_right _ _)
      rw [List.drop_eq_getElem_cons hlt] at hz
      injection hz with hyx hrest
      have hy : y = items[i] := by have := congrArg Prod.fst hyx; simpa using this
      have hx : x = items2[i] := by have := congrArg Prod.snd hyx; simpa using this
      subst hy hx
      have d1 : items.toList.drop i = items[i] :: items.toList.drop (i + 1) := List.drop_eq_getElem_cons (by simpa using h1)
      have d2 : items2.toList.drop i = items2[i] :: items2.toList.drop (i + 1) := List.drop_eq_getElem_cons (by simpa using h2)
      rw [d1, d2] at hR
      cases hR with
      | eq hc ht =>
        have hc := hc.1 prog w
        refine wpAny_bind (hc _ _ ?_)
        wp_walk
        exact ⟨rfl, rfl, i + 1, hm, hrest, ht⟩
      | diff ho hc =>
        have hc1 := hc.1 prog w
        have hc2 := hc.2 prog w
        rw [decide_eq_false ho] at hc1
        refine wpAny_bind (hc1 _ _ ?_)
        have hc3 : ∀ {E : Value → Shared → Prop} {Q : Value → Shared → Prop}, Q (.bool (decide (o = .lt))) ⟨hp, g, d, tk, os⟩ → wpAny (model prog w) A.in1 (richCompare .Lt items[i] items2[i]) Q E ⟨hp, g, d, tk, os⟩ := fun q => hc2 _ _ q
        wp_walk using hc3
        exact ⟨_, rfl, h⟩
    case fin =>
      rintro ⟨b1, b2⟩ s' ⟨hb', rfl, i, hi, hz, hR⟩
      simp only at hb'
      subst hb'
      have hge : min items.size items2.size ≤ i := by
        rcases Nat.lt_or_ge i (items.toList.zip items2.toList).length with h' | h'
        · rw [List.drop_eq_getElem_cons h'] at hz; cases hz
        · exact hZ ▸ h'
      wp_walk
      refine ⟨_, rfl, ?_⟩
      have z : items.toList.drop i = [] ∨ items2.toList.drop i = [] := by
        rcases Nat.le_total items.size items2.size with q | q
        · exact .inl (List.drop_of_length_le (by simp; omega))
        · exact .inr (List.drop_of_length_le (by simp; omega))
      have e := (hR.ends z).1
      rw [List.length_drop, List.length_drop, Array.length_toList, Array.length_toList] at e
      have e2 : decide (o = .lt) = decide (items.size < items2.size) := by
        rw [e]
        exact decide_eq_decide.mpr (by omega)
      rw [e2] at h
      simpa [Builtin.Tuple.tupleCompareSizes] using h
    case h =>
      exact ⟨rfl, rfl, 0, Nat.zero_le _, rfl, hx⟩
theorem tuple_eqL (l b : Addr) (items items2 : Array Value) (n n2 : Nat) (dd dd2 : Option Addr) (sl sl2 : Array (Option Value)) (o : Ordering) :
    Meets (Builtin.«tuple.__eq__» ⟨[.ref l, .ref b], []⟩)
      (fun A R s => s.heap.get? l = some { cls := .type "tuple", dict := dd, data := .seq items n, slots := sl } ∧ s.heap.get? b = some { cls := .type "tuple", dict := dd2, data := .seq items2 n2, slots := sl2 } ∧
        Lex A.in1 s items.toList items2.toList o ∧ R (.ok (.ret (.bool (decide (o = .eq))))) s) :=
  .of_wp fun prog w A R s h => by
    obtain ⟨hp, g, d, tk, os⟩ := s; obtain ⟨hl, hb, hx, h⟩ := h
    have f2 := AutoSeq1.sub_tuple_tuple
    have hZ : (items.toList.zip items2.toList).length = min items.size items2.size := by simp
    wp_walk using wpAny_loadPart' hl, wpAny_loadPart' hb, wpAny_forIn_list _ (fun rest b s' => b.1 = none ∧ s' = ⟨hp, g, d, tk, os⟩ ∧ ∃ i, i ≤ min items.size items2.size ∧ rest = (items.toList.zip items2.toList).drop i ∧
      Lex A.in1 ⟨hp, g, d, tk, os⟩ (items.toList.drop i) (items2.toList.drop i) o) _
    case turn =>
      rintro ⟨y, x⟩ rest b s' ⟨hb', rfl, i, hi, hz, hR⟩
      have hlt : i < (items.toList.zip items2.toList).length := by
        rcases Nat.lt_or_ge i (items.toList.zip items2.toList).length with h' | h'
        · exact h'
        · rw [List.drop_of_length_le h'] at hz; cases hz
      have hm : i < min items.size items2.size := hZ ▸ hlt
      have h1 : i < items.size := Nat.lt_of_lt_of_le hm (Nat.min_le_left _ _)
      have h2 : i < items2.size := Nat.lt_of_lt_of_le hm (Nat.min_le_right _ _)
      rw [List.drop_eq_getElem_cons hlt] at hz
      injection hz with hyx hrest
      have hy : y = items[i] := by have := congrArg Prod.fst hyx; simpa using this
      have hx : x = items2[i] := by have := congrArg Prod.snd hyx; simpa using this
      subst hy hx
      have d1 : items.toList.drop i = items[i] :: items.toList.drop (i + 1) := List.drop_eq_getElem_cons (by simpa using h1)
      have d2 : items2.toList.drop i = items2[i] :: items2.toList.drop (i + 1) := List.drop_eq_getElem_cons (by simpa using h2)
      rw [d1, d2] at hR
      cases hR with
      | eq hc ht =>
        have hc := hc.1 prog w
        refine wpAny_bind (hc _ _ ?_)
        wp_walk
        exact ⟨rfl, rfl, i + 1, hm, hrest, ht⟩
      | diff ho hc =>
        have hc1 := hc.1 prog w
        rw [decide_eq_false ho] at hc1 h
        refine wpAny_bind (hc1 _ _ ?_)
        wp_walk
        exact ⟨_, rfl, h⟩
    case fin =>
      rintro ⟨b1, b2⟩ s' ⟨hb', rfl, i, hi, hz, hR⟩
      simp only at hb'
      subst hb'
      have hge : min items.size items2.size ≤ i := by
        rcases Nat.lt_or_ge i (items.toList.zip items2.toList).length with h' | h'
        · rw [List.drop_eq_getElem_cons h'] at hz; cases hz
        · exact hZ ▸ h'
      wp_walk
      refine ⟨_, rfl, ?_⟩
      have z : items.toList.drop i = [] ∨ items2.toList.drop i = [] := by
        rcases Nat.le_total items.size items2.size with q | q
        · exact .inl (List.drop_of_length_le (by simp; omega))
        · exact .inr (List.drop_of_length_le (by simp; omega))
      have e := (hR.ends z).2
      rw [List.length_drop, List.length_drop, Array.length_toList, Array.length_toList] at e
      have e2 : decide (o = .eq) = decide (items.size = items2.size) := by
        rw [e]
        exact decide_eq_decide.mpr (by omega)
      rw [e2] at h
      have e3 : decide (items.size = items2.size) = (items.size == items2.size) := by rw [Bool.eq_iff_iff, decide_eq_true_iff, beq_iff_eq]
      rw [e3] at h
      simpa [Builtin.Tuple.tupleCompareSizes] using h
    case h =>
      exact ⟨rfl, rfl, 0, Nat.zero_le _, rfl, hx⟩

theorem RcLt.tuplesL {A : Around} {s : Shared} {l b : Addr} {items items2 : Array Value} {o : Ordering} (hl : s.heap.IsTuple l items) (hb : s.heap.IsTuple b items2) (hu : A.units < cLine) (hx : Lex A.in1 s items.toList items2.toList o) :
    RcLt A s (.ref l) (.ref b) (decide (o = .lt)) := fun prog w E Q h => by
  obtain ⟨⟨cls, dd, data, sl⟩, ho, hc, n, hd⟩ := id hl
  obtain ⟨⟨cls2, dd2, data2, sl2⟩, ho2, hc2, n2, hd2⟩ := id hb
  simp only at hc hd hc2 hd2
  subst hc hd hc2 hd2
  exact richCompare_meets_room (op := .Lt) ⟨_, ho, rfl⟩ ⟨_, ho2, rfl⟩ F.slot_tuple_lt F.entry_tuple_lt (F.args_tuple_lt_2 _ _) (tuple_ltL l b items items2 n n2 dd dd2 sl sl2 o)
    ⟨ho, ho2, hx, show Value.bool (decide (o = .lt)) ≠ Value.notImplemented ∧ Q (.bool (decide (o = .lt))) s from ⟨(fun x => nomatch x), h⟩⟩ hu
theorem RcAt.tuplesL {A : Around} {s : Shared} {l b : Addr} {items items2 : Array Value} {o : Ordering} (hl : s.heap.IsTuple l items) (hb : s.heap.IsTuple b items2) (hu : A.units < cLine) (hx : Lex A.in1 s items.toList items2.toList o) :
    RcAt A s (.ref l) (.ref b) (decide (o = .eq)) := fun prog w E Q h => by
  obtain ⟨⟨cls, dd, data, sl⟩, ho, hc, n, hd⟩ := id hl
  obtain ⟨⟨cls2, dd2, data2, sl2⟩, ho2, hc2, n2, hd2⟩ := id hb
  simp only at hc hd hc2 hd2
  subst hc hd hc2 hd2
  exact richCompare_meets_room (op := .Eq) ⟨_, ho, rfl⟩ ⟨_, ho2, rfl⟩ F.slot_tuple_eq F.entry_tuple_eq (F.args_tuple_eq_2 _ _) (tuple_eqL l b items items2 n n2 dd dd2 sl sl2 o)
    ⟨ho, ho2, hx, show Value.bool (decide (o = .eq)) ≠ Value.notImplemented ∧ Q (.bool (decide (o = .eq))) s from ⟨(fun x => nomatch x), h⟩⟩ hu
/-- two tuples -/
theorem Cmp.tuples {A : Around} {s : Shared} {l b : Addr} {items items2 : Array Value} {o : Ordering} (hl : s.heap.IsTuple l items) (hb : s.heap.IsTuple b items2) (hu : A.units < cLine) (hx : Lex A.in1 s items.toList items2.toList o) (same : l = b → o = .eq) :
    Cmp A s (.ref l) (.ref b) o := by
  refine ⟨?_, RcLt.tuplesL hl hb hu hx⟩
  by_cases e : l = b
  · subst e
    rw [same rfl]
    exact EqAt.same _
  · exact EqAt.of_refs e (RcAt.tuplesL hl hb hu hx)

theorem Cmp.ints {A : Around} {s : Shared} (a b : Int) (t u : Tok) : Cmp A s (.int a t) (.int b u) (compare a b) := by
  refine ⟨?_, fun prog w E Q q => ?_⟩
  · have z := EqAt.int_int (A := A) (s := s) a t b u
    have e : (a == b) = decide (compare a b = .eq) := by
      rw [Bool.eq_iff_iff, beq_iff_eq, decide_eq_true_iff, Int.compare_eq_eq]
    rw [e] at z
    exact z
  · refine P.lt_int ?_
    have e : decide (a < b) = decide (compare a b = .lt) := decide_eq_decide.mpr Int.compare_eq_lt.symm
    rw [e]
    exact q
theorem Cmp.strs {A : Around} {s : Shared} (a b : Str) (t u : Tok) (o : Ordering) (he : (a == b) = decide (o = .eq)) (hl : decide (a.cps.toList < b.cps.toList) = decide (o = .lt)) : Cmp A s (.str a t) (.str b u) o := by
  refine ⟨?_, fun prog w E Q q => ?_⟩
  · have z := EqAt.str_str (A := A) (s := s) a t b u
    rw [he] at z
    exact z
  · refine P.lt_str ?_
    rw [hl]
    exact q
theorem ord_eq : ∀ (a b : List Int), PySem.W.KBq.ord a b = .eq ↔ a = b
  | [], [] => by simp [PySem.W.KBq.ord]
  | [], _ :: _ => by simp [PySem.W.KBq.ord]
  | _ :: _, [] => by simp [PySem.W.KBq.ord]
  | x :: xs, y :: ys => by
    have ih := ord_eq xs ys
    unfold PySem.W.KBq.ord
    split
    · rename_i h; simp; omega
    · split
      · rename_i h; simp; omega
      · have e : x = y := by omega
        simp [e, ih]
theorem ord_lt : ∀ (a b : List Int), PySem.W.KBq.ord a b = .lt ↔ a < b
  | [], [] => by simp [PySem.W.KBq.ord]
  | [], _ :: _ => by simp [PySem.W.KBq.ord]
  | _ :: _, [] => by simp [PySem.W.KBq.ord]
  | x :: xs, y :: ys => by
    have ih := ord_lt xs ys
    unfold PySem.W.KBq.ord
    rw [List.cons_lt_cons_iff]
    split
    · rename_i h; simp [h]
    · split
      · rename_i h
        simp
        omega
      · have e : x = y := by omega
        simp [e, ih]
theorem ord_cons (x y : Int) (xs ys : List Int) : PySem.W.KBq.ord (x :: xs) (y :: ys) = (compare x y).then (PySem.W.KBq.ord xs ys) := by
  have e : PySem.W.KBq.ord (x :: xs) (y :: ys) = if x < y then .lt else if y < x then .gt else PySem.W.KBq.ord xs ys := rfl
  rw [e]
  by_cases h : x < y
  · rw [if_pos h, Int.compare_eq_lt.mpr h]; rfl
  · rw [if_neg h]
    by_cases h2 : y < x
    · rw [if_pos h2, Int.compare_eq_gt.mpr h2]; rfl
    · rw [if_neg h2, Int.compare_eq_eq.mpr (by omega)]; rfl
theorem Cmp.byts {A : Around} {s : Shared} {bs cs : List Int} (hb : B8 bs) (hc : B8 cs) (t u : Tok) : Cmp A s (.bytes (byteArr bs) t) (.bytes (byteArr cs) u) (PySem.W.KBq.ord bs cs) := by
  refine ⟨fun prog w E Q q => PySem.W.eqBool_bytes ?_, fun prog w E Q q => ?_⟩
  · have e : decide ((byteArr bs).toList = (byteArr cs).toList) = decide (PySem.W.KBq.ord bs cs = .eq) := by
      refine decide_eq_decide.mpr ?_
      rw [ord_eq]
      exact ⟨fun h => by rw [← bInts_of hb, Array.toList_inj.mp h, bInts_of hc], fun h => by rw [h]⟩
    rw [e]
    exact q
  · refine PySem.W.KBq.lt_K (bInts_of hb) (bInts_of hc) ?_
    have e : (PySem.W.KBq.ord bs cs == .lt) = decide (PySem.W.KBq.ord bs cs = .lt) := by rw [Bool.eq_iff_iff, beq_iff_eq, decide_eq_true_iff]
    rw [e]
    exact q
theorem Lex.cons {A : Around} {s : Shared} {v u : Value} {vs us : List Value} {o1 o2 : Ordering} (c : Cmp A s v u o1) (h : o1 = .eq → Lex A s vs us o2) : Lex A s (v :: vs) (u :: us) (o1.then o2) := by
  cases o1 with
  | eq => exact .eq c (h rfl)
  | lt => exact .diff (fun z => by cases z) c
  | gt => exact .diff (fun z => by cases z) c
/-! ### how two values compare, told of the heap -/
inductive LexV (F : V → V → Ordering → Prop) : List V → List V → Ordering → Prop
  | nil : LexV F [] [] .eq
  | less {u : V} {us : List V} : LexV F [] (u :: us) .lt
  | more {v : V} {vs : List V} : LexV F (v :: vs) [] .gt
  | cons {v u : V} {vs us : List V} {o1 o2 : Ordering} : F v u o1 → (o1 = .eq → LexV F vs us o2) → LexV F (v :: vs) (u :: us) (o1.then o2)
def Ov (H : Hp) : Nat → V → V → Ordering → Prop
  | 0, _, _, _ => False
  | n + 1, x, y, o => (∃ a b : Int, x = .int a ∧ y = .int b ∧ o = compare a b) ∨ (∃ a b : Str, x = .str a ∧ y = .str b ∧ (a == b) = decide (o = .eq) ∧ decide (a.cps.toList < b.cps.toList) = decide (o = .lt))
    ∨ (∃ bs cs : List Int, x = .byt (byteArr bs) ∧ y = .byt (byteArr cs) ∧ B8 bs ∧ B8 cs ∧ o = PySem.W.KBq.ord bs cs)
    ∨ ∃ a b xs ys, x = .ref a ∧ y = .ref b ∧ H a = some (.tup xs) ∧ H b = some (.tup ys) ∧ LexV (Ov H n) xs ys o ∧ (a = b → o = .eq)
theorem lexv_run {A : Around} {s : Shared} {F : V → V → Ordering → Prop} (ih : ∀ x y v u o, F x y o → RelV x v → RelV y u → Cmp A s v u o) {xs ys : List V} {o : Ordering} (h : LexV F xs ys o) : ∀ {us ws : List Value}, Vals xs us → Vals ys ws → Lex A s us ws o := by
  induction h with
  | nil => intro us ws r1 r2; cases r1; cases r2; exact .nil
  | less => intro us ws r1 r2; cases r1; cases r2; exact .less
  | more => intro us ws r1 r2; cases r1; cases r2; exact .more
  | cons f _ ih2 =>
    intro us ws r1 r2
    cases r1 with
    | cons a t =>
      cases r2 with
      | cons b t2 => exact Lex.cons (ih _ _ _ _ _ f a b) fun e => ih2 e t t2
theorem ov_run {X : Cx} {pins : List (Addr × Obj)} {σ : L2.St} {H : Hp} {s s' : Shared} (I : Inv X pins σ H s) (hk : ∀ b o, s.heap.get? b = some o → s'.heap.get? b = some o) :
    ∀ (n : Nat) (A : Around), A.units + n < cLine → ∀ (x y : V) (v u : Value) (o : Ordering), Ov H n x y o → RelV x v → RelV y u → Cmp A s' v u o
  | 0, _, _, _, _, _, _, _, h, _, _ => h.elim
  | n + 1, A, hu, x, y, v, u, o, h, rx, ry => by
    rcases h with ⟨a, b, rfl, rfl, rfl⟩ | ⟨a, b, rfl, rfl, h1, h2⟩ | ⟨bs, cs, rfl, rfl, h1, h2, rfl⟩ | ⟨a, b, xs, ys, rfl, rfl, ha, hb, hx, same⟩
    · obtain ⟨t, rfl⟩ := (show ∃ t, v = Value.int a t from rx)
      obtain ⟨t', rfl⟩ := (show ∃ t, u = Value.int b t from ry)
      exact Cmp.ints a b t t'
    · obtain ⟨t, rfl⟩ := (show ∃ t, v = Value.str a t from rx)
      obtain ⟨t', rfl⟩ := (show ∃ t, u = Value.str b t from ry)
      exact Cmp.strs a b t t' o h1 h2
    · obtain ⟨t, rfl⟩ := (show ∃ t, v = Value.bytes (byteArr bs) t from rx)
      obtain ⟨t', rfl⟩ := (show ∃ t, u = Value.bytes (byteArr cs) t from ry)
      exact Cmp.byts h1 h2 t t'
    · cases (show v = Value.ref a from rx)
      cases (show u = Value.ref b from ry)
      obtain ⟨us, r1, p1, _⟩ := I.tuple (SqT.of (K := X.K) ha)
      obtain ⟨ws, r2, p2, _⟩ := I.tuple (SqT.of (K := X.K) hb)
      refine Cmp.tuples (items := us.toArray) (items2 := ws.toArray) (Heap.IsTuple.at (show s.heap.IsTuple a us.toArray from p1) fun o e => hk _ _ e) (Heap.IsTuple.at (show s.heap.IsTuple b ws.toArray from p2) fun o e => hk _ _ e) (by omega) ?_ same
      exact lexv_run (fun x y v u o h rx ry => ov_run I hk n A.in1 (by show A.units + 1 + n < cLine; omega) x y v u o h rx ry) hx r1 r2
/-- the first of the least: none is less -/
theorem argBest_least {bt : Nat → Nat → Bool} {n : Nat} (rf : ∀ i, i < n → bt i i = false) (tr : ∀ i b m, i < n → b < n → m < n → bt i b = false → bt m b = true → bt i m = false) :
    ∀ k, k < n → argBest bt k ≤ k ∧ ∀ j, j ≤ k → bt j (argBest bt k) = false
  | 0, h => ⟨Nat.le_refl _, fun j hj => by rw [Nat.le_zero.mp hj]; exact rf 0 h⟩
  | k + 1, h => by
    obtain ⟨ih0, ih⟩ := argBest_least rf tr k (by omega)
    show (if bt (k + 1) (argBest bt k) then k + 1 else argBest bt k) ≤ k + 1 ∧ ∀ j, j ≤ k + 1 → bt j (if bt (k + 1) (argBest bt k) then k + 1 else argBest bt k) = false
    by_cases e : bt (k + 1) (argBest bt k) = true
    · rw [if_pos e]
      refine ⟨Nat.le_refl _, fun j hj => ?_⟩
      by_cases ej : j = k + 1
      · rw [ej]; exact rf _ h
      · exact tr j _ _ (by omega) (by omega) h (ih j (by omega)) e
    · rw [if_neg e]
      refine ⟨by omega, fun j hj => ?_⟩
      by_cases ej : j = k + 1
      · rw [ej]; simpa using e
      · exact ih j (by omega)
/-- min of a list whose items compare as their keys do -/
def rMinO (K : PySem.W.Frag) : List V → Hp → VK → Prop := fun vs H Q => ∃ (a : Addr) (xs : List V) (κ : Type) (ks : List κ) (f : κ → κ → Ordering), vs = [V.ref a] ∧ SqL K H a xs ∧ xs ≠ [] ∧ xs.length = ks.length ∧
  (∀ (i j : Nat) (x y : V) (k l : κ), xs[i]? = some x → xs[j]? = some y → ks[i]? = some k → ks[j]? = some l → Ov H 8 x y (f k l)) ∧ (∀ k ∈ ks, f k k ≠ .lt) ∧
  (∀ x ∈ ks, ∀ b ∈ ks, ∀ m ∈ ks, f x b ≠ .lt → f m b = .lt → f x m ≠ .lt) ∧ ∀ (i : Nat) (x : V) (k : κ), xs[i]? = some x → ks[i]? = some k → (∀ l ∈ ks, f l k ≠ .lt) → Q x H
theorem cr_minO {X : Cx} {K : PySem.W.Frag} (hc : X.calm = true) (hK : X.K = K) (hu : X.A.units + 64 < cLine) : CallR X (.builtin "min") (rMinO K) := by
  subst hK
  intro pins s σ H vs us Q I r h
  obtain ⟨a, xs, κ, ks, f, rfl, hs, hne, hlen, hx, rf, tr, q⟩ := h
  obtain ⟨its, rv, hl, hz⟩ := I.list hs
  obtain ⟨u, rfl, ru⟩ := vals1 r
  obtain rfl : u = Value.ref a := ru
  have len : its.length = xs.length := rv.length.symm
  have at_ : ∀ (i : Nat) (v : Value), its.toArray[i]? = some v → ∃ x k, xs[i]? = some x ∧ ks[i]? = some k ∧ RelV x v := fun (i : Nat) (v : Value) hv => by
    have hv : its[i]? = some v := by simpa using hv
    have lt : i < xs.length := by rw [← len]; exact (List.getElem?_eq_some_iff.mp hv).1
    obtain ⟨u, hu, ru⟩ := rv.get (i := i) (x := xs[i]) (List.getElem?_eq_getElem lt)
    rw [hv] at hu
    cases hu
    exact ⟨_, _, List.getElem?_eq_getElem lt, List.getElem?_eq_getElem (by omega), ru⟩
  have pos : 0 < its.toArray.size := by
    rw [List.size_toArray, len]
    exact List.length_pos_iff.mpr hne
  refine call_min_walkH (PySem.W.iter_listW (A := X.A.in1) (I.ok.hd hc) hl.isList fun s₂ e W st hfp hw hk => ?_)
  refine ⟨_, _, _, _, _, _, _, s.heap, (fun i j => match ks[i]?, ks[j]? with | some x, some y => decide (f x y = .lt) | _, _ => false), rfl, W, st, hfp, pos, hw, hk, fun i j vi vj s' Q' E' hk' hi hj hq => ?_, fun v s' hP m => ?_⟩
  · obtain ⟨x, k, ex, ek, rx⟩ := at_ i vi hi
    obtain ⟨y, l, ey, el, ry⟩ := at_ j vj hj
    simp only [ek, el] at hq
    have c := ov_run I hk' 8 X.A.in1 (by show X.A.units + 1 + 8 < cLine; omega) x y vi vj _ (hx i j x y k l ex ey ek el) rx ry
    exact c.2 _ _ _ _ hq
  · obtain ⟨h', tk, rfl, hk'⟩ := PySem.W.moved_old e rfl m
    have bl := argBest_least (n := ks.length) (bt := fun i j => match ks[i]?, ks[j]? with | some x, some y => decide (f x y = .lt) | _, _ => false) (fun i hi => ?_) (fun i b m hi hb hm h1 h2 => ?_) (its.toArray.size - 1) (by rw [← hlen, ← len, ← List.size_toArray]; omega)
    · obtain ⟨x, k, ex, ek, rx⟩ := at_ _ v hP
      refine ⟨x, H, I.kept hk', rx, q _ x k ex ek fun l hl => ?_⟩
      obtain ⟨j, ej⟩ := List.mem_iff_getElem?.mp hl
      have hj := (List.getElem?_eq_some_iff.mp ej).1
      have z := bl.2 j (by rw [← hlen, ← len] at hj; rw [List.size_toArray]; omega)
      simp only [ej, ek] at z
      exact of_decide_eq_false z
    · simp only [List.getElem?_eq_getElem hi]
      exact decide_eq_false (rf _ (List.getElem_mem hi))
    · simp only [List.getElem?_eq_getElem hi, List.getElem?_eq_getElem hb, List.getElem?_eq_getElem hm] at h1 h2 ⊢
      exact decide_eq_false (tr _ (List.getElem_mem hi) _ (List.getElem_mem hb) _ (List.getElem_mem hm) (of_decide_eq_false h1) (of_decide_eq_true h2))
/-! ### bytes.find -/
theorem mt_bfind {X : Cx} : MtR X "bytes.find" (fun x xs H Q => ∃ bs cs : List Int, x = .byt (byteArr bs) ∧ xs = [.byt (byteArr cs)] ∧ B8 bs ∧ B8 cs ∧ Q (.int (PySem.W.KBf.told (PySem.W.KBf.first? bs cs))) H) := by
  intro pins s σ H x xs v us Q I rx rs h
  obtain ⟨bs, cs, rfl, rfl, hb, hc, q⟩ := h
  obtain ⟨t, rfl⟩ := rx
  cases rs with
  | cons r rr =>
    cases rr
    obtain ⟨u, rfl⟩ := r
    exact PySem.W.KBf.find_K (bInts_of hb) (bInts_of hc) fun t' k _ _ _ => ⟨.int _, H, I.tok k, ⟨_, rfl⟩, q⟩
/-- a method of bytes -/
def tBMB (r : V → List V → Hp → VK → Prop) (to : TE) (t : TA) : TE := fun σ H Q => to σ H fun x H1 => (∃ b, x = .byt b) ∧ t σ H1 fun xs H2 => r x xs H2 Q
theorem pe_bmB {X : Cx} {o e : Expr} {es : List Expr} {to : TE} {t : TA} {name : Str} {apos cpos : Pos} {id : String} {r : V → List V → Hp → VK → Prop} (slot : Slot "bytes" name id) (hty : typeOf (.builtin id) = pure (.type "method_descriptor")) (hm : MtR X id r) (ho : PE X o to) (ha : PA X (e :: es) t)
    (hbase : attributeBase o name X.env (eval o X.env) = eval o X.env := by rfl)
    (hfew : ((backTo cpos (starEach (e :: es) X.env)).all (fun x => !x.1) && (backToKw cpos (keywordEach [] X.env)).all (fun x => x.1.isSome)
      && decide ((e :: es).length + ([] : List Keyword).length + (if ([] : List Keyword).isEmpty then 0 else 1) < 30)) = true := by rfl)
    (hline : (apos.endLine == cpos.line) = true := by rfl) (hs : starEach (e :: es) X.env = (false, eval e X.env) :: starEach es X.env := by rfl) (hplain : (backTo cpos (starEach es X.env)).any (·.1) = false := by rfl) :
    PE X (.Call (.Attribute o name apos) (e :: es) [] cpos) (tBMB r to t) := by
  refine ⟨fun pins s σ H Q I h => ?_⟩
  refine wpAny_Call_method_late hbase hfew hline rfl (thn (ho.run pins s σ H _ I h) fun v s1 ⟨x, H1, I1, r1, ty, q1⟩ => ?_)
  obtain ⟨b, rfl⟩ := ty
  obtain ⟨tk, rfl⟩ := (show ∃ t, v = Value.bytes b t from r1)
  refine ⟨"bytes", id, PySem.W.FB.plainAttrs_bytes, slot, hty, PySem.W.typeIs_bytes _ _ _, (fun _ e => nomatch e), ?_⟩
  have hA := ha.run cpos pins s1 σ H1 _ I1 q1
  rw [hs] at hA ⊢
  refine Calls.callWith_builtin (by show (false || (backTo cpos (starEach es X.env)).any (·.1)) = false; rw [hplain] <;> rfl) (Calls.evalArgs_plain ?_)
  exact thn hA fun us s2 ⟨vs, H2, I2, r2, q2⟩ => hm pins s2 σ H2 (.byt b) vs _ us Q I2 ⟨tk, rfl⟩ r2 q2
end
/-! ### the shortest code: what pieces may stand at a place, the first of the least -/
def Row.key : Row → List Int
  | .bring bs => 0 :: bs
  | .copy b n => [1, b, n]
  | .run b n => [2, b, n]
theorem Row.key_inj : ∀ {r r' : Row}, r.key = r'.key → r = r'
  | .bring _, .bring _, h => by simp only [Row.key, List.cons.injEq, true_and] at h; rw [h]
  | .copy _ _, .copy _ _, h => by simp only [Row.key, List.cons.injEq, true_and, and_true] at h; rw [h.1, h.2]
  | .run _ _, .run _ _, h => by simp only [Row.key, List.cons.injEq, true_and, and_true] at h; rw [h.1, h.2]
  | .bring _, .copy _ _, h => by simp [Row.key] at h
  | .bring _, .run _ _, h => by simp [Row.key] at h
  | .copy _ _, .bring _, h => by simp [Row.key] at h
  | .copy _ _, .run _ _, h => by simp [Row.key] at h
  | .run _ _, .bring _, h => by simp [Row.key] at h
  | .run _ _, .copy _ _, h => by simp [Row.key] at h
theorem keys_inj : ∀ {a b : List Row}, a.map Row.key = b.map Row.key → a = b
  | [], [], _ => rfl
  | [], _ :: _, h => by cases h
  | _ :: _, [], h => by cases h
  | x :: a, y :: b, h => by
    rw [List.map_cons, List.map_cons, List.cons.injEq] at h
    rw [Row.key_inj h.1, keys_inj h.2]
def valR (old : List Int) (r : Row) : List Int := (cellsR r).map (valOf old)
theorem done_cons (r : Row) (l : List Row) (old : List Int) : doneOf (r :: l) old = valR old r ++ doneOf l old := by
  show ((r :: l).flatMap cellsR).map (valOf old) = _
  rw [List.flatMap_cons, List.map_append]
  rfl
theorem valR_len {c : Int} {r : Row} (old : List Int) (h : r.ok c) : (valR old r).length = r.len.toNat := by
  have := cellsR_len h
  unfold valR
  rw [List.length_map]
  omega
structure Fits (old new : List Int) (i : Nat) (r : Row) : Prop where
  ok : r.ok old.length
  le : i + r.len.toNat ≤ new.length
  is : valR old r = (new.drop i).take r.len.toNat
theorem Fits.pos {old new : List Int} {i : Nat} {r : Row} (h : Fits old new i r) : 1 ≤ r.len.toNat := by
  have := Row.len_pos h.ok
  omega
theorem fits_cons {old new : List Int} {i : Nat} {r : Row} {rows : List Row} (hi : i ≤ new.length) (hok : r.ok old.length) (e : doneOf (r :: rows) old = new.drop i) :
    Fits old new i r ∧ doneOf rows old = new.drop (i + r.len.toNat) ∧ i < new.length := by
  rw [done_cons] at e
  have hl := valR_len old hok
  have hp := Row.len_pos hok
  have e2 := congrArg List.length e
  rw [List.length_append, List.length_drop, hl] at e2
  refine ⟨⟨hok, by omega, ?_⟩, ?_, by omega⟩
  · rw [← e, ← hl, List.take_left]
  · rw [← List.drop_drop, ← e, ← hl, List.drop_left]
def cost (rows : List Row) : Int := (rows.map rowSize).sum
/-- what follows place i costs S i; the piece there is F i, the first of the least -/
def PLess (old new : List Int) (S : Nat → Int) (F : Nat → Row) (i : Nat) : Prop :=
  Fits old new i (F i) ∧ S i = rowSize (F i) + S (i + (F i).len.toNat) ∧ ∀ r, Fits old new i r → ¬ ((rowSize r + S (i + r.len.toNat)) :: r.key) < (S i :: (F i).key)
inductive Chain (F : Nat → Row) (n : Nat) : Nat → List Row → Prop
  | nil : Chain F n n []
  | cons {i : Nat} {rows : List Row} : i < n → Chain F n (i + (F i).len.toNat) rows → Chain F n i (F i :: rows)
section
variable {old new : List Int} {S : Nat → Int} {F : Nat → Row}
theorem done_nil_at {i : Nat} (hi : i ≤ new.length) (e : doneOf [] old = new.drop i) : i = new.length := by
  have e2 := congrArg List.length e
  rw [List.length_drop] at e2
  have : (doneOf [] old).length = 0 := rfl
  omega
theorem least_sum (hS : S new.length = 0) (hb : ∀ i, i < new.length → PLess old new S F i) : ∀ (rows : List Row) (i : Nat), i ≤ new.length → (∀ r ∈ rows, r.ok old.length) → doneOf rows old = new.drop i → S i ≤ cost rows
  | [], i, hi, _, e => by
    rw [done_nil_at hi e, hS]
    exact Int.le_refl _
  | r :: rows, i, hi, hok, e => by
    obtain ⟨f, e2, lt⟩ := fits_cons hi (hok r List.mem_cons_self) e
    have ih := least_sum hS hb rows _ f.le (fun x hx => hok x (List.mem_cons_of_mem _ hx)) e2
    have z := (hb i lt).2.2 r f
    rw [List.cons_lt_cons_iff] at z
    show S i ≤ ((r :: rows).map rowSize).sum
    rw [List.map_cons, List.sum_cons]
    have ih : S (i + r.len.toNat) ≤ (rows.map rowSize).sum := ih
    omega
theorem least_lex (hS : S new.length = 0) (hb : ∀ i, i < new.length → PLess old new S F i) : ∀ (rows rs : List Row) (i : Nat), i ≤ new.length → (∀ r ∈ rows, r.ok old.length) → doneOf rows old = new.drop i → Chain F new.length i rs →
    S i < cost rows ∨ (S i = cost rows ∧ ¬ rows.map Row.key < rs.map Row.key)
  | [], rs, i, hi, _, e, c => by
    have ei := done_nil_at hi e
    subst ei
    refine .inr ⟨hS, ?_⟩
    cases c with
    | nil => exact List.lt_irrefl _
    | cons lt _ => omega
  | r :: rows, rs, i, hi, hok, e, c => by
    obtain ⟨f, e2, lt⟩ := fits_cons hi (hok r List.mem_cons_self) e
    have sm := least_sum hS hb rows _ f.le (fun x hx => hok x (List.mem_cons_of_mem _ hx)) e2
    have z := (hb i lt).2.2 r f
    rw [List.cons_lt_cons_iff] at z
    have ec : cost (r :: rows) = rowSize r + cost rows := by unfold cost; rw [List.map_cons, List.sum_cons]
    cases c with
    | nil => omega
    | @cons _ rs' _ c =>
      by_cases h : S i < cost (r :: rows)
      · exact .inl h
      · have h1 : rowSize r + S (i + r.len.toNat) = S i := by omega
        have h2 : S (i + r.len.toNat) = cost rows := by omega
        have z2 : ¬ r.key < (F i).key := fun q => z (.inr ⟨h1, q⟩)
        refine .inr ⟨by omega, fun q => ?_⟩
        rw [List.map_cons, List.map_cons, List.cons_lt_cons_iff] at q
        rcases q with q | ⟨q1, q2⟩
        · exact z2 q
        · have er := Row.key_inj q1
          rw [← er] at c
          rcases least_lex hS hb rows rs' _ f.le (fun x hx => hok x (List.mem_cons_of_mem _ hx)) e2 c with q3 | ⟨_, q3⟩
          · omega
          · exact q3 q2
theorem chain_is (hb : ∀ i, i < new.length → PLess old new S F i) {i : Nat} {rs : List Row} (c : Chain F new.length i rs) : (∀ r ∈ rs, r.ok old.length) ∧ doneOf rs old = new.drop i ∧ (S new.length = 0 → cost rs = S i) := by
  induction c with
  | nil => exact ⟨fun r hr => (List.not_mem_nil hr).elim, by rw [List.drop_length]; rfl, fun h => by rw [h]; rfl⟩
  | @cons i rows lt _ ih =>
    obtain ⟨f, e, _⟩ := hb i lt
    refine ⟨fun r hr => ?_, ?_, fun h => ?_⟩
    · rcases List.mem_cons.mp hr with rfl | hr
      · exact f.ok
      · exact ih.1 r hr
    · rw [done_cons, f.is, ih.2.1, ← List.drop_drop, List.take_append_drop]
    · have : cost (F i :: rows) = rowSize (F i) + cost rows := by unfold cost; rw [List.map_cons, List.sum_cons]
      rw [this, ih.2.2 h, e]
end
/-- the patch with the shortest code, of several the first -/
structure IsLeast (old new : List Int) (rs : List Row) : Prop where
  ok : ∀ r ∈ rs, r.ok old.length
  is : doneOf rs old = new
  lex : ∀ rows : List Row, (∀ r ∈ rows, r.ok old.length) → doneOf rows old = new → cost rs < cost rows ∨ (cost rs = cost rows ∧ ¬ rows.map Row.key < rs.map Row.key)
theorem isLeast_of {old new : List Int} {S : Nat → Int} {F : Nat → Row} {rs : List Row} (hS : S new.length = 0) (hb : ∀ i, i < new.length → PLess old new S F i) (c : Chain F new.length 0 rs) : IsLeast old new rs := by
  obtain ⟨h1, h2, h3⟩ := chain_is hb c
  refine ⟨h1, h2, fun rows hok e => ?_⟩
  rw [h3 hS]
  exact least_lex hS hb rows rs 0 (Nat.zero_le _) hok e c
theorem IsLeast.one {old new : List Int} {a b : List Row} (h : IsLeast old new a) (k : IsLeast old new b) : a = b := by
  refine keys_inj ?_
  rcases h.lex b k.ok k.is with h1 | ⟨h1, h2⟩
  · rcases k.lex a h.ok h.is with h3 | ⟨h3, _⟩ <;> omega
  · rcases k.lex a h.ok h.is with h3 | ⟨_, h3⟩
    · omega
    · exact List.le_antisymm (List.not_lt.mp h2) (List.not_lt.mp h3)
theorem IsLeast.total {old new : List Int} {a : List Row} (h : IsLeast old new a) : total a = new.length := by rw [← h.is, done_len old h.ok]
theorem IsLeast.good {old new : List Int} {a : List Row} (h : IsLeast old new a) (h1 : old.length ≤ 200) (h2 : new.length ≤ 200) : Good a := ⟨fun r hr => Row.ok_mono (by omega) (h.ok r hr), by rw [h.total]; omega⟩
/-! ### the pieces that are looked at -/
def bringsOf (tl : List Int) : List Row := (List.range tl.length).map fun k => Row.bring (tl.take (k + 1))
def foundAt (old tl : List Int) (k : Nat) : Option Nat := PySem.W.KBf.first? old (tl.take (k + 1))
def copyAt (old tl : List Int) (k : Nat) : Row := .copy (PySem.W.KBf.told (foundAt old tl k)) ((k + 1 : Nat) : Int)
def runAt (tl : List Int) (k : Nat) : Row := .run (tl.getD 0 0) ((k + 1 : Nat) : Int)
structure Copies (old tl : List Int) (m : Nat) : Prop where
  le : m ≤ tl.length
  yes : ∀ k, k < m → (foundAt old tl k).isSome = true
  no : m < tl.length → foundAt old tl m = none
structure Runs (tl : List Int) (m : Nat) : Prop where
  le : m ≤ tl.length
  yes : ∀ k, k < m → tl.getD k 0 = tl.getD 0 0
  no : m < tl.length → tl.getD m 0 ≠ tl.getD 0 0
def candsOf (old tl : List Int) (mc mr : Nat) : List Row := bringsOf tl ++ (List.range mc).map (copyAt old tl) ++ (List.range mr).map (runAt tl)
theorem valR_copy {old : List Int} {b n : Int} (h : (Row.copy b n).ok old.length) : valR old (.copy b n) = (old.drop b.toNat).take n.toNat := by
  have h1 := h.1
  have h2 := h.2.1
  have h3 := h.2.2
  show ((List.range n.toNat).map fun i => Cell.old (b + (i : Nat))).map (valOf old) = _
  rw [List.map_map]
  apply List.ext_getElem?
  intro j
  by_cases hj : j < n.toNat
  · rw [List.getElem?_map, List.getElem?_range hj, List.getElem?_take_of_lt hj, List.getElem?_drop]
    show some (old.getD (b + (j : Nat)).toNat 0) = _
    have e : (b + (j : Nat)).toNat = b.toNat + j := by omega
    have hl : b.toNat + j < old.length := by omega
    rw [e, List.getD_eq_getElem?_getD, List.getElem?_eq_getElem hl]
    rfl
  · rw [List.getElem?_eq_none (by rw [List.length_map, List.length_range]; omega), List.getElem?_eq_none (by rw [List.length_take]; omega)]
theorem valR_run {old : List Int} {b n : Int} : valR old (.run b n) = List.replicate n.toNat b := by
  show (List.replicate n.toNat (Cell.new b)).map (valOf old) = _
  rw [List.map_replicate]
  rfl
theorem valR_bring {old bs : List Int} : valR old (.bring bs) = bs := by
  show (bs.map Cell.new).map (valOf old) = bs
  rw [List.map_map]
  exact List.map_id _
section
variable {old new : List Int} {i : Nat}
theorem first_le {a tl : List Int} {j : Nat} (hj : j + tl.length ≤ a.length) (h : (a.drop j).take tl.length = tl) : ∃ i, PySem.W.KBf.first? a tl = some i ∧ i ≤ j := by
  have hr : j < a.length + 1 - tl.length := by omega
  cases e : PySem.W.KBf.first? a tl with
  | none =>
    have z := List.find?_eq_none.mp e j (List.mem_range.mpr hr)
    exact absurd (show PySem.W.KBf.at? a tl j = true from beq_iff_eq.mpr h) z
  | some i =>
    refine ⟨i, rfl, ?_⟩
    by_cases lt : i ≤ j
    · exact lt
    · obtain ⟨_, l1, l2, el, nb⟩ := List.find?_eq_some_iff_append.mp e
      have hi : i = l1.length := by
        have e3 := congrArg (fun l => l[l1.length]?) el
        simp only [List.getElem?_append_right (Nat.le_refl _), Nat.sub_self, List.getElem?_cons_zero] at e3
        unfold PySem.W.KBf.places at e3
        obtain ⟨_, h2⟩ := List.getElem?_eq_some_iff.mp e3
        rw [List.getElem_range] at h2
        exact h2.symm
      have hj1 : j < l1.length := by omega
      have e4 := congrArg (fun l => l[j]?) el
      simp only [List.getElem?_append_left hj1] at e4
      have e5 : l1[j]? = some j := by
        rw [← e4]
        unfold PySem.W.KBf.places
        exact List.getElem?_range hr
      have z := nb j (List.mem_of_getElem? e5)
      rw [show PySem.W.KBf.at? a tl j = true from beq_iff_eq.mpr h] at z
      cases z
theorem told_some (j : Nat) : PySem.W.KBf.told (some j) = (j : Int) := rfl
theorem take_len {tl : List Int} {k : Nat} (h : k < tl.length) : (tl.take (k + 1)).length = k + 1 := by rw [List.length_take]; omega
theorem cands_fit (hi : i < new.length) (hb : B8 new) {mc mr : Nat} (hc : Copies old (new.drop i) mc) (hr : Runs (new.drop i) mr) : ∀ r ∈ candsOf old (new.drop i) mc mr, Fits old new i r := by
  intro r hm
  have hl : (new.drop i).length = new.length - i := List.length_drop
  have hbt : B8 (new.drop i) := fun x hx => hb x (List.mem_of_mem_drop hx)
  have cl := hc.le
  have rl := hr.le
  unfold candsOf at hm
  rcases List.mem_append.mp hm with hm | hm
  · rcases List.mem_append.mp hm with hm | hm
    · obtain ⟨k, hk, rfl⟩ := List.mem_map.mp hm
      have hk := List.mem_range.mp hk
      have tk := take_len hk
      have e : (Row.len (.bring ((new.drop i).take (k + 1)))).toNat = k + 1 := by show (((new.drop i).take (k + 1)).length : Int).toNat = k + 1; omega
      refine ⟨⟨by omega, fun x hx => hbt x (List.mem_of_mem_take hx)⟩, by rw [e]; omega, by rw [e, valR_bring]⟩
    · obtain ⟨k, hk, rfl⟩ := List.mem_map.mp hm
      have hk := List.mem_range.mp hk
      have yes := hc.yes k hk
      unfold copyAt
      obtain ⟨j, ej⟩ := Option.isSome_iff_exists.mp yes
      have h1 := PySem.W.KBf.first_lt ej
      have h2 := PySem.W.KBf.first_at ej
      have tk := take_len (show k < (new.drop i).length by omega)
      rw [tk] at h1 h2
      rw [ej, told_some]
      have ok : (Row.copy (j : Int) ((k + 1 : Nat) : Int)).ok old.length := ⟨by omega, by omega, by omega⟩
      have e : (Row.len (.copy (j : Int) ((k + 1 : Nat) : Int))).toNat = k + 1 := by show ((k + 1 : Nat) : Int).toNat = k + 1; omega
      exact ⟨ok, by rw [e]; omega, by rw [e, valR_copy ok, Int.toNat_natCast, Int.toNat_natCast, h2]⟩
  · obtain ⟨k, hk, rfl⟩ := List.mem_map.mp hm
    have hk := List.mem_range.mp hk
    have h0 : 0 < (new.drop i).length := by omega
    have e0 : (new.drop i).getD 0 0 = (new.drop i)[0] := by rw [List.getD_eq_getElem?_getD, List.getElem?_eq_getElem h0]; rfl
    have hb0 := hbt _ (List.getElem_mem h0)
    unfold runAt
    have e : (Row.len (.run ((new.drop i).getD 0 0) ((k + 1 : Nat) : Int))).toNat = k + 1 := by show ((k + 1 : Nat) : Int).toNat = k + 1; omega
    refine ⟨⟨by rw [e0]; exact hb0.1, by rw [e0]; exact hb0.2, by omega⟩, by rw [e]; omega, ?_⟩
    rw [e, valR_run, Int.toNat_natCast]
    apply List.ext_getElem
    · rw [List.length_replicate, take_len (by omega)]
    · intro j hj1 hj2
      rw [List.length_replicate] at hj1
      rw [List.getElem_replicate, List.getElem_take]
      have z := hr.yes j (by omega)
      rw [List.getD_eq_getElem?_getD, List.getElem?_eq_getElem (by omega)] at z
      exact z.symm
theorem numSize_mono {a b : Int} (h : a ≤ b) : numSize a ≤ numSize b := by
  unfold numSize
  split <;> split <;> omega
theorem rowSize_copy (b n : Int) : rowSize (.copy b n) = numSize (n * 4 + 0) + numSize b := by
  unfold rowSize rowCode
  rw [List.length_append]
  have a := numCode_len (firstNum (.copy b n))
  have c := numCode_len b
  show (((numCode (firstNum (.copy b n))).length + (numCode b).length : Nat) : Int) = _
  have e : firstNum (.copy b n) = n * 4 + 0 := rfl
  rw [e] at a ⊢
  omega
theorem cands_all (hi : i < new.length) {mc mr : Nat} (hc : Copies old (new.drop i) mc) (hr : Runs (new.drop i) mr) : ∀ r, Fits old new i r → ∃ c ∈ candsOf old (new.drop i) mc mr, c.len = r.len ∧ ¬ (rowSize r :: r.key) < (rowSize c :: c.key) := by
  intro r f
  have hl : (new.drop i).length = new.length - i := List.length_drop
  have hp := Row.len_pos f.ok
  have fle := f.le
  have fis := f.is
  cases r with
  | bring bs =>
    rw [valR_bring] at fis
    have e : (Row.len (.bring bs)).toNat = bs.length := Int.toNat_natCast _
    have hp : 1 ≤ (bs.length : Int) := hp
    rw [e] at fis fle
    refine ⟨.bring bs, ?_, rfl, List.lt_irrefl _⟩
    refine List.mem_append.mpr (.inl (List.mem_append.mpr (.inl (List.mem_map.mpr ⟨bs.length - 1, List.mem_range.mpr (by omega), ?_⟩))))
    rw [show bs.length - 1 + 1 = bs.length by omega, ← fis]
  | copy b n =>
    rw [valR_copy f.ok] at fis
    have e : (Row.len (.copy b n)).toNat = n.toNat := rfl
    have h1 := f.ok.1
    have h2 := f.ok.2.1
    have h3 := f.ok.2.2
    rw [e] at fis fle
    -- each shorter stretch is found, too
    have found : ∀ k, k < n.toNat → ∃ j, foundAt old (new.drop i) k = some j ∧ j ≤ b.toNat := by
      intro k hk
      have tk := take_len (show k < (new.drop i).length by omega)
      refine first_le (by rw [tk]; omega) ?_
      rw [tk]
      have z := congrArg (List.take (k + 1)) fis
      rw [List.take_take, List.take_take, Nat.min_eq_left (by omega)] at z
      exact z
    have lt : n.toNat - 1 < mc := by
      rcases Nat.lt_or_ge (n.toNat - 1) mc with q | q
      · exact q
      · obtain ⟨j, ej, _⟩ := found mc (by omega)
        rw [hc.no (by omega)] at ej
        cases ej
    obtain ⟨j, ej, lj⟩ := found (n.toNat - 1) (by omega)
    have en : ((n.toNat - 1 + 1 : Nat) : Int) = n := by omega
    refine ⟨copyAt old (new.drop i) (n.toNat - 1), List.mem_append.mpr (.inl (List.mem_append.mpr (.inr (List.mem_map.mpr ⟨_, List.mem_range.mpr lt, rfl⟩)))), ?_, ?_⟩
    · exact en
    · unfold copyAt
      rw [ej, told_some, en, rowSize_copy, rowSize_copy]
      have m := numSize_mono (show (j : Int) ≤ b by omega)
      simp only [Row.key, List.cons_lt_cons_iff]
      intro q
      rcases q with q | ⟨_, q⟩
      · omega
      · rcases q with q | ⟨_, q⟩
        · omega
        · rcases q with q | ⟨_, q⟩
          · omega
          · rcases q with q | ⟨_, q⟩
            · omega
            · exact List.lt_irrefl _ q
  | run b n =>
    rw [valR_run] at fis
    have e : (Row.len (.run b n)).toNat = n.toNat := rfl
    have h3 := f.ok.2.2
    rw [e] at fis fle
    have val : ∀ k, k < n.toNat → (new.drop i).getD k 0 = b := by
      intro k hk
      have z := congrArg (fun l : List Int => l[k]?) fis
      simp only [List.getElem?_take_of_lt hk] at z
      rw [List.getElem?_replicate, if_pos hk] at z
      rw [List.getD_eq_getElem?_getD, ← z]
      rfl
    have lt : n.toNat - 1 < mr := by
      rcases Nat.lt_or_ge (n.toNat - 1) mr with q | q
      · exact q
      · exact absurd ((val mr (by omega)).trans (val 0 (by omega)).symm) (hr.no (by omega))
    refine ⟨.run b n, List.mem_append.mpr (.inr (List.mem_map.mpr ⟨n.toNat - 1, List.mem_range.mpr lt, ?_⟩)), rfl, List.lt_irrefl _⟩
    unfold runAt
    rw [val 0 (by omega), show ((n.toNat - 1 + 1 : Nat) : Int) = n by omega]
theorem pless_of (hi : i < new.length) (hb : B8 new) {mc mr : Nat} (hc : Copies old (new.drop i) mc) (hr : Runs (new.drop i) mr) {S : Nat → Int} {F : Nat → Row} (hm : F i ∈ candsOf old (new.drop i) mc mr) (hS : S i = rowSize (F i) + S (i + (F i).len.toNat))
    (hmin : ∀ r ∈ candsOf old (new.drop i) mc mr, ¬ ((rowSize r + S (i + r.len.toNat)) :: r.key) < ((rowSize (F i) + S (i + (F i).len.toNat)) :: (F i).key)) : PLess old new S F i := by
  refine ⟨cands_fit hi hb hc hr _ hm, hS, fun r f => ?_⟩
  obtain ⟨c, hcm, el, nl⟩ := cands_all hi hc hr r f
  have z := hmin c hcm
  rw [el, ← hS] at z
  rw [List.cons_lt_cons_iff] at z nl ⊢
  intro q
  have q1 : rowSize c ≤ rowSize r := by omega
  rcases q with q | ⟨q2, q3⟩
  · exact z (.inl (by omega))
  · by_cases h : rowSize c = rowSize r
    · refine z (.inr ⟨by omega, ?_⟩)
      exact List.lt_of_le_of_lt (List.not_lt.mp fun y => nl (.inr ⟨h.symm, y⟩)) q3
    · exact z (.inl (by omega))
end
/-! ### next_copies, next_runs, next_pieces, one_behind_the_other, least -/
theorem byteMid {ns : List Int} {i j : Int} (h0 : 0 ≤ i) (h1 : i ≤ j) (hj : j ≤ ns.length) : PySem.W.KBy.picked (byteArr ns) (some i) (some j) = byteArr ((ns.drop i.toNat).take (j.toNat - i.toNat)) := by
  obtain ⟨a, rfl⟩ : ∃ a : Nat, i = (a : Int) := ⟨i.toNat, by omega⟩
  obtain ⟨b, rfl⟩ : ∃ b : Nat, j = (b : Int) := ⟨j.toNat, by omega⟩
  rw [PySem.W.KBc.picked_eq]
  show (((byteArr ns).toList.drop (clipAt (byteArr ns).size (a : Int))).take (clipAt (byteArr ns).size (b : Int) - clipAt (byteArr ns).size (a : Int))).toArray = _
  rw [clipAt_nat, clipAt_nat, byteArr_size, Nat.min_eq_left (by omega), Nat.min_eq_left (by omega), Int.toNat_natCast, Int.toNat_natCast]
  unfold byteArr
  show (((ns.map _).drop a).take (b - a)).toArray = (((ns.drop a).take (b - a)).map _).toArray
  rw [List.map_take, List.map_drop]
theorem byteOne {bs : List Int} {j : Nat} (hb : B8 bs) (hj : j < bs.length) : ((((bs.map fun n : Int => n.toNat.toUInt8).getD ((j : Int)).toNat 0).toNat : Nat) : Int) = bs.getD j 0 := by
  have e := byte_at (j := j) hb (List.getElem?_eq_getElem hj)
  rw [Int.toNat_natCast, e, List.getD_eq_getElem?_getD, List.getElem?_eq_getElem hj]
  rfl
theorem lenBy {bs : List Int} {K : PySem.W.Frag} {H : Hp} (h : bs.length ≤ 100000) : LenV K (.byt (byteArr bs)) H bs.length := ⟨by rw [byteArr_size]; exact sizeS h, (byteArr_size bs).symm⟩
def PiecesAt (H : Hp) (p : Addr) (rows : List Row) : Prop := ∃ vs, H p = some (.lst vs) ∧ Paired (PieceV H) vs rows
theorem PiecesAt.same {H H' : Hp} {p : Addr} {rows : List Row} (s : Same H H') (h : PiecesAt H p rows) : PiecesAt H' p rows := let ⟨vs, e, r⟩ := h; ⟨vs, s _ _ e, pairedMap r fun _ _ x => x.tups (Same.tups s)⟩
/-- one piece more -/
theorem piece_more {H H2 : Hp} {D : Addr} {ws : List V} {rs : List Row} {r : Row} {t : Addr} (hD : H D = none) (s2 : Same H H2) (hw : H2 D = some (.lst ws)) (pw : Paired (PieceV H2) ws rs) (ht : H2 t = none) :
    (upd H2 t (.tup r.tup)) D = some (.lst ws) ∧ Same H (upd (upd H2 t (.tup r.tup)) D (.lst (ws ++ [.ref t]))) ∧ Paired (PieceV (upd (upd H2 t (.tup r.tup)) D (.lst (ws ++ [.ref t])))) (ws ++ [.ref t]) (rs ++ [r]) := by
  have hw' : (upd H2 t (.tup r.tup)) D = some (.lst ws) := Same.new ht _ _ hw
  refine ⟨hw', fun b o e => ?_, pairedApp (pairedMap pw fun _ _ x => (x.tups (Same.tups (Same.new ht))).tups (Tups.lst hw')) (.cons ⟨t, rfl, Tups.lst hw' _ _ upd_same⟩ .nil)⟩
  rw [upd_ne (ne_of_none e hD)]
  exact Same.new ht _ _ (s2 _ _ e)
/-! ### how pieces compare -/
def RowB : Row → Prop
  | .bring bs => B8 bs
  | _ => True
theorem RowB.of {c : Int} : ∀ {r : Row}, r.ok c → RowB r
  | .bring _, h => h.2
  | .copy _ _, _ => trivial
  | .run _ _, _ => trivial
theorem tup_key : ∀ {r r' : Row}, RowB r → RowB r' → r.tup = r'.tup → r.key = r'.key
  | .bring bs, .bring cs, hb, hc, e => by
    have e : byteArr bs = byteArr cs := by
      have e : [V.str "bring", V.byt (byteArr bs)] = [V.str "bring", V.byt (byteArr cs)] := e
      injection e with _ e
      injection e with e _
      injection e
    show 0 :: bs = 0 :: cs
    rw [← bInts_of hb, e, bInts_of hc]
  | .copy b n, .copy b' n', _, _, e => by
    have e : [V.str "copy", V.int b, V.int n] = [V.str "copy", V.int b', V.int n'] := e
    injection e with _ e
    injection e with e1 e
    injection e with e2 _
    injection e1 with e1
    injection e2 with e2
    rw [e1, e2]
  | .run b n, .run b' n', _, _, e => by
    have e : [V.str "run", V.int b, V.int n] = [V.str "run", V.int b', V.int n'] := e
    injection e with _ e
    injection e with e1 e
    injection e with e2 _
    injection e1 with e1
    injection e2 with e2
    rw [e1, e2]
  | .bring _, .copy _ _, _, _, e => by cases e
  | .bring _, .run _ _, _, _, e => by cases e
  | .copy _ _, .bring _, _, _, e => by cases e
  | .copy _ _, .run _ _, _, _, e => by
    have e : [V.str "copy", V.int _, V.int _] = [V.str "run", V.int _, V.int _] := e
    injection e with e _
    injection e with e
    exact absurd e (by decide)
  | .run _ _, .bring _, _, _, e => by cases e
  | .run _ _, .copy _ _, _, _, e => by
    have e : [V.str "run", V.int _, V.int _] = [V.str "copy", V.int _, V.int _] := e
    injection e with e _
    injection e with e
    exact absurd e (by decide)
theorem then_eq (o : Ordering) : o.then .eq = o := by cases o <;> rfl
theorem ov_int {H : Hp} {n : Nat} (a b : Int) : Ov H (n + 1) (.int a) (.int b) (compare a b) := .inl ⟨a, b, rfl, rfl, rfl⟩
theorem ov_str {H : Hp} {n : Nat} {a b : Str} {o : Ordering} (h : (a == b) = decide (o = .eq)) (h2 : decide (a.cps.toList < b.cps.toList) = decide (o = .lt)) : Ov H (n + 1) (.str a) (.str b) o := .inr (.inl ⟨a, b, rfl, rfl, h, h2⟩)
theorem ov_byt {H : Hp} {n : Nat} {a b : List Int} (ha : B8 a) (hb : B8 b) : Ov H (n + 1) (.byt (byteArr a)) (.byt (byteArr b)) (PySem.W.KBq.ord a b) := .inr (.inr (.inl ⟨a, b, rfl, rfl, ha, hb, rfl⟩))
theorem ov_tup {H : Hp} {n : Nat} {a b : Addr} {xs ys : List V} {o : Ordering} (ha : H a = some (.tup xs)) (hb : H b = some (.tup ys)) (h : LexV (Ov H n) xs ys o) (e : a = b → o = .eq) : Ov H (n + 1) (.ref a) (.ref b) o := .inr (.inr (.inr ⟨a, b, xs, ys, rfl, rfl, ha, hb, h, e⟩))
theorem ord_pair (a b a' b' : Int) (x : Int) : PySem.W.KBq.ord [x, a, b] [x, a', b'] = (compare a a').then ((compare b b').then .eq) := by
  rw [ord_cons, ord_cons, ord_cons, Int.compare_eq_eq.mpr rfl]
  rfl
theorem ov_row {H : Hp} {q q' : Addr} {n : Nat} : ∀ {r r' : Row}, RowB r → RowB r' → H q = some (.tup r.tup) → H q' = some (.tup r'.tup) → Ov H (n + 2) (.ref q) (.ref q') (PySem.W.KBq.ord r.key r'.key) := by
  intro r r' hb hb' hq hq'
  refine ov_tup hq hq' ?_ (fun e => ?_)
  · cases r with
    | bring bs =>
      cases r' with
      | bring cs =>
        show LexV _ _ _ (PySem.W.KBq.ord (0 :: bs) (0 :: cs))
        rw [ord_cons, Int.compare_eq_eq.mpr rfl, ← then_eq (PySem.W.KBq.ord bs cs)]
        exact .cons (ov_str (by decide +kernel) (by decide +kernel)) fun _ => .cons (ov_byt hb hb') fun _ => .nil
      | copy b' n' => exact LexV.cons (o1 := .lt) (o2 := .lt) (ov_str (by decide +kernel) (by decide +kernel)) fun z => by cases z
      | run b' n' => exact LexV.cons (o1 := .lt) (o2 := .lt) (ov_str (by decide +kernel) (by decide +kernel)) fun z => by cases z
    | copy b n =>
      cases r' with
      | bring cs => exact LexV.cons (o1 := .gt) (o2 := .lt) (ov_str (by decide +kernel) (by decide +kernel)) fun z => by cases z
      | copy b' n' =>
        show LexV _ _ _ (PySem.W.KBq.ord [1, b, n] [1, b', n'])
        rw [ord_pair]
        exact LexV.cons (o1 := .eq) (ov_str (by decide +kernel) (by decide +kernel)) fun _ => .cons (ov_int _ _) fun _ => .cons (ov_int _ _) fun _ => .nil
      | run b' n' => exact LexV.cons (o1 := .lt) (o2 := .lt) (ov_str (by decide +kernel) (by decide +kernel)) fun z => by cases z
    | run b n =>
      cases r' with
      | bring cs => exact LexV.cons (o1 := .gt) (o2 := .lt) (ov_str (by decide +kernel) (by decide +kernel)) fun z => by cases z
      | copy b' n' => exact LexV.cons (o1 := .gt) (o2 := .lt) (ov_str (by decide +kernel) (by decide +kernel)) fun z => by cases z
      | run b' n' =>
        show LexV _ _ _ (PySem.W.KBq.ord [2, b, n] [2, b', n'])
        rw [ord_pair]
        exact LexV.cons (o1 := .eq) (ov_str (by decide +kernel) (by decide +kernel)) fun _ => .cons (ov_int _ _) fun _ => .cons (ov_int _ _) fun _ => .nil
  · subst e
    rw [hq] at hq'
    injection hq' with hq'
    injection hq' with hq'
    exact (ord_eq _ _).mpr (tup_key hb hb' hq')
def spNextCopies : Sp := fun vs H Q _ => ∃ (old new : List Int) (i : Nat), vs = [.byt (byteArr old), .byt (byteArr new), .int (i : Int)] ∧ B8 old ∧ B8 new ∧ old.length ≤ 200 ∧ new.length ≤ 200 ∧ i < new.length ∧
  ∀ H' p m, Same H H' → H p = none → Copies old (new.drop i) m → PiecesAt H' p ((List.range m).map (copyAt old (new.drop i))) → Q (.ref p) H'
def spNextRuns : Sp := fun vs H Q _ => ∃ (new : List Int) (i : Nat), vs = [.byt (byteArr new), .int (i : Int)] ∧ B8 new ∧ new.length ≤ 200 ∧ i < new.length ∧
  ∀ H' p m, Same H H' → H p = none → Runs (new.drop i) m → PiecesAt H' p ((List.range m).map (runAt (new.drop i))) → Q (.ref p) H'
def spNextPieces : Sp := fun vs H Q _ => ∃ (old new : List Int) (i : Nat), vs = [.byt (byteArr old), .byt (byteArr new), .int (i : Int)] ∧ B8 old ∧ B8 new ∧ old.length ≤ 200 ∧ new.length ≤ 200 ∧ i < new.length ∧
  ∀ H' p mc mr, Same H H' → H p = none → Copies old (new.drop i) mc → Runs (new.drop i) mr → PiecesAt H' p (candsOf old (new.drop i) mc mr) → Q (.ref p) H'
def spLeast : Sp := fun vs H Q _ => ∃ old new : List Int, vs = [.byt (byteArr old), .byt (byteArr new)] ∧ B8 old ∧ B8 new ∧ old.length ≤ 200 ∧ new.length ≤ 200 ∧ ∀ H' v rs, Same H H' → IsLeast old new rs → PatchAt H' v rs → Q v H'
theorem PLess.congr {old new : List Int} {S S' : Nat → Int} {F F' : Nat → Row} {i : Nat} (h : PLess old new S F i) (hS : ∀ y, i ≤ y → S y = S' y) (hF : F i = F' i) : PLess old new S' F' i := by
  unfold PLess at h ⊢
  rw [← hF, ← hS i (Nat.le_refl _), ← hS _ (Nat.le_add_right _ _)]
  refine ⟨h.1, h.2.1, fun r f => ?_⟩
  rw [← hS _ (Nat.le_add_right _ _)]
  exact h.2.2 r f
theorem ixN_natL {n j : Nat} (h : j < n) : ixN n (j : Int) = some j := by
  unfold ixN
  rw [if_pos (by omega), if_pos (by omega)]
  simp
theorem snoc_range {α : Type} (f : Nat → α) (k : Nat) : (List.range (k + 1)).map f = (List.range k).map f ++ [f k] := by rw [List.range_succ, List.map_append]; rfl
section
variable {P : Program} {w : World} {K : PySem.W.Frag} {mg : Str → Option Value} {base : Heap}
theorem ok_next_copies (T : All K mg) : FnOk P w K mg base CX0 1 T.d_next_copies.f T.d_next_copies.fd ["old", "new", "at"] spNextCopies := by
  refine T.d_next_copies.F.ok sc_next_copies (fun vs H Q E h => ?_) (fun cdv A outer s H vs Q E hr h => ?_)
  · obtain ⟨_, _, _, rfl, _⟩ := h
    rfl
  · obtain ⟨old, new, i, rfl, ho, hn, lo, ln, hi, k⟩ := h
    refine ⟨_, (pss_cons 
      (ps_set (i := 3) sc_next_copies.nd rfl (Or.inl rfl) (pe_lst pa_nil)) (pss_cons 
      (ps_for PassesOwn.never rfl (pi_range2 (by rfl) T.b_range (pa_cons (pe_op op_add (pv 2) pe_int) (pa_cons (pe_op op_add (pe_callB call_len (by rfl) T.b_len PySem.boot_len (pa_cons (pv 1) pa_nil)) pe_int) pa_nil))) (pg_name (i := 4) sc_next_copies.nd rfl (Or.inl rfl)) (pss_cons 
      (ps_set (i := 5) sc_next_copies.nd rfl (Or.inl rfl) (pe_bmB PySem.W.KBf.slot_find PySem.W.KBf.type_find mt_bfind (pv 0) (pa_cons (pe_slice sl_byt (pv 1) (po_some (pv 2)) (po_some (pv 4))) pa_nil))) (pss_cons 
      (ps_if (pt_cmpR op_lt (pv 5) pe_int (nomark _)) (pss_one ps_break) pss_nil) (pss_one 
      (ps_expr (pe_bm PySem.F.plainAttrs_list PySem.F.slot_list_append PySem.F.type_list_append mt_append (pv 3) (pa_cons (pe_tup (pa_cons pe_str (pa_cons (pv 5) (pa_cons (pe_op op_sub (pv 4) (pv 2)) pa_nil)))) pa_nil))))))) (pss_one 
      (ps_ret (pv 3))))), ?_⟩
    have hl : (new.drop i).length = new.length - i := List.length_drop
    refine ⟨sizeS (by show 0 ≤ 100000; decide), fun D hD => ?_⟩
    refine ⟨_, rfl, _, _, rfl, rfl, _, rfl, _, new.length, rfl, lenBy (by omega), _, _, rfl, rfl, _, _, rfl, ⟨by omega, by omega, by omega, by omega⟩, ?_⟩
    refine for_range (lo := (i : Int) + 1) (n := ((new.length : Int) + 1 - ((i : Int) + 1)).toNat) (fun j σ H2 => ∃ (ws : List V) (v4 v5 : Option V), σ = [some (.byt (byteArr old)), some (.byt (byteArr new)), some (.int (i : Int)), some (.ref D), v4, v5] ∧ Same H H2 ∧ H2 D = some (.lst ws) ∧ Paired (PieceV H2) ws ((List.range j).map (copyAt old (new.drop i))) ∧ ∀ x, x < j → (foundAt old (new.drop i) x).isSome = true)
      ⟨[], none, none, rfl, Same.new hD, upd_same, .nil, fun x hx => absurd hx (Nat.not_lt_zero x)⟩ ?_ ?_
    · rintro j σ H2 hj ⟨ws, v4, v5, rfl, s2, hw, pw, yes⟩
      have jl : j < (new.drop i).length := by omega
      have tk := take_len jl
      have e : PySem.W.KBy.picked (byteArr new) (some (i : Int)) (some ((i : Int) + 1 + (j : Int))) = byteArr ((new.drop i).take (j + 1)) := by
        rw [byteMid (by omega) (by omega) (by omega), Int.toNat_natCast, show ((i : Int) + 1 + (j : Int)).toNat - i = j + 1 by omega]
      have bt : B8 ((new.drop i).take (j + 1)) := fun x hx => hn x (List.mem_of_mem_drop (List.mem_of_mem_take hx))
      refine ⟨_, rfl, ⟨_, rfl⟩, _, rfl, _, rfl, _, rfl, _, rfl, _, rfl, _, rfl, by rw [byteArr_size]; omega, ?_⟩
      rw [e]
      refine ⟨old, _, rfl, rfl, ho, bt, ?_⟩
      cases ef : PySem.W.KBf.first? old ((new.drop i).take (j + 1)) with
      | none =>
        refine ⟨_, rfl, _, _, rfl, rfl, _, rfl, iteT ?_⟩
        exact ⟨_, rfl, k H2 D j s2 hD ⟨by omega, yes, fun _ => ef⟩ ⟨ws, hw, pw⟩⟩
      | some b =>
        have eb : PySem.W.KBf.told (some b) = (b : Int) := rfl
        rw [eb]
        refine ⟨_, rfl, _, _, rfl, rfl, _, rfl, ite2 (fun h => absurd (show (b : Int) < 0 from of_decide_eq_true h) (by omega)) fun _ => ?_⟩
        refine ⟨_, rfl, .inl ⟨rfl, _, SqL.of hw⟩, _, rfl, _, rfl, _, rfl, _, _, rfl, rfl, sizeS (by show 3 ≤ 100000; decide), fun t ht => ?_⟩
        have wl : ws.length = j := by rw [Paired.length pw, List.length_map, List.length_range]
        have er : copyAt old (new.drop i) j = .copy (b : Int) ((i : Int) + 1 + (j : Int) - (i : Int)) := by
          unfold copyAt foundAt
          rw [ef, eb, show ((j + 1 : Nat) : Int) = (i : Int) + 1 + (j : Int) - (i : Int) by omega]
        obtain ⟨q0, q1, q2⟩ := piece_more (r := .copy (b : Int) ((i : Int) + 1 + (j : Int) - (i : Int))) hD s2 hw pw ht
        refine ⟨D, ws, _, rfl, rfl, q0, sizeL (by omega), ?_⟩
        refine ⟨_, _, _, rfl, q1, upd_same, ?_, fun x hx => ?_⟩
        · rw [snoc_range, er]
          exact q2
        · by_cases ex : x = j
          · rw [ex]
            show (PySem.W.KBf.first? old ((new.drop i).take (j + 1))).isSome = true
            rw [ef]
            rfl
          · exact yes x (by omega)
    · rintro σ H2 ⟨ws, v4, v5, rfl, s2, hw, pw, yes⟩
      refine ⟨_, rfl, k H2 D _ s2 hD ⟨by omega, yes, fun h => by omega⟩ ⟨_, hw, pw⟩⟩

theorem ok_next_runs (T : All K mg) : FnOk P w K mg base CX0 1 T.d_next_runs.f T.d_next_runs.fd ["new", "at"] spNextRuns := by
  refine T.d_next_runs.F.ok sc_next_runs (fun vs H Q E h => ?_) (fun cdv A outer s H vs Q E hr h => ?_)
  · obtain ⟨_, _, rfl, _⟩ := h
    rfl
  · obtain ⟨new, i, rfl, hn, ln, hi, k⟩ := h
    refine ⟨_, (pss_cons 
      (ps_set (i := 2) sc_next_runs.nd rfl (Or.inl rfl) (pe_lst pa_nil)) (pss_cons 
      (ps_for PassesOwn.never rfl (pi_range2 (by rfl) T.b_range (pa_cons (pe_op op_add (pv 1) pe_int) (pa_cons (pe_op op_add (pe_callB call_len (by rfl) T.b_len PySem.boot_len (pa_cons (pv 0) pa_nil)) pe_int) pa_nil))) (pg_name (i := 3) sc_next_runs.nd rfl (Or.inl rfl)) (pss_cons 
      (ps_if (pt_cmpR op_ne (pe_item_byt (pv 0) (pe_op op_sub (pv 3) pe_int) (fun _ _ => rfl)) (pe_item_byt (pv 0) (pv 1) (fun _ _ => rfl)) (nomark _)) (pss_one ps_break) pss_nil) (pss_one 
      (ps_expr (pe_bm PySem.F.plainAttrs_list PySem.F.slot_list_append PySem.F.type_list_append mt_append (pv 2) (pa_cons (pe_tup (pa_cons pe_str (pa_cons (pe_item_byt (pv 0) (pv 1) (fun _ _ => rfl)) (pa_cons (pe_op op_sub (pv 3) (pv 1)) pa_nil)))) pa_nil)))))) (pss_one 
      (ps_ret (pv 2))))), ?_⟩
    have hl : (new.drop i).length = new.length - i := List.length_drop
    have dg : ∀ x, (new.drop i).getD x 0 = new.getD (i + x) 0 := fun x => by rw [List.getD_eq_getElem?_getD, List.getD_eq_getElem?_getD, List.getElem?_drop]
    refine ⟨sizeS (by show 0 ≤ 100000; decide), fun D hD => ?_⟩
    refine ⟨_, rfl, _, _, rfl, rfl, _, rfl, _, new.length, rfl, lenBy (by omega), _, _, rfl, rfl, _, _, rfl, ⟨by omega, by omega, by omega, by omega⟩, ?_⟩
    refine for_range (lo := (i : Int) + 1) (n := ((new.length : Int) + 1 - ((i : Int) + 1)).toNat) (fun j σ H2 => ∃ (ws : List V) (v3 : Option V), σ = [some (.byt (byteArr new)), some (.int (i : Int)), some (.ref D), v3] ∧ Same H H2 ∧ H2 D = some (.lst ws) ∧ Paired (PieceV H2) ws ((List.range j).map (runAt (new.drop i))) ∧ ∀ x, x < j → (new.drop i).getD x 0 = (new.drop i).getD 0 0)
      ⟨[], none, rfl, Same.new hD, upd_same, .nil, fun x hx => absurd hx (Nat.not_lt_zero x)⟩ ?_ ?_
    · rintro j σ H2 hj ⟨ws, v3, rfl, s2, hw, pw, yes⟩
      have jl : j < (new.drop i).length := by omega
      have e1 : ((((new.map fun n : Int => n.toNat.toUInt8).getD ((i : Int) + 1 + (j : Int) - 1).toNat 0).toNat : Nat) : Int) = (new.drop i).getD j 0 := by
        rw [show (i : Int) + 1 + (j : Int) - 1 = ((i + j : Nat) : Int) by omega, byteOne hn (by omega), dg]
      have e2 : ((((new.map fun n : Int => n.toNat.toUInt8).getD ((i : Int)).toNat 0).toNat : Nat) : Int) = (new.drop i).getD 0 0 := by
        rw [byteOne hn hi, dg, Nat.add_zero]
      have len8 : (new.map fun n : Int => n.toNat.toUInt8).length ≤ sizeLine := sizeS (by rw [List.length_map]; omega)
      refine ⟨_, rfl, _, rfl, _, _, rfl, rfl, new.map fun n : Int => n.toNat.toUInt8, _, rfl, rfl, len8, by omega, by rw [List.length_map]; omega, ?_⟩
      refine ⟨_, rfl, _, rfl, new.map fun n : Int => n.toNat.toUInt8, _, rfl, rfl, len8, by omega, by rw [List.length_map]; omega, ?_⟩
      rw [e1, e2]
      refine ⟨rfl, _, rfl, ?_⟩
      by_cases c : (new.drop i).getD j 0 = (new.drop i).getD 0 0
      · have ct : decide (V.int ((new.drop i).getD j 0) = V.int ((new.drop i).getD 0 0)) = true := decide_eq_true (by rw [c])
        rw [ct]
        refine iteF ?_
        have wl : ws.length = j := by rw [Paired.length pw, List.length_map, List.length_range]
        refine ⟨_, rfl, .inl ⟨rfl, _, SqL.of hw⟩, _, rfl, _, rfl, new.map fun n : Int => n.toNat.toUInt8, _, rfl, rfl, len8, by omega, by rw [List.length_map]; omega, ?_⟩
        rw [e2]
        refine ⟨_, rfl, _, rfl, _, _, rfl, rfl, sizeS (by show 3 ≤ 100000; decide), fun t ht => ?_⟩
        have er : runAt (new.drop i) j = .run ((new.drop i).getD 0 0) ((i : Int) + 1 + (j : Int) - (i : Int)) := by
          unfold runAt
          rw [show ((j + 1 : Nat) : Int) = (i : Int) + 1 + (j : Int) - (i : Int) by omega]
        obtain ⟨q0, q1, q2⟩ := piece_more (r := .run ((new.drop i).getD 0 0) ((i : Int) + 1 + (j : Int) - (i : Int))) hD s2 hw pw ht
        refine ⟨D, ws, _, rfl, rfl, q0, sizeL (by omega), ?_⟩
        refine ⟨_, _, rfl, q1, upd_same, ?_, fun x hx => ?_⟩
        · rw [snoc_range, er]
          exact q2
        · by_cases ex : x = j
          · rw [ex]; exact c
          · exact yes x (by omega)
      · have cf : decide (V.int ((new.drop i).getD j 0) = V.int ((new.drop i).getD 0 0)) = false := decide_eq_false fun z => c (by injection z)
        rw [cf]
        refine iteT ?_
        exact ⟨_, rfl, k H2 D j s2 hD ⟨by omega, yes, fun _ => c⟩ ⟨ws, hw, pw⟩⟩
    · rintro σ H2 ⟨ws, v3, rfl, s2, hw, pw, yes⟩
      refine ⟨_, rfl, k H2 D _ s2 hD ⟨by omega, yes, fun h => by omega⟩ ⟨_, hw, pw⟩⟩

theorem ok_next_pieces (T : All K mg) : FnOk P w K mg base CX0 2 T.d_next_pieces.f T.d_next_pieces.fd ["old", "new", "at"] spNextPieces := by
  have G_next_copies : FnOk P w K mg base CX0 1 T.d_next_copies.f T.d_next_copies.fd ["old", "new", "at"] spNextCopies := ok_next_copies T
  have G_next_runs : FnOk P w K mg base CX0 1 T.d_next_runs.f T.d_next_runs.fd ["new", "at"] spNextRuns := ok_next_runs T
  refine T.d_next_pieces.F.ok sc_next_pieces (fun vs H Q E h => ?_) (fun cdv A outer s H vs Q E hr h => ?_)
  · obtain ⟨_, _, _, rfl, _⟩ := h
    rfl
  · obtain ⟨old, new, i, rfl, ho, hn, lo, ln, hi, k⟩ := h
    refine ⟨_, (pss_cons 
      (ps_set (i := 3) sc_next_pieces.nd rfl (Or.inl rfl) (pe_lst pa_nil)) (pss_cons 
      (ps_for PassesOwn.never rfl (pi_range2 (by rfl) T.b_range (pa_cons (pe_op op_add (pv 2) pe_int) (pa_cons (pe_op op_add (pe_callB call_len (by rfl) T.b_len PySem.boot_len (pa_cons (pv 1) pa_nil)) pe_int) pa_nil))) (pg_name (i := 4) sc_next_pieces.nd rfl (Or.inl rfl)) (pss_one 
      (ps_expr (pe_bm PySem.F.plainAttrs_list PySem.F.slot_list_append PySem.F.type_list_append mt_append (pv 3) (pa_cons (pe_tup (pa_cons pe_str (pa_cons (pe_slice sl_byt (pv 1) (po_some (pv 2)) (po_some (pv 4))) pa_nil))) pa_nil))))) (pss_one 
      (ps_ret (pe_op op_cat (pe_op op_cat (pv 3) (pe_call G_next_copies (hr.mono (by decide)) rfl T.d_next_copies.m T.d_next_copies.F.kp T.d_next_copies.b .nil pass0 (pa_cons (pv 0) (pa_cons (pv 1) (pa_cons (pv 2) pa_nil))))) (pe_call G_next_runs (hr.mono (by decide)) rfl T.d_next_runs.m T.d_next_runs.F.kp T.d_next_runs.b .nil pass0 (pa_cons (pv 1) (pa_cons (pv 2) pa_nil)))))))), ?_⟩
    have hl : (new.drop i).length = new.length - i := List.length_drop
    refine ⟨sizeS (by show 0 ≤ 100000; decide), fun D hD => ?_⟩
    refine ⟨_, rfl, _, _, rfl, rfl, _, rfl, _, new.length, rfl, lenBy (by omega), _, _, rfl, rfl, _, _, rfl, ⟨by omega, by omega, by omega, by omega⟩, ?_⟩
    refine for_range (lo := (i : Int) + 1) (n := ((new.length : Int) + 1 - ((i : Int) + 1)).toNat) (fun j σ H2 => ∃ (ws : List V) (v4 : Option V), σ = [some (.byt (byteArr old)), some (.byt (byteArr new)), some (.int (i : Int)), some (.ref D), v4] ∧ Same H H2 ∧ H2 D = some (.lst ws) ∧ Paired (PieceV H2) ws ((List.range j).map fun x => Row.bring ((new.drop i).take (x + 1))))
      ⟨[], none, rfl, Same.new hD, upd_same, .nil⟩ ?_ ?_
    · rintro j σ H2 hj ⟨ws, v4, rfl, s2, hw, pw⟩
      have jl : j < (new.drop i).length := by omega
      have e : PySem.W.KBy.picked (byteArr new) (some (i : Int)) (some ((i : Int) + 1 + (j : Int))) = byteArr ((new.drop i).take (j + 1)) := by
        rw [byteMid (by omega) (by omega) (by omega), Int.toNat_natCast, show ((i : Int) + 1 + (j : Int)).toNat - i = j + 1 by omega]
      have wl : ws.length = j := by rw [Paired.length pw, List.length_map, List.length_range]
      refine ⟨_, rfl, .inl ⟨rfl, _, SqL.of hw⟩, _, rfl, _, rfl, _, rfl, _, rfl, _, rfl, _, rfl, by rw [byteArr_size]; omega, ?_⟩
      rw [e]
      refine ⟨sizeS (by show 2 ≤ 100000; decide), fun t ht => ?_⟩
      obtain ⟨q0, q1, q2⟩ := piece_more (r := .bring ((new.drop i).take (j + 1))) hD s2 hw pw ht
      refine ⟨D, ws, _, rfl, rfl, q0, sizeL (by omega), ?_⟩
      refine ⟨_, _, rfl, q1, upd_same, ?_⟩
      rw [snoc_range]
      exact q2
    · rintro σ H2 ⟨ws, v4, rfl, s2, hw, pw⟩
      have en : ((new.length : Int) + 1 - ((i : Int) + 1)).toNat = (new.drop i).length := by omega
      rw [en] at pw
      refine ⟨_, rfl, _, rfl, _, rfl, _, rfl, old, new, i, rfl, ho, hn, lo, ln, hi, fun H3 p mc s3 hp hc hpc => ?_⟩
      obtain ⟨us, hu, pu⟩ := hpc
      have l1 : ws.length = (new.drop i).length := by rw [Paired.length pw, List.length_map, List.length_range]
      have l2 : us.length = mc := by rw [Paired.length pu, List.length_map, List.length_range]
      have cl := hc.le
      have pw3 := pairedMap pw fun _ _ x => PieceV.tups (Same.tups s3) x
      refine ⟨D, p, ws, us, rfl, rfl, s3 _ _ hw, hu, sizeS (by omega), fun q hq => ?_⟩
      have s4 : Same H3 (upd H3 q (.lst (ws ++ us))) := Same.new hq
      refine ⟨_, rfl, _, rfl, new, i, rfl, hn, ln, hi, fun H5 r mr s5 hr hm hpr => ?_⟩
      obtain ⟨xs, hx, px⟩ := hpr
      have l3 : xs.length = mr := by rw [Paired.length px, List.length_map, List.length_range]
      have rl := hm.le
      have pw5 := pairedMap (pairedApp pw3 pu) fun _ _ x => PieceV.tups (Same.tups (s4.trans s5)) x
      refine ⟨q, r, ws ++ us, xs, rfl, rfl, s5 _ _ upd_same, hx, sizeS (by rw [List.length_append]; omega), fun z hz => ?_⟩
      refine k _ z mc mr ((s2.trans s3).trans ((s4.trans s5).trans (Same.new hz))) (((s2.trans s3).trans (s4.trans s5)).free hz) hc hm ⟨_, upd_same, ?_⟩
      exact pairedMap (pairedApp pw5 px) fun _ _ x => PieceV.tups (Same.tups (Same.new hz)) x

def spOneBehind : Sp := fun vs H Q _ => ∃ (p : Addr) (ws : List V) (F : Nat → Row), vs = [.ref p] ∧ H p = some (.lst ws) ∧ ws.length ≤ 200 ∧ (∀ j x, ws[j]? = some x → PieceV H x (F j)) ∧ (∀ j, j < ws.length → (F j).ok 200 ∧ j + (F j).len.toNat ≤ ws.length) ∧
  ∀ H' v rs, Same H H' → Chain F ws.length 0 rs → PatchAt H' v rs → Q v H'
theorem Chain.last {F : Nat → Row} {n : Nat} : ∀ {j : Nat} {rs : List Row}, (∀ rest, Chain F n j rest → Chain F n 0 (rs ++ rest)) → j < n → ∀ rest, Chain F n (j + (F j).len.toNat) rest → Chain F n 0 (rs ++ [F j] ++ rest) := by
  intro j rs h lt rest c
  rw [List.append_assoc]
  exact h _ (.cons lt c)
theorem ok_one_behind_the_other (T : All K mg) : FnOk P w K mg base CX0 2 T.d_one_behind_the_other.f T.d_one_behind_the_other.fd ["firsts"] spOneBehind := by
  have G_length_of : FnOk P w K mg base CX0 1 T.d_length_of.f T.d_length_of.fd ["piece"] spLengthOf := ok_length_of T
  refine T.d_one_behind_the_other.F.ok sc_one_behind_the_other (fun vs H Q E h => ?_) (fun cdv A outer s H vs Q E hr h => ?_)
  · obtain ⟨_, _, _, rfl, _⟩ := h
    rfl
  · obtain ⟨p, ws, F, rfl, hp, wl, hF, hlen, k⟩ := h
    refine ⟨_, (pss_cons 
      (ps_set (i := 1) sc_one_behind_the_other.nd rfl (Or.inl rfl) (pe_lst pa_nil)) (pss_cons 
      (ps_set (i := 2) sc_one_behind_the_other.nd rfl (Or.inl rfl) pe_int) (pss_cons 
      (ps_while PassesOwn.never (pt_cmpR op_lt (pv 2) (pe_callB call_len (by rfl) T.b_len PySem.boot_len (pa_cons (pv 0) pa_nil)) (nomark _)) (pss_cons 
      (ps_expr (pe_bm PySem.F.plainAttrs_list PySem.F.slot_list_append PySem.F.type_list_append mt_append (pv 1) (pa_cons (pe_ix ix_list (pv 0) (pv 2) (fun _ _ => rfl)) pa_nil))) (pss_one 
      (ps_aug (i := 2) sc_one_behind_the_other.nd rfl (Or.inl rfl) (pe_call G_length_of (hr.mono (by decide)) rfl T.d_length_of.m T.d_length_of.F.kp T.d_length_of.b .nil pass0 (pa_cons (pe_ix ix_list (pv 0) (pv 2) (fun _ _ => rfl)) pa_nil)) ip_add)))) (pss_one 
      (ps_ret (pe_callTy call_tuple_of (by rfl) T.b_tuple (by decide +kernel) (pa_cons (pv 1) pa_nil))))))), ?_⟩
    refine ⟨sizeS (by show 0 ≤ 100000; decide), fun D hD => ?_⟩
    have npD : p ≠ D := ne_of_none hp hD
    refine while_by (fun σ H1 => ∃ (j : Nat) (us : List V) (rs : List Row), σ = [some (.ref p), some (.ref D), some (.int (j : Int))] ∧ j ≤ ws.length ∧ Same H H1 ∧ H1 D = some (.lst us) ∧ Paired (PieceV H1) us rs ∧ us.length ≤ j ∧ ∀ rest, Chain F ws.length j rest → Chain F ws.length 0 (rs ++ rest))
      (fun σ _ => match σ with | _ :: _ :: some (.int m) :: _ => ws.length - m.toNat | _ => 0) ⟨0, [], [], rfl, Nat.zero_le _, Same.new hD, upd_same, .nil, Nat.le_refl _, fun _ c => c⟩ ?_ ?_
    · rintro σ H1 ⟨j, us, rs, rfl, jl, s1, hu, pu, ul, ch⟩
      have hp1 := s1 _ _ hp
      refine ⟨_, rfl, _, rfl, _, ws.length, rfl, .inl ⟨_, SqL.of hp1, rfl⟩, _, _, rfl, rfl, _, rfl, ite2 (fun h => ?_) fun h => ?_⟩
      · have h : (j : Int) < ws.length := of_decide_eq_true h
        have lt : j < ws.length := by omega
        have ex := List.getElem?_eq_getElem lt
        obtain ⟨q, hq, hqt⟩ := hF j _ ex
        obtain ⟨ok, le⟩ := hlen j lt
        have pos := Row.len_pos ok
        refine ⟨_, rfl, .inl ⟨rfl, _, SqL.of hu⟩, _, rfl, _, rfl, p, _, _, _, rfl, rfl, SqL.of hp1, at_of (j := j) rfl ex, D, us, _, rfl, rfl, hu, sizeL (by omega), ?_⟩
        have s2 : Same H (upd H1 D (.lst (us ++ [ws[j]]))) := fun b o z => by
          rw [upd_ne (ne_of_none z hD)]
          exact s1 _ _ z
        refine ⟨_, rfl, _, rfl, _, rfl, p, _, _, _, rfl, rfl, SqL.of (s2 _ _ hp), at_of (j := j) rfl ex, q, F j, by rw [hq]; rfl, s2 _ _ hqt, ok, by omega, _, _, rfl, rfl, ?_⟩
        refine ⟨⟨j + (F j).len.toNat, us ++ [ws[j]], rs ++ [F j], by rw [show ((j + (F j).len.toNat : Nat) : Int) = (j : Int) + (F j).len by omega]; rfl, le, s2, upd_same, ?_, by rw [List.length_append]; show us.length + 1 ≤ _; omega, Chain.last ch lt⟩, ?_⟩
        · exact pairedApp (pairedMap pu fun _ _ x => x.tups (Tups.lst hu)) (.cons (PieceV.tups (Same.tups s2) (hF j _ ex)) .nil)
        · show ws.length - ((j : Int) + (F j).len).toNat < ws.length - (j : Int).toNat
          omega
      · have h : ¬ (j : Int) < ws.length := of_decide_eq_false (Bool.not_eq_true _ ▸ h)
        have ej : j = ws.length := by omega
        refine ⟨_, rfl, D, us, rfl, .inl ⟨SqL.of hu, fun u hu' => ?_⟩⟩
        have c := ch [] (by rw [ej]; exact .nil)
        rw [List.append_nil] at c
        exact k _ _ rs (s1.trans (Same.new hu')) c ⟨u, us, rfl, upd_same, pairedMap pu fun _ _ x => x.tups (Same.tups (Same.new hu'))⟩
    · rintro σ H1 Q1 Q2 hq ⟨v, e, u, e', x, n, ex, lv, i, j, ei, ej, b, eb, q⟩
      exact ⟨v, e, u, e', x, n, ex, lv, i, j, ei, ej, b, eb, hq _ _ q⟩

theorem ok_least (T : All K mg) : FnOk P w K mg base CX0 4 T.d_least.f T.d_least.fd ["old", "new"] spLeast := by
  have G_check_edition : FnOk P w K mg base CX0 1 T.d_check_edition.f T.d_check_edition.fd ["edition"] spCheckEdition := ok_check_edition T
  have G_piece_size : FnOk P w K mg base CX0 3 T.d_piece_size.f T.d_piece_size.fd ["piece"] spPieceSize := ok_piece_size T
  have G_length_of : FnOk P w K mg base CX0 1 T.d_length_of.f T.d_length_of.fd ["piece"] spLengthOf := ok_length_of T
  have G_next_pieces : FnOk P w K mg base CX0 2 T.d_next_pieces.f T.d_next_pieces.fd ["old", "new", "at"] spNextPieces := ok_next_pieces T
  have G_one_behind_the_other : FnOk P w K mg base CX0 2 T.d_one_behind_the_other.f T.d_one_behind_the_other.fd ["firsts"] spOneBehind := ok_one_behind_the_other T
  refine T.d_least.F.ok sc_least (fun vs H Q E h => ?_) (fun cdv A outer s H vs Q E hr h => ?_)
  · obtain ⟨_, _, rfl, _⟩ := h
    rfl
  · obtain ⟨old, new, rfl, ho, hn, lo, ln, k⟩ := h
    refine ⟨_, (pss_cons 
      (ps_expr (pe_call G_check_edition (hr.mono (by decide)) rfl T.d_check_edition.m T.d_check_edition.F.kp T.d_check_edition.b .nil pass0 (pa_cons (pv 0) pa_nil))) (pss_cons 
      (ps_expr (pe_call G_check_edition (hr.mono (by decide)) rfl T.d_check_edition.m T.d_check_edition.F.kp T.d_check_edition.b .nil pass0 (pa_cons (pv 1) pa_nil))) (pss_cons 
      (ps_set (i := 2) sc_least.nd rfl (Or.inr rfl) (pe_op op_rep (pe_lst (pa_cons pe_int pa_nil)) (pe_op op_add (pe_callB call_len (by rfl) T.b_len PySem.boot_len (pa_cons (pv 1) pa_nil)) pe_int))) (pss_cons 
      (ps_set (i := 3) sc_least.nd rfl (Or.inl rfl) (pe_op op_rep (pe_lst (pa_cons (pe_tup pa_nil) pa_nil)) (pe_callB call_len (by rfl) T.b_len PySem.boot_len (pa_cons (pv 1) pa_nil)))) (pss_cons 
      (ps_for PassesOwn.never rfl (pi_revR (by rfl) T.b_reversed (prg_1 (by rfl) T.b_range (pe_callB call_len (by rfl) T.b_len PySem.boot_len (pa_cons (pv 1) pa_nil)))) (pg_name (i := 4) sc_least.nd rfl (Or.inr rfl)) (pss_one 
      (ps_asg (pe_callB (cr_minO rfl rfl hr.units) (by rfl) T.b_min (by decide +kernel) (pa_cons (pe_lc (own := [("piece", 5)]) (g := gName 5) (tt := tYes) rfl sc_least.nd (pi_list (pe_call G_next_pieces (hr.mono (by decide)) rfl T.d_next_pieces.m T.d_next_pieces.F.kp T.d_next_pieces.b .nil pass0 (pa_cons (pv 0) (pa_cons (pv 1) (pa_cons (pv 4) pa_nil))))) (blkOk_by (own := [("piece", 5)]) (N := ["old", "new", "sizes", "firsts", "at", "piece"]) (sc := defScope s_least) (by decide +kernel)) (fun _ _ _ _ _ => (pg_name (i := 5) sc_least.nd rfl (Or.inl rfl))) (fun _ _ _ _ _ => pts_nil) (fun _ _ _ _ _ => (pe_tup (pa_cons (pe_op op_add (pe_call G_piece_size (hr.mono (by decide)) rfl T.d_piece_size.m T.d_piece_size.F.kp T.d_piece_size.b .nil pass0 (pa_cons (pv 5) pa_nil)) (pe_ix (ixlK (K := K) rfl) (pv 2) (pe_op op_add (pv 4) (pe_call G_length_of (hr.mono (by decide)) rfl T.d_length_of.m T.d_length_of.F.kp T.d_length_of.b .nil pass0 (pa_cons (pv 5) pa_nil))) (fun _ _ => rfl))) (pa_cons (pv 5) pa_nil))))) pa_nil)) (pg_tup rfl (pgs_cons (pg_sub (pv 2) (pv 4) set_list) (pgs_cons (pg_sub (pv 3) (pv 4) set_list) pgs_nil)))))) (pss_one 
      (ps_ret (pe_call G_one_behind_the_other (hr.mono (by decide)) rfl T.d_one_behind_the_other.m T.d_one_behind_the_other.F.kp T.d_one_behind_the_other.b .nil pass0 (pa_cons (pv 3) pa_nil))))))))), ?_⟩
    refine ⟨_, rfl, old, rfl, lo, ?_⟩
    refine ⟨_, rfl, new, rfl, ln, ?_⟩
    refine ⟨sizeS (by show 1 ≤ 100000; decide), fun l1 h1 => ⟨_, rfl, _, new.length, rfl, lenBy (by omega), _, _, rfl, rfl, l1, _, _, rfl, rfl, upd_same, by omega, by omega, sizeS (by show 1 * _ ≤ 100000; omega), fun D hD => ?_⟩⟩
    rw [rep_flat]
    refine ⟨sizeS (by show 0 ≤ 100000; decide), fun t ht => ⟨sizeS (by show 1 ≤ 100000; decide), fun l2 h2 => ⟨_, rfl, _, new.length, rfl, lenBy (by omega), l2, _, _, rfl, rfl, upd_same, by omega, by omega, sizeS (by show 1 * _ ≤ 100000; omega), fun D2 hD2 => ?_⟩⟩⟩
    rw [rep_flat]
    have s1 : Same H (upd H l1 (.lst [.int 0])) := Same.new h1
    have hD0 : H D = none := s1.free hD
    have sD := s1.trans (Same.new (o := .lst (List.replicate ((new.length : Int) + 1).toNat (V.int 0))) hD)
    have st := sD.trans (Same.new (o := .tup []) ht)
    have sl := st.trans (Same.new (o := .lst [.ref t]) h2)
    have hE0 : H D2 = none := sl.free hD2
    have s4 := sl.trans (Same.new (o := .lst (List.replicate ((new.length : Int)).toNat (V.ref t))) hD2)
    have hD4 := Same.new (o := .lst (List.replicate ((new.length : Int)).toNat (V.ref t))) hD2 _ _ (Same.new (o := .lst [.ref t]) h2 _ _ (Same.new (o := .tup []) ht _ _ (upd_same (H := upd H l1 (.lst [.int 0])) (a := D) (o := .lst (List.replicate ((new.length : Int) + 1).toNat (V.int 0))))))
    have hE4 : (upd (upd (upd (upd (upd H l1 (.lst [.int 0])) D (.lst (List.replicate ((new.length : Int) + 1).toNat (V.int 0)))) t (.tup [])) l2 (.lst [.ref t])) D2 (.lst (List.replicate ((new.length : Int)).toNat (V.ref t)))) D2 = some (.lst (List.replicate ((new.length : Int)).toNat (V.ref t))) := upd_same
    have nDE : D ≠ D2 := ne_of_none (Same.new (o := .lst [.ref t]) h2 _ _ (Same.new (o := .tup []) ht _ _ (upd_same (H := upd H l1 (.lst [.int 0])) (a := D) (o := .lst (List.replicate ((new.length : Int) + 1).toNat (V.int 0)))))) hD2
    refine ⟨_, rfl, _, new.length, rfl, lenBy (by omega), ?_⟩
    generalize upd (upd (upd (upd (upd H l1 (.lst [.int 0])) D (.lst (List.replicate ((new.length : Int) + 1).toNat (V.int 0)))) t (.tup [])) l2 (.lst [.ref t])) D2 (.lst (List.replicate ((new.length : Int)).toNat (V.ref t))) = H4 at s4 hD4 hE4 ⊢
    clear sl st sD s1 h1 h2 ht hD hD2
    refine ⟨_, rfl, by omega, by omega, by omega, by omega, for_rangeC (lo := 0 + ((((new.length : Int) - 0).toNat : Nat) : Int) - 1) (c := -1) (n := ((new.length : Int) - 0).toNat) (fun i σ H2 => ∃ (ss : List Int) (vs : List V) (F : Nat → Row) (v4 v5 : Option V),
      σ = [some (.byt (byteArr old)), some (.byt (byteArr new)), some (.ref D), some (.ref D2), v4, v5] ∧ Same H H2 ∧ H2 D = some (.lst (ss.map V.int)) ∧ ss.length = new.length + 1 ∧ ss.getD new.length 0 = 0 ∧ H2 D2 = some (.lst vs) ∧ vs.length = new.length ∧
        ∀ j, new.length - i ≤ j → j < new.length → (∃ x, vs[j]? = some x ∧ PieceV H2 x (F j)) ∧ PLess old new (fun j => ss.getD j 0) F j) ?_ ?_ ?_⟩
    · refine ⟨List.replicate ((new.length : Int) + 1).toNat 0, _, fun _ => .bring [], _, _, rfl, s4, by rw [List.map_replicate]; exact hD4, by rw [List.length_replicate]; omega, ?_, hE4, by rw [List.length_replicate]; omega, fun j h1 h2 => by omega⟩
      rw [List.getD_eq_getElem?_getD, List.getElem?_replicate]
      split <;> rfl
    · rintro i σ H5 hi ⟨ss, vs, F, v4, v5, rfl, s5, hss, ssl, ss0, hvs, vsl, inv⟩
      obtain ⟨j, ej, jl⟩ : ∃ j : Nat, (0 + ((((new.length : Int) - 0).toNat : Nat) : Int) - 1 + (i : Int) * -1) = (j : Int) ∧ j + 1 + i = new.length := ⟨new.length - 1 - i, by omega, by omega⟩
      rw [ej]
      refine ⟨_, rfl, _, rfl, _, rfl, old, new, j, rfl, ho, hn, lo, ln, by omega, fun H6 p mc mr s6 hp6 hc hr' hP => ?_⟩
      obtain ⟨us, hus, pus⟩ := hP
      have hi2 : j < new.length := by omega
      have fit := cands_fit (old := old) hi2 hn hc hr'
      have ul : us.length = (candsOf old (new.drop j) mc mr).length := Paired.length pus
      have few : (candsOf old (new.drop j) mc mr).length ≤ 600 := by
        have hl : (new.drop j).length = new.length - j := List.length_drop
        have a1 := hc.le
        have a2 := hr'.le
        unfold candsOf bringsOf
        rw [List.length_append, List.length_append, List.length_map, List.length_map, List.length_map, List.length_range, List.length_range, List.length_range]
        omega
      have ne0 : 0 < (candsOf old (new.drop j) mc mr).length := by
        have hl : (new.drop j).length = new.length - j := List.length_drop
        unfold candsOf bringsOf
        rw [List.length_append, List.length_append, List.length_map, List.length_range]
        omega
      generalize hcs : candsOf old (new.drop j) mc mr = cs at fit ul few ne0 pus
      have cost1 : ∀ r ∈ cs, r.ok 200 ∧ r.len ≤ 200 ∧ j + r.len.toNat ≤ new.length ∧ 1 ≤ r.len := fun r hm => by
        have f := fit r hm
        have q1 := Row.len_pos f.ok
        have q2 := f.le
        exact ⟨Row.ok_mono (by omega) f.ok, by omega, q2, q1⟩
      have hss6 := s6 _ _ hss
      refine ⟨p, rfl, ⟨_, SqL.of hus⟩, fun G hG => lc_list (K := K) (a := p) (xs := us) (fun m H7 => ∃ ws : List V, Same H6 H7 ∧ H7 G = some (.lst ws) ∧ Paired (fun x r => ∃ t q, x = V.ref t ∧ H7 t = some (.tup [.int (rowSize r + ss.getD (j + r.len.toNat) 0), .ref q]) ∧ H7 q = some (.tup (Row.tup r))) ws (cs.take m))
        ⟨[], Same.new hG, upd_same, .nil⟩ (fun m H7 _ ⟨_, s7, _⟩ => SqL.of (s7 _ _ hus)) ?_ ?_⟩
      · rintro m x H7 hm ⟨ws, s7, hG7, pw⟩
        obtain ⟨r, hr1, q, rfl, hq⟩ := pairedAt pus hm
        obtain ⟨c1, c2, c3, c4⟩ := cost1 r (List.mem_of_getElem? hr1)
        have hq7 := s7 _ _ hq
        have hss7 := s7 _ _ hss6
        have wl : ws.length ≤ m := by rw [Paired.length pw, List.length_take]; omega
        have ml := (List.getElem?_eq_some_iff.mp hr1).1
        refine ⟨rfl, _, rfl, q, r, rfl, hq7, c1, c2, _, rfl, _, rfl, _, rfl, q, r, rfl, hq7, c1, c2, _, _, rfl, rfl, D, _, _, _, rfl, rfl, SqL.of hss7, at_of (j := j + r.len.toNat) (v := .int (ss.getD (j + r.len.toNat) 0)) (by omega) ?_, _, _, rfl, rfl, _, rfl, sizeS (by show 2 ≤ 100000; decide), fun t ht => ?_⟩
        · rw [List.getElem?_map, List.getD_eq_getElem?_getD, List.getElem?_eq_getElem (show j + r.len.toNat < ss.length by omega)]
          rfl
        · have hG8 := Same.new (o := .tup [.int (rowSize r + ss.getD (j + r.len.toNat) 0), .ref q]) ht _ _ hG7
          have nGt : G ≠ t := ne_of_none hG7 ht
          refine ⟨ws, hG8, sizeL (by omega), ws ++ [.ref t], fun b o z => ?_, upd_same, ?_⟩
          · rw [upd_ne (ne_of_none z hG)]
            exact Same.new ht _ _ (s7 _ _ z)
          · rw [take_snoc hr1]
            have keep : ∀ {a : Addr} {xs : List V}, H7 a = some (.tup xs) → (upd (upd H7 t (.tup [.int (rowSize r + ss.getD (j + r.len.toNat) 0), .ref q])) G (.lst (ws ++ [.ref t]))) a = some (.tup xs) := fun {a xs} z => by
              rw [upd_ne (ne_of (Same.new ht _ _ z) hG8 (by intro y; cases y))]
              exact Same.new ht _ _ z
            refine pairedApp (pairedMap pw fun _ _ ⟨t', q', e1, e2, e3⟩ => ⟨t', q', e1, keep e2, keep e3⟩) (.cons ⟨t, q, rfl, ?_, keep hq7⟩ .nil)
            rw [upd_ne nGt.symm]
            exact upd_same
      · rintro H7 ⟨ws, s7, hG7, pw⟩
        rw [ul, List.take_length] at pw
        have wl : ws.length = cs.length := Paired.length pw
        refine ⟨G, ws, Row, cs, fun r r' => PySem.W.KBq.ord ((rowSize r + ss.getD (j + r.len.toNat) 0) :: r.key) ((rowSize r' + ss.getD (j + r'.len.toNat) 0) :: r'.key), rfl, SqL.of hG7, ?_, wl, ?_, ?_, ?_, ?_⟩
        · intro z
          rw [z] at wl
          simp at wl
          omega
        · intro a b x y r r' hx hy hr hr'
          obtain ⟨r1, er, t, q, rfl, ht, hq⟩ := pairedAt pw hx
          obtain ⟨r2, er2, t', q', rfl, ht', hq'⟩ := pairedAt pw hy
          rw [hr] at er
          rw [hr'] at er2
          injection er with er
          injection er2 with er2
          subst er er2
          refine ov_tup ht ht' ?_ (fun e => ?_)
          · dsimp only
            rw [ord_cons, ← then_eq (PySem.W.KBq.ord r.key r'.key)]
            exact .cons (ov_int _ _) fun _ => .cons (ov_row (n := 5) (RowB.of (fit r (List.mem_of_getElem? hr)).ok) (RowB.of (fit r' (List.mem_of_getElem? hr')).ok) hq hq') fun _ => .nil
          · subst e
            rw [ht] at ht'
            injection ht' with ht'
            injection ht' with ht'
            injection ht' with e1 ht'
            injection ht' with e2 _
            injection e1 with e1
            injection e2 with e2
            subst e2
            rw [hq] at hq'
            injection hq' with hq'
            injection hq' with hq'
            dsimp only
            rw [e1, tup_key (RowB.of (fit r (List.mem_of_getElem? hr)).ok) (RowB.of (fit r' (List.mem_of_getElem? hr')).ok) hq']
            exact (ord_eq _ _).mpr rfl
        · intro r _
          dsimp only
          rw [(ord_eq _ _).mpr rfl]
          intro z
          cases z
        · intro a _ b _ m _ h1 h2 h3
          dsimp only at h1 h2 h3
          rw [Ne, ord_lt] at h1
          rw [ord_lt] at h2 h3
          exact h1 (List.lt_trans h3 h2)
        · intro m x r hx hr hmin
          obtain ⟨r1, er, t, q, rfl, ht, hq⟩ := pairedAt pw hx
          rw [hr] at er
          injection er with er
          subst er
          have hrm := List.mem_of_getElem? hr
          obtain ⟨c1, c2, c3, c4⟩ := cost1 r hrm
          have hss7 := s7 _ _ hss6
          have hvs7 := s7 _ _ (s6 _ _ hvs)
          have s07 := s5.trans (s6.trans s7)
          have t8 : Tups H7 (upd H7 D (.lst ((ss.map V.int).set j (.int (rowSize r + ss.getD (j + r.len.toNat) 0))))) := Tups.lst hss7
          refine ⟨t, _, rfl, SqT.of ht, rfl, _, _, rfl, _, rfl, _, rfl, D, _, _, j, rfl, rfl, hss7, ixN_natL (by rw [List.length_map]; omega), _, _, rfl, _, rfl, _, rfl, D2, vs, _, j, rfl, rfl, by rw [upd_ne nDE.symm]; exact hvs7, ixN_natL (by omega), rfl, ?_⟩
          have hvs8 : (upd H7 D (.lst ((ss.map V.int).set j (.int (rowSize r + ss.getD (j + r.len.toNat) 0))))) D2 = some (.lst vs) := by rw [upd_ne nDE.symm]; exact hvs7
          have t9 := t8.trans (Tups.lst (o := .lst (vs.set j (.ref q))) hvs8)
          have gd : ∀ y, y ≠ j → (ss.set j (rowSize r + ss.getD (j + r.len.toNat) 0)).getD y 0 = ss.getD y 0 := fun y hy => by
            simp only [List.getD_eq_getElem?_getD, List.getElem?_set_ne (Ne.symm hy)]
          have gj : (ss.set j (rowSize r + ss.getD (j + r.len.toNat) 0)).getD j 0 = rowSize r + ss.getD (j + r.len.toNat) 0 := by
            rw [List.getD_eq_getElem?_getD, List.getElem?_set_self (by omega)]
            rfl
          refine ⟨ss.set j (rowSize r + ss.getD (j + r.len.toNat) 0), vs.set j (.ref q), fun x => if x = j then r else F x, _, _, rfl, fun b o z => ?_, ?_, by rw [List.length_set]; exact ssl, by rw [gd _ (by omega)]; exact ss0, upd_same, by rw [List.length_set]; exact vsl, fun y h1 h2 => ?_⟩
          · rw [upd_ne (ne_of_none z hE0), upd_ne (ne_of_none z hD0)]
            exact s07 _ _ z
          · rw [upd_ne nDE, upd_same, List.map_set]
          · by_cases ey : y = j
            · subst ey
              refine ⟨⟨.ref q, by rw [List.getElem?_set_self (by omega)], q, rfl, ?_⟩, ?_⟩
              · have eF : (fun x => if x = y then r else F x) y = r := if_pos rfl
                rw [eF]
                exact t9 _ _ hq
              · refine pless_of hi2 hn hc hr' ?_ ?_ fun r' hr' => ?_
                · rw [if_pos rfl, hcs]
                  exact hrm
                · rw [if_pos rfl, gj, gd _ (by omega)]
                · rw [hcs] at hr'
                  have q1 := (cost1 r' hr').2.2.2
                  rw [if_pos rfl, gd _ (by omega), gd _ (by omega), ← ord_lt]
                  exact hmin r' hr'
            · obtain ⟨⟨x, hx1, hx2⟩, pl⟩ := inv y (by omega) h2
              refine ⟨⟨x, by rw [List.getElem?_set_ne (Ne.symm ey)]; exact hx1, ?_⟩, ?_⟩
              · have eF : (fun x => if x = j then r else F x) y = F y := if_neg ey
                rw [eF]
                exact PieceV.tups t9 (PieceV.tups (Same.tups (s6.trans s7)) hx2)
              · exact pl.congr (fun z hz => (gd z (by omega)).symm) (if_neg ey).symm
    · rintro σ H5 ⟨ss, vs, F, v4, v5, rfl, s5, hss, ssl, ss0, hvs, vsl, inv⟩
      have inv' : ∀ j, j < new.length → (∃ x, vs[j]? = some x ∧ PieceV H5 x (F j)) ∧ PLess old new (fun j => ss.getD j 0) F j := fun j hj => inv j (by omega) hj
      refine ⟨_, rfl, D2, vs, F, rfl, hvs, by omega, fun j x hx => ?_, fun j hj => ?_, fun H6 v rs s6 hc hP => ?_⟩
      · obtain ⟨⟨y, hy, hp⟩, _⟩ := inv' j (by rw [← vsl]; exact (List.getElem?_eq_some_iff.mp hx).1)
        rw [hx] at hy
        injection hy with hy
        rw [hy]
        exact hp
      · have f := (inv' j (by omega)).2.1
        have := f.le
        exact ⟨Row.ok_mono (by omega) f.ok, by omega⟩
      · rw [vsl] at hc
        exact k H6 v rs (s5.trans s6) (isLeast_of (S := fun j => ss.getD j 0) ss0 (fun j hj => (inv' j hj).2) hc) hP
end
/-! ### all patches gone through -/
theorem slK8 {X : Cx} {K : PySem.W.Frag} (h : X.K = K) : SlR X (rSlL K) := by subst h; exact sl_list
theorem eqDK8 {X : Cx} {K : PySem.W.Frag} (h : X.K = K) (hu : X.A.units + 64 < cLine) : OpR X (compareOp .Eq) (rEqD K) := by subst h; exact op_eqD hu
def HeadV (H : Hp) (v : V) : Row → Prop
  | .bring bs => ∃ p q, v = .ref p ∧ H p = some (.tup [.str "bring", .ref q]) ∧ H q = some (.tup (bs.map V.int))
  | r => ∃ p, v = .ref p ∧ H p = some (.tup r.tup)
theorem HeadV.tups {H H' : Hp} {v : V} : ∀ {r : Row}, Tups H H' → HeadV H v r → HeadV H' v r
  | .bring _, t, ⟨p, q, e, a, b⟩ => ⟨p, q, e, t _ _ a, t _ _ b⟩
  | .copy _ _, t, ⟨p, e, a⟩ => ⟨p, e, t _ _ a⟩
  | .run _ _, t, ⟨p, e, a⟩ => ⟨p, e, t _ _ a⟩
def EntV (H : Hp) (v : V) (e : Int × List Row) : Prop := ∃ t q hs, v = .ref t ∧ H t = some (.tup [.int e.1, .ref q]) ∧ H q = some (.tup hs) ∧ Paired (HeadV H) hs e.2
theorem EntV.tups {H H' : Hp} {v : V} {e : Int × List Row} (t : Tups H H') (h : EntV H v e) : EntV H' v e := let ⟨a, b, hs, x, y, z, r⟩ := h; ⟨a, b, hs, x, t _ _ y, t _ _ z, pairedMap r fun _ _ x => x.tups t⟩
def small : Row → Int
  | .bring bs => 1 + bs.length
  | _ => 2
def scost (rows : List Row) : Int := (rows.map small).sum
structure Every (old new : List Int) (E : List (Int × List Row)) : Prop where
  ok : ∀ e ∈ E, (∀ r ∈ e.2, r.ok old.length) ∧ doneOf e.2 old = new ∧ e.1 = 2 + scost e.2
  all : ∀ rows : List Row, (∀ r ∈ rows, r.ok old.length) → doneOf rows old = new → (2 + scost rows, rows) ∈ E
/-- of those that begin with one of up to k bytes -/
structure Upto (old new : List Int) (k : Nat) (E : List (Int × List Row)) : Prop where
  ok : ∀ e ∈ E, (∀ r ∈ e.2, r.ok old.length) ∧ doneOf e.2 old = new ∧ e.1 = 2 + scost e.2
  all : ∀ (r : Row) (rows : List Row), (∀ x ∈ r :: rows, x.ok old.length) → doneOf (r :: rows) old = new → r.len.toNat ≤ k → (2 + scost (r :: rows), r :: rows) ∈ E
def cap : Nat → Nat
  | 0 => 1
  | n + 1 => 8 * 9 ^ n
def caps : Nat → Nat
  | 0 => 0
  | n + 1 => 9 ^ n
theorem caps_succ (n : Nat) : caps (n + 1) = caps n + cap n := by
  cases n with
  | zero => rfl
  | succ n =>
    show 9 ^ (n + 1) = 9 ^ n + 8 * 9 ^ n
    rw [Nat.pow_succ]
    omega
theorem caps_cap (n : Nat) : 8 * caps (n + 1) = cap (n + 1) := rfl
theorem caps_le {n : Nat} (h : n ≤ 5) : caps n ≤ 6561 ∧ cap n ≤ 52488 := by
  have : n = 0 ∨ n = 1 ∨ n = 2 ∨ n = 3 ∨ n = 4 ∨ n = 5 := by omega
  rcases this with rfl | rfl | rfl | rfl | rfl | rfl <;> decide
/-- the pieces of k bytes that may come first -/
structure Heads (old new : List Int) (k : Nat) (hs : List Row) : Prop where
  ok : ∀ r ∈ hs, Fits old new 0 r ∧ r.len.toNat = k
  all : ∀ r, Fits old new 0 r → r.len.toNat = k → r ∈ hs
section
variable {old new : List Int}
def withHeads (hs : List Row) (R : List (Int × List Row)) : List (Int × List Row) := hs.flatMap fun r => R.map fun e => (small r - 1 + 1 + e.1, r :: e.2)
theorem scost_cons (r : Row) (l : List Row) : scost (r :: l) = small r + scost l := by unfold scost; rw [List.map_cons, List.sum_cons]
theorem heads_step {k : Nat} {hs : List Row} {E R : List (Int × List Row)} (u : Upto old new k E) (h : Heads old new (k + 1) hs) (e : Every old (new.drop (k + 1)) R) : Upto old new (k + 1) (E ++ withHeads hs R) := by
  refine ⟨fun x hx => ?_, fun r rows ok dn le => ?_⟩
  · rcases List.mem_append.mp hx with hx | hx
    · exact u.ok x hx
    · obtain ⟨r, hr, hx⟩ := List.mem_flatMap.mp hx
      obtain ⟨y, hy, rfl⟩ := List.mem_map.mp hx
      obtain ⟨f, lr⟩ := h.ok r hr
      obtain ⟨ok, dn, cs⟩ := e.ok y hy
      refine ⟨fun z hz => ?_, ?_, ?_⟩
      · rcases List.mem_cons.mp hz with rfl | hz
        · exact f.ok
        · exact ok z hz
      · show doneOf (r :: y.2) old = new
        rw [done_cons, f.is, dn, lr, List.drop_zero, List.take_append_drop]
      · show small r - 1 + 1 + y.1 = 2 + scost (r :: y.2)
        rw [scost_cons, cs]
        omega
  · obtain ⟨f, dn2, _⟩ := fits_cons (new := new) (i := 0) (Nat.zero_le _) (ok r List.mem_cons_self) (by rw [List.drop_zero]; exact dn)
    by_cases c : r.len.toNat ≤ k
    · exact List.mem_append.mpr (.inl (u.all r rows ok dn c))
    · have lr : r.len.toNat = k + 1 := by omega
      rw [lr, Nat.zero_add] at dn2
      have m := e.all rows (fun x hx => ok x (List.mem_cons_of_mem _ hx)) dn2
      refine List.mem_append.mpr (.inr (List.mem_flatMap.mpr ⟨r, h.all r f lr, List.mem_map.mpr ⟨_, m, ?_⟩⟩))
      rw [scost_cons]
      show (small r - 1 + 1 + (2 + scost rows), r :: rows) = _
      rw [show small r - 1 + 1 + (2 + scost rows) = 2 + (small r + scost rows) by omega]
theorem upto_all {E : List (Int × List Row)} (u : Upto old new new.length E) (hn : new ≠ []) : Every old new E := by
  refine ⟨u.ok, fun rows ok dn => ?_⟩
  cases rows with
  | nil => exact absurd dn.symm hn
  | cons r rows =>
    obtain ⟨f, _, _⟩ := fits_cons (new := new) (i := 0) (Nat.zero_le _) (ok r List.mem_cons_self) (by rw [List.drop_zero]; exact dn)
    have := f.le
    exact u.all r rows ok dn (by omega)
theorem every_nil : Every old [] [(2, [])] := by
  refine ⟨fun e he => ?_, fun rows ok dn => ?_⟩
  · rw [List.mem_singleton.mp he]
    exact ⟨fun r hr => (List.not_mem_nil hr).elim, rfl, rfl⟩
  · cases rows with
    | nil => exact List.mem_singleton.mpr rfl
    | cons r rows =>
      obtain ⟨_, _, lt⟩ := fits_cons (new := []) (i := 0) (Nat.zero_le _) (ok r List.mem_cons_self) dn
      exact absurd lt (Nat.not_lt_zero _)
theorem upto_zero : Upto old new 0 [] := by
  refine ⟨fun e he => (List.not_mem_nil he).elim, fun r rows ok dn le => ?_⟩
  have := Row.len_pos (ok r List.mem_cons_self)
  omega
theorem rep_take {a : Int} : ∀ {l : List Int} {k : Nat}, l.take k = List.replicate (l.take k).length a ↔ ∀ x ∈ l.take k, x = a := by
  intro l k
  constructor
  · intro h x hx
    rw [h] at hx
    exact List.eq_of_mem_replicate hx
  · intro h
    exact List.eq_replicate_iff.mpr ⟨rfl, h⟩
/-- bring, run, copies: all of k bytes -/
def headsOf (old new : List Int) (k : Nat) : List Row :=
  ([Row.bring (new.take k)] ++ if new.take k = List.replicate k (new.getD 0 0) then [Row.run (new.getD 0 0) (k : Int)] else []) ++
    ((List.range ((old.length : Int) - (k : Int) + 1).toNat).filter fun i => decide ((old.drop i).take k = new.take k)).map fun i : Nat => Row.copy (i : Int) (k : Int)
theorem heads_of {k : Nat} (h1 : 1 ≤ k) (h2 : k ≤ new.length) (hn : B8 new) : Heads old new k (headsOf old new k) := by
  have tl : (new.take k).length = k := by rw [List.length_take]; omega
  refine ⟨fun r hr => ?_, fun r f lr => ?_⟩
  · unfold headsOf at hr
    rcases List.mem_append.mp hr with hr | hr
    · rcases List.mem_append.mp hr with hr | hr
      · rw [List.mem_singleton.mp hr]
        have e : (Row.len (.bring (new.take k))).toNat = k := by show ((new.take k).length : Int).toNat = k; omega
        exact ⟨⟨⟨by omega, fun x hx => hn x (List.mem_of_mem_take hx)⟩, by rw [e]; omega, by rw [e, valR_bring, List.drop_zero]⟩, e⟩
      · split at hr
        · rename_i c
          rw [List.mem_singleton.mp hr]
          have e : (Row.len (.run (new.getD 0 0) (k : Int))).toNat = k := Int.toNat_natCast _
          have h0 : 0 < new.length := by omega
          have e0 : new.getD 0 0 = new[0] := by rw [List.getD_eq_getElem?_getD, List.getElem?_eq_getElem h0]; rfl
          have hb0 := hn _ (List.getElem_mem h0)
          exact ⟨⟨⟨by rw [e0]; exact hb0.1, by rw [e0]; exact hb0.2, by omega⟩, by rw [e]; omega, by rw [e, valR_run, Int.toNat_natCast, List.drop_zero, c]⟩, e⟩
        · exact (List.not_mem_nil hr).elim
    · obtain ⟨i, hi, rfl⟩ := List.mem_map.mp hr
      obtain ⟨hi, c⟩ := List.mem_filter.mp hi
      have hi := List.mem_range.mp hi
      have c := of_decide_eq_true c
      have ok : (Row.copy (i : Int) (k : Int)).ok old.length := ⟨by omega, by omega, by omega⟩
      have e : (Row.len (.copy (i : Int) (k : Int))).toNat = k := Int.toNat_natCast _
      exact ⟨⟨ok, by rw [e]; omega, by rw [e, valR_copy ok, Int.toNat_natCast, Int.toNat_natCast, List.drop_zero, c]⟩, e⟩
  · have fis := f.is
    rw [lr, List.drop_zero] at fis
    unfold headsOf
    cases r with
    | bring bs =>
      rw [valR_bring] at fis
      exact List.mem_append.mpr (.inl (List.mem_append.mpr (.inl (List.mem_singleton.mpr (by rw [fis])))))
    | run b n =>
      have en : n.toNat = k := lr
      have pos := f.ok.2.2
      rw [valR_run, en] at fis
      have e0 : new.getD 0 0 = b := by
        have z := congrArg (fun l : List Int => l[0]?) fis
        simp only [List.getElem?_take_of_lt (show 0 < k by omega)] at z
        rw [List.getElem?_replicate, if_pos (by omega)] at z
        rw [List.getD_eq_getElem?_getD, ← z]
        rfl
      refine List.mem_append.mpr (.inl (List.mem_append.mpr (.inr ?_)))
      rw [if_pos (by rw [e0, fis]), e0]
      exact List.mem_singleton.mpr (by rw [show n = (k : Int) by omega])
    | copy b n =>
      have en : n.toNat = k := lr
      have h3 := f.ok.1
      have h4 := f.ok.2.2
      have pos := f.ok.2.1
      have hn2 : n = (k : Int) := by omega
      rw [valR_copy f.ok, en] at fis
      refine List.mem_append.mpr (.inr (List.mem_map.mpr ⟨b.toNat, List.mem_filter.mpr ⟨List.mem_range.mpr (by omega), decide_eq_true fis⟩, ?_⟩))
      rw [show ((b.toNat : Nat) : Int) = b by omega, show (k : Int) = n by omega]
theorem headsOf_len {k : Nat} (h1 : 1 ≤ k) (ho : old.length ≤ 6) : (headsOf old new k).length ≤ 8 := by
  unfold headsOf
  have := List.length_filter_le (fun i => decide ((old.drop i).take k = new.take k)) (List.range ((old.length : Int) - (k : Int) + 1).toNat)
  rw [List.length_range] at this
  rw [List.length_append, List.length_append, List.length_map]
  have : (if new.take k = List.replicate k (new.getD 0 0) then [Row.run (new.getD 0 0) (k : Int)] else []).length ≤ 1 := by split <;> simp
  have : [Row.bring (new.take k)].length = 1 := rfl
  omega
theorem withHeads_len {hs : List Row} {R : List (Int × List Row)} : (withHeads hs R).length = hs.length * R.length := by
  unfold withHeads
  induction hs with
  | nil => simp
  | cons r l ih =>
    rw [List.flatMap_cons, List.length_append, ih, List.length_map, List.length_cons, Nat.succ_mul]
    omega
end
def spEvery (d : Nat) : Sp := fun vs H Q _ => ∃ (p q : Addr) (old new : List Int), vs = [.ref p, .ref q] ∧ H p = some (.lst (old.map V.int)) ∧ H q = some (.lst (new.map V.int)) ∧ B8 new ∧ old.length ≤ 6 ∧ new.length ≤ 5 ∧ new.length < d ∧
  ∀ H' r us E, Same H H' → H r = none → H' r = some (.lst us) → Paired (EntV H') us E → Every old new E → E.length ≤ cap new.length → Q (.ref r) H'
theorem catTK8 {X : Cx} {K : PySem.W.Frag} (h : X.K = K) : OpR X (binaryOp .Add) (rCatT K) := by subst h; exact op_catT
theorem eqv_all8 : ∀ a b : List Int, PyData.eqvAll (a.map PyData.int) (b.map PyData.int) = decide (a = b)
  | [], [] => by simp [PyData.eqvAll]
  | [], _ :: _ => by simp [PyData.eqvAll]
  | _ :: _, [] => by simp [PyData.eqvAll]
  | x :: a, y :: b => by
    have ih := eqv_all8 a b
    simp only [List.map_cons, PyData.eqvAll, PyData.eqv, ih]
    by_cases h : x = y
    · subst h
      by_cases q : a = b
      · subst q; simp
      · simp [q]
    · have : (x == y) = false := beq_eq_false_iff_ne.mpr h
      rw [this, Bool.false_and, decide_eq_false]
      intro z
      injection z with z
      exact h z
theorem eqv_intL8 (a b : List Int) : PyData.eqv (.list (a.map PyData.int)) (.list (b.map PyData.int)) = decide (a = b) := by
  rw [← eqv_all8]
  simp only [PyData.eqv]
theorem cutMid8 {ns : List Int} {i j : Nat} (hi : i ≤ ns.length) (hj : j ≤ ns.length) : cutV (ns.map V.int) (some (i : Int)) (some (j : Int)) = ((ns.drop i).take (j - i)).map V.int := by
  unfold cutV
  rw [HT.sIx_nat, HT.sIx_nat, List.length_map, Nat.min_eq_left hi, Nat.min_eq_left hj, ← List.map_drop, ← List.map_take]
theorem cutTo8 {ns : List Int} {j : Nat} (hj : j ≤ ns.length) : cutV (ns.map V.int) none (some (j : Int)) = (ns.take j).map V.int := by
  unfold cutV
  rw [HT.sIx_none, HT.sIx_nat, List.length_map, List.drop_zero, Nat.min_eq_left hj, Nat.sub_zero, List.map_take]
theorem cutFrom8 {ns : List Int} {i : Nat} (hi : i ≤ ns.length) : cutV (ns.map V.int) (some (i : Int)) none = (ns.drop i).map V.int := by
  unfold cutV
  rw [HT.sIx_none, HT.sIx_nat, List.length_map, Nat.min_eq_left hi, List.map_drop]
  exact List.take_of_length_le (by rw [List.length_drop, List.length_map]; exact Nat.le_refl _)
def HeadsAt (H : Hp) (p : Addr) (hs : List Row) : Prop := ∃ vs, H p = some (.lst vs) ∧ Paired (HeadV H) vs hs
theorem HeadsAt.same {H H' : Hp} {p : Addr} {hs : List Row} (s : Same H H') (h : HeadsAt H p hs) : HeadsAt H' p hs := let ⟨vs, e, r⟩ := h; ⟨vs, s _ _ e, pairedMap r fun _ _ x => x.tups (Same.tups s)⟩
section
variable {P : Program} {w : World} {K : PySem.W.Frag} {mg : Str → Option Value} {base : Heap}
theorem ok_law_every (T : All K mg) : ∀ d : Nat, FnOk P w K mg base CX0 d T.d_law_every.f T.d_law_every.fd ["_law_old", "_law_new_one"] (spEvery d)
  | 0 => ⟨fun _ _ _ _ ⟨_, _, _, _, _, _, _, _, _, _, h, _⟩ => absurd h (Nat.not_lt_zero _), fun _ _ _ _ _ _ _ _ _ _ _ _ _ ⟨_, _, _, _, _, _, _, _, _, _, h, _⟩ => absurd h (Nat.not_lt_zero _)⟩
  | d + 1 => by
    have G_law_every : FnOk P w K mg base CX0 d T.d_law_every.f T.d_law_every.fd ["_law_old", "_law_new_one"] (spEvery d) := ok_law_every T d
    refine T.d_law_every.F.ok sc_law_every (fun vs H Q E h => ?_) (fun cdv A outer s H vs Q E hr h => ?_)
    · obtain ⟨_, _, _, _, rfl, _⟩ := h
      rfl
    · obtain ⟨p, q, old, new, rfl, hp, hq, hn, lo, ln, ld, k⟩ := h
      refine ⟨_, (pss_cons 
      (ps_if (pt_cmpR (op_eqD hr.units) (pv 1) (pe_lst pa_nil) (nomark _)) (pss_one 
      (ps_ret (pe_lst (pa_cons (pe_tup (pa_cons pe_int (pa_cons (pe_tup pa_nil) pa_nil))) pa_nil)))) pss_nil) (pss_cons 
      (ps_par (i := 2) (j := 3) (by rfl) sc_law_every.nd rfl rfl (by decide) rfl rfl (pa_cons (pe_lst pa_nil) (pa_cons (pe_callB call_len (by rfl) T.b_len PySem.boot_len (pa_cons (pv 1) pa_nil)) pa_nil)) (by rfl)) (pss_cons 
      (ps_for PassesOwn.never rfl (pi_range2 (by rfl) T.b_range (pa_cons pe_int (pa_cons (pe_op op_add (pv 3) pe_int) pa_nil))) (pg_name (i := 4) sc_law_every.nd rfl (Or.inr rfl)) (pss_cons 
      (ps_set (i := 5) sc_law_every.nd rfl (Or.inl rfl) (pe_lst (pa_cons (pe_tup (pa_cons pe_str (pa_cons (pe_callTy call_tuple_of (by rfl) T.b_tuple (by decide +kernel) (pa_cons (pe_slice (slK8 (K := K) rfl) (pv 1) po_none (po_some (pv 4))) pa_nil)) pa_nil))) pa_nil))) (pss_cons (ps_join 
      (ps_if (pt_cmpR (op_eqD hr.units) (pe_slice (slK8 (K := K) rfl) (pv 1) po_none (po_some (pv 4))) (pe_op op_rep (pe_lst (pa_cons (pe_ix ix_list (pv 1) pe_int (fun _ _ => rfl)) pa_nil)) (pv 4)) (nomark _)) (pss_one 
      (ps_expr (pe_bm PySem.F.plainAttrs_list PySem.F.slot_list_append PySem.F.type_list_append mt_append (pv 5) (pa_cons (pe_tup (pa_cons pe_str (pa_cons (pe_ix ix_list (pv 1) pe_int (fun _ _ => rfl)) (pa_cons (pv 4) pa_nil)))) pa_nil)))) pss_nil)) (pss_cons 
      (ps_set (i := 5) sc_law_every.nd rfl (Or.inl rfl) (pe_op op_cat (pv 5) (pe_lc (own := [("_law_at", 6)]) (g := gName 6) rfl sc_law_every.nd (pi_range1 (by rfl) T.b_range (pa_cons (pe_op op_add (pe_op op_sub (pe_callB call_len (by rfl) T.b_len PySem.boot_len (pa_cons (pv 0) pa_nil)) (pv 4)) pe_int) pa_nil)) (blkOk_by (own := [("_law_at", 6)]) (N := ["_law_old", "_law_new_one", "_law_found", "_law_n", "_law_k", "_law_heads", "_law_at", "_law_rest", "_law_head", "_law_row"]) (sc := defScope s_law_every) (by decide +kernel)) (fun _ _ _ _ _ => (pg_name (i := 6) sc_law_every.nd rfl (Or.inl rfl))) (fun _ _ _ _ _ => (pts_one (pt_cmpR (eqDK8 (K := K) rfl hr.units) (pe_slice (slK8 (K := K) rfl) (pv 0) (po_some (pv 6)) (po_some (pe_op op_add (pv 6) (pv 4)))) (pe_slice (slK8 (K := K) rfl) (pv 1) po_none (po_some (pv 4))) (nomark _)))) (fun _ _ _ _ _ => (pe_tup (pa_cons pe_str (pa_cons (pv 6) (pa_cons (pv 4) pa_nil)))))))) (pss_cons 
      (ps_set (i := 7) sc_law_every.nd rfl (Or.inl rfl) (pe_call G_law_every (hr.mono (Nat.le_refl _)) rfl T.d_law_every.m T.d_law_every.F.kp T.d_law_every.b .nil pass0 (pa_cons (pv 0) (pa_cons (pe_slice sl_list (pv 1) (po_some (pv 4)) po_none) pa_nil)))) (pss_one 
      (ps_for PassesOwn.never rfl (pi_list (pv 5)) (pg_name (i := 8) sc_law_every.nd rfl (Or.inr rfl)) (pss_one 
      (ps_set (i := 2) sc_law_every.nd rfl (Or.inl rfl) (pe_op op_cat (pv 2) (pe_lc (own := [("_law_row", 9)]) (g := gName 9) (tt := tYes) rfl sc_law_every.nd (pi_list (pv 7)) (blkOk_by (own := [("_law_row", 9)]) (N := ["_law_old", "_law_new_one", "_law_found", "_law_n", "_law_k", "_law_heads", "_law_at", "_law_rest", "_law_head", "_law_row"]) (sc := defScope s_law_every) (by decide +kernel)) (fun _ _ _ _ _ => (pg_name (i := 9) sc_law_every.nd rfl (Or.inl rfl))) (fun _ _ _ _ _ => pts_nil) (fun _ _ _ _ _ => (pe_tup (pa_cons (pe_op op_add (pe_op op_add pe_int (pe_ifExp (pt_cmpR op_eq (pe_ix (ixtK (K := K) rfl) (pv 8) pe_int (fun _ _ => rfl)) pe_str (nomark _)) (pv 4) pe_int)) (pe_ix (ixtK (K := K) rfl) (pv 9) pe_int (fun _ _ => rfl))) (pa_cons (pe_op (catTK8 (K := K) rfl) (pe_tup (pa_cons (pv 8) pa_nil)) (pe_ix (ixtK (K := K) rfl) (pv 9) pe_int (fun _ _ => rfl))) pa_nil))))))))))))))) (pss_one 
      (ps_ret (pv 2)))))), ?_⟩
      refine ⟨_, rfl, sizeS (by show 0 ≤ 100000; decide), fun l0 h0 => ?_⟩
      have s0 : Same H (upd H l0 (.lst [])) := Same.new h0
      refine ⟨_, .list (([] : List Int).map PyData.int), dp_ints' (s0 _ _ hq), Dp.lst (SqL.of upd_same) .nil, PySem.W.ke_shaped_ints _, PySem.W.ke_shaped_ints _, _, rfl, ?_⟩
      rw [eqv_intL8]
      refine ite2 (fun h => ?_) fun h => ?_
      · have h := of_decide_eq_true h
        subst h
        refine ⟨sizeS (by show 0 ≤ 100000; decide), fun t0 ht0 => ⟨sizeS (by show 2 ≤ 100000; decide), fun t1 ht1 => ⟨sizeS (by show 1 ≤ 100000; decide), fun l1 hl1 => ?_⟩⟩⟩
        have s1 := s0.trans (Same.new (o := .tup []) ht0)
        have s2 := s1.trans (Same.new (o := .tup [.int 2, .ref t0]) ht1)
        have s3 := s2.trans (Same.new (o := .lst [.ref t1]) hl1)
        refine k _ l1 [.ref t1] [(2, [])] s3 (s2.free hl1) upd_same (.cons ⟨t1, t0, [], rfl, ?_, ?_, .nil⟩ .nil) every_nil (by decide)
        · exact Same.new hl1 _ _ upd_same
        · exact Same.new hl1 _ _ (Same.new ht1 _ _ upd_same)
      · have hne := of_decide_eq_false (Bool.not_eq_true _ ▸ h)
        have pos : 0 < new.length := List.length_pos_iff.mpr hne
        refine ⟨sizeS (by show 0 ≤ 100000; decide), fun f0 hf0 => ?_⟩
        have s1 := s0.trans (Same.new (o := .lst []) hf0)
        refine ⟨_, rfl, _, new.length, rfl, .inl ⟨_, SqL.of (s1 _ _ hq), by rw [List.length_map]⟩, _, _, rfl, ?_⟩
        have ff0 : H f0 = none := s0.free hf0
        refine ⟨_, rfl, _, _, rfl, rfl, _, _, rfl, ⟨by omega, by omega, by omega, by omega⟩, ?_⟩
        refine for_range (lo := 1) (n := ((new.length : Int) + 1 - 1).toNat) (fun i σ H2 => ∃ (f : Addr) (us : List V) (E : List (Int × List Row)) (v4 v5 v6 v7 v8 v9 : Option V), σ = [some (.ref p), some (.ref q), some (.ref f), some (.int (new.length : Int)), v4, v5, v6, v7, v8, v9] ∧ Same H H2 ∧ H f = none ∧ H2 f = some (.lst us) ∧ Paired (EntV H2) us E ∧ Upto old new i E ∧ E.length + 8 * caps (new.length - i) ≤ 8 * caps new.length)
          ⟨f0, [], [], _, _, _, _, _, _, rfl, s1, ff0, upd_same, .nil, upto_zero, by rw [Nat.sub_zero]; show 0 + _ ≤ _; omega⟩ ?_ ?_
        · rintro i σ H2 hi ⟨f, us, E1, v4, v5, v6, v7, v8, v9, rfl, s2, hf, hu, pu, up, cl⟩
          have il : i < new.length := by omega
          have ek : (1 : Int) + (i : Int) = ((i + 1 : Nat) : Int) := by omega
          rw [ek]
          have hq2 := s2 _ _ hq
          have tl : (new.take (i + 1)).length = i + 1 := by rw [List.length_take]; omega
          have cp := caps_succ (new.length - (i + 1))
          rw [show new.length - (i + 1) + 1 = new.length - i by omega] at cp
          have capb := caps_le (show new.length ≤ 5 from ln)
          have capc := caps_le (show new.length - (i + 1) ≤ 5 by omega)
          -- the first head
          refine ⟨_, rfl, _, rfl, _, rfl, q, _, rfl, SqL.of hq2, fun r1 hr1 => ?_⟩
          rw [cutTo8 (by omega)]
          have s3 := Same.new (o := .lst ((new.take (i + 1)).map V.int)) hr1
          refine ⟨r1, _, rfl, .inl ⟨SqL.of upd_same, fun t1 ht1 => ⟨sizeS (by show 2 ≤ 100000; decide), fun t2 ht2 => ⟨sizeS (by show 1 ≤ 100000; decide), fun hl hhl => ?_⟩⟩⟩⟩
          have s4 := s3.trans (Same.new (o := .tup ((new.take (i + 1)).map V.int)) ht1)
          have s5 := s4.trans (Same.new (o := .tup [.str "bring", .ref t1]) ht2)
          have s6 := s5.trans (Same.new (o := .lst [.ref t2]) hhl)
          have hH6 : HeadsAt (upd (upd (upd (upd H2 r1 (.lst ((new.take (i + 1)).map V.int))) t1 (.tup ((new.take (i + 1)).map V.int))) t2 (.tup [.str "bring", .ref t1])) hl (.lst [.ref t2])) hl [.bring (new.take (i + 1))] :=
            ⟨_, upd_same, .cons ⟨t2, t1, rfl, Same.new hhl _ _ upd_same, Same.new hhl _ _ (Same.new ht2 _ _ upd_same)⟩ .nil⟩
          have hhl0 : H2 hl = none := s5.free hhl
          generalize upd (upd (upd (upd H2 r1 (.lst ((new.take (i + 1)).map V.int))) t1 (.tup ((new.take (i + 1)).map V.int))) t2 (.tup [.str "bring", .ref t1])) hl (.lst [.ref t2]) = H6 at s6 hH6 ⊢
          clear s3 s4 s5 hr1 ht1 ht2 hhl
          have inew : (new.map V.int)[0]? = some (.int (new.getD 0 0)) := by rw [List.getElem?_map, List.getD_eq_getElem?_getD, List.getElem?_eq_getElem pos]; rfl
          refine ⟨fun σ' H' => σ' = [some (.ref p), some (.ref q), some (.ref f), some (.int (new.length : Int)), some (.int ((i + 1 : Nat) : Int)), some (.ref hl), v6, v7, v8, v9] ∧ Same H2 H' ∧ HeadsAt H' hl ([Row.bring (new.take (i + 1))] ++ if new.take (i + 1) = List.replicate (i + 1) (new.getD 0 0) then [Row.run (new.getD 0 0) ((i + 1 : Nat) : Int)] else []), ?_, ?_⟩
          · have hq6 := s6 _ _ hq2
            refine ⟨_, rfl, _, rfl, _, rfl, q, _, rfl, SqL.of hq6, fun r2 hr2 => ?_⟩
            rw [cutTo8 (by omega)]
            have s7 := Same.new (o := .lst ((new.take (i + 1)).map V.int)) hr2
            refine ⟨_, rfl, q, _, _, _, rfl, rfl, SqL.of (s7 _ _ hq6), at_of (j := 0) rfl inew, sizeS (by show 1 ≤ 100000; decide), fun r3 hr3 => ?_⟩
            have s8 := s7.trans (Same.new (o := .lst [.int (new.getD 0 0)]) hr3)
            refine ⟨_, rfl, r3, _, _, rfl, rfl, upd_same, by omega, by omega, sizeS (by show 1 * _ ≤ 100000; omega), fun r4 hr4 => ?_⟩
            rw [rep_flat, Int.toNat_natCast]
            have s9 := s8.trans (Same.new (o := .lst (List.replicate (i + 1) (V.int (new.getD 0 0)))) hr4)
            have h2a := Same.new (o := .lst (List.replicate (i + 1) (V.int (new.getD 0 0)))) hr4 _ _ (Same.new (o := .lst [.int (new.getD 0 0)]) hr3 _ _ (upd_same (H := H6) (a := r2) (o := .lst ((new.take (i + 1)).map V.int))))
            have h4a : (upd (upd (upd H6 r2 (.lst ((new.take (i + 1)).map V.int))) r3 (.lst [.int (new.getD 0 0)])) r4 (.lst (List.replicate (i + 1) (V.int (new.getD 0 0))))) r4 = some (.lst ((List.replicate (i + 1) (new.getD 0 0)).map V.int)) := by rw [upd_same, List.map_replicate]
            have hH9 := hH6.same s9
            have hq9 := s9 _ _ hq6
            have s29 := s6.trans s9
            generalize upd (upd (upd H6 r2 (.lst ((new.take (i + 1)).map V.int))) r3 (.lst [.int (new.getD 0 0)])) r4 (.lst (List.replicate (i + 1) (V.int (new.getD 0 0)))) = H9 at h2a h4a hH9 hq9 s29 ⊢
            refine ⟨_, _, dp_ints' h2a, dp_ints' h4a, PySem.W.ke_shaped_ints _, PySem.W.ke_shaped_ints _, _, rfl, ?_⟩
            rw [eqv_intL8]
            refine ite2 (fun h => ?_) fun h => ?_
            · have h := of_decide_eq_true h
              obtain ⟨vs, hvs, pvs⟩ := hH9
              have vl : vs.length = 1 := Paired.length pvs
              refine ⟨_, rfl, .inl ⟨rfl, _, SqL.of hvs⟩, _, rfl, q, _, _, _, rfl, rfl, SqL.of hq9, at_of (j := 0) rfl inew, _, rfl, sizeS (by show 3 ≤ 100000; decide), fun t ht => ?_⟩
              have hvs' := Same.new (o := .tup [.str "run", .int (new.getD 0 0), .int ((i + 1 : Nat) : Int)]) ht _ _ hvs
              refine ⟨hl, vs, _, rfl, rfl, hvs', sizeL (by omega), rfl, fun b o z => ?_, ⟨_, upd_same, ?_⟩⟩
              · rw [upd_ne (ne_of_none z hhl0)]
                exact Same.new ht _ _ (s29 _ _ z)
              · rw [if_pos h]
                exact pairedApp (pairedMap pvs fun _ _ x => (x.tups (Same.tups (Same.new ht))).tups (Tups.lst hvs')) (.cons ⟨t, rfl, Tups.lst hvs' _ _ upd_same⟩ .nil)
            · have h := of_decide_eq_false (Bool.not_eq_true _ ▸ h)
              refine ⟨rfl, s29, ?_⟩
              rw [if_neg h, List.append_nil]
              exact hH9
          · rintro σ' H7 ⟨rfl, s7, hH7⟩
            obtain ⟨vs, hvs, pvs⟩ := hH7
            have hp7 := s7 _ _ (s2 _ _ hp)
            have hq7 := s7 _ _ hq2
            refine ⟨_, rfl, _, rfl, _, old.length, rfl, .inl ⟨_, SqL.of hp7, by rw [List.length_map]⟩, _, rfl, _, _, rfl, rfl, _, _, rfl, rfl, _, rfl, by omega, by omega, fun c hc => ?_⟩
            refine lc_range (lo := 0) (n := ((old.length : Int) - ((i + 1 : Nat) : Int) + 1).toNat) (fun j H8 => ∃ ws : List V, Same H7 H8 ∧ H8 c = some (.lst ws) ∧ ws.length ≤ j ∧ Paired (HeadV H8) ws (((List.range j).filter fun x => decide ((old.drop x).take (i + 1) = new.take (i + 1))).map fun x : Nat => Row.copy (x : Int) ((i + 1 : Nat) : Int)))
              ⟨[], Same.new hc, upd_same, Nat.le_refl _, .nil⟩ ?_ ?_
            · rintro j H8 hj ⟨ws, s8, hw, wl, pw⟩
              have ej : (0 : Int) + (j : Int) = (j : Int) := by omega
              rw [ej]
              have jo : j + (i + 1) ≤ old.length := by omega
              have ea : (j : Int) + ((i + 1 : Nat) : Int) = ((j + (i + 1) : Nat) : Int) := by omega
              refine ⟨rfl, _, rfl, _, rfl, _, rfl, _, rfl, _, rfl, _, _, rfl, rfl, _, rfl, p, _, rfl, SqL.of (s8 _ _ hp7), fun r5 hr5 => ?_⟩
              rw [ea, cutMid8 (by omega) (by omega), show j + (i + 1) - j = i + 1 by omega]
              have s9 := Same.new (o := .lst (((old.drop j).take (i + 1)).map V.int)) hr5
              refine ⟨_, rfl, _, rfl, _, rfl, q, _, rfl, SqL.of (s9 _ _ (s8 _ _ hq7)), fun r6 hr6 => ?_⟩
              rw [cutTo8 (by omega)]
              have sa := s9.trans (Same.new (o := .lst ((new.take (i + 1)).map V.int)) hr6)
              have h5a := Same.new (o := .lst ((new.take (i + 1)).map V.int)) hr6 _ _ (upd_same (H := H8) (a := r5) (o := .lst (((old.drop j).take (i + 1)).map V.int)))
              have h6a : (upd (upd H8 r5 (.lst (((old.drop j).take (i + 1)).map V.int))) r6 (.lst ((new.take (i + 1)).map V.int))) r6 = some (.lst ((new.take (i + 1)).map V.int)) := upd_same
              have hwa := sa _ _ hw
              have pwa := pairedMap pw fun _ _ x => HeadV.tups (Same.tups sa) x
              have s7a := s8.trans sa
              generalize upd (upd H8 r5 (.lst (((old.drop j).take (i + 1)).map V.int))) r6 (.lst ((new.take (i + 1)).map V.int)) = Ha at h5a h6a hwa pwa s7a ⊢
              refine ⟨_, _, dp_ints' h5a, dp_ints' h6a, PySem.W.ke_shaped_ints _, PySem.W.ke_shaped_ints _, _, rfl, ?_⟩
              rw [eqv_intL8, List.range_succ, List.filter_append, List.map_append]
              refine ite2 (fun h => ?_) fun h => ?_
              · refine ⟨_, rfl, _, rfl, sizeS (by show 3 ≤ 100000; decide), fun t ht => ?_⟩
                have hwt := Same.new (o := .tup [.str "copy", .int (j : Int), .int ((i + 1 : Nat) : Int)]) ht _ _ hwa
                refine ⟨ws, hwt, sizeL (by omega), ws ++ [.ref t], fun b o z => ?_, upd_same, by rw [List.length_append]; show ws.length + 1 ≤ j + 1; omega, ?_⟩
                · rw [upd_ne (ne_of_none z hc)]
                  exact Same.new ht _ _ (s7a _ _ z)
                · have ef : (List.filter (fun x => decide ((old.drop x).take (i + 1) = new.take (i + 1))) [j]).map (fun x : Nat => Row.copy (x : Int) ((i + 1 : Nat) : Int)) = [Row.copy (j : Int) ((i + 1 : Nat) : Int)] := by
                    have h' := of_decide_eq_true h
                    simp [List.filter_cons, h']
                  rw [ef]
                  exact pairedApp (pairedMap pwa fun _ _ x => (x.tups (Same.tups (Same.new ht))).tups (Tups.lst hwt)) (.cons ⟨t, rfl, Tups.lst hwt _ _ upd_same⟩ .nil)
              · have ef : (List.filter (fun x => decide ((old.drop x).take (i + 1) = new.take (i + 1))) [j]).map (fun x : Nat => Row.copy (x : Int) ((i + 1 : Nat) : Int)) = [] := by
                  have h' := of_decide_eq_false (Bool.not_eq_true _ ▸ h)
                  simp [List.filter_cons, h']
                rw [ef, List.append_nil]
                exact ⟨ws, s7a, hwa, by omega, pwa⟩
            · rintro H8 ⟨ws, s8, hw, wl, pw⟩
              have vl : vs.length ≤ 2 := by
                rw [Paired.length pvs]
                split <;> simp
              have phs : Paired (HeadV H8) (vs ++ ws) (headsOf old new (i + 1)) := pairedApp (pairedMap pvs fun _ _ x => x.tups (Same.tups s8)) pw
              refine ⟨hl, c, vs, ws, rfl, rfl, s8 _ _ hvs, hw, sizeS (by omega), fun g hg => ?_⟩
              have hhd := heads_of (old := old) (new := new) (k := i + 1) (by omega) (by omega) hn
              have hhl2 := headsOf_len (old := old) (new := new) (k := i + 1) (by omega) lo
              generalize headsOf old new (i + 1) = hs at phs hhd hhl2
              have s9 := s8.trans (Same.new (o := .lst (vs ++ ws)) hg)
              have hg9 : (upd H8 g (.lst (vs ++ ws))) g = some (.lst (vs ++ ws)) := upd_same
              have phs9 := pairedMap phs fun _ _ x => HeadV.tups (Same.tups (Same.new (o := .lst (vs ++ ws)) hg)) x
              generalize upd H8 g (.lst (vs ++ ws)) = H9 at s9 hg9 phs9 ⊢
              generalize vs ++ ws = hvl at hg9 phs9
              refine ⟨_, rfl, _, rfl, _, rfl, _, rfl, q, _, rfl, SqL.of (s9 _ _ hq7), fun r7 hr7 => ?_⟩
              rw [cutFrom8 (by omega)]
              have s10 := s9.trans (Same.new (o := .lst ((new.drop (i + 1)).map V.int)) hr7)
              have nl : (new.drop (i + 1)).length = new.length - (i + 1) := List.length_drop
              refine ⟨p, r7, old, new.drop (i + 1), rfl, s10 _ _ hp7, upd_same, fun x hx => hn x (List.mem_of_mem_drop hx), lo, by omega, by omega, fun Hb r ru R sb hr0 hru pru evR capR => ?_⟩
              rw [nl] at capR
              have s7b := s10.trans sb
              have s9b := (Same.new (o := .lst ((new.drop (i + 1)).map V.int)) hr7).trans sb
              have hgb := s9b _ _ hg9
              have phb := pairedMap phs9 fun _ _ x => HeadV.tups (Same.tups s9b) x
              have s2b := s7.trans s7b
              have rul : ru.length = R.length := Paired.length pru
              have hvll : hvl.length = hs.length := Paired.length phb
              refine ⟨_, rfl, g, rfl, ⟨_, SqL.of hgb⟩, for_list (K := K) (a := g) (xs := hvl) (fun m σ Hc => ∃ (f' : Addr) (us' : List V) (v8 v9 : Option V), σ = [some (.ref p), some (.ref q), some (.ref f'), some (.int (new.length : Int)), some (.int ((i + 1 : Nat) : Int)), some (.ref g), v6, some (.ref r), v8, v9] ∧ Same Hb Hc ∧ H f' = none ∧ Hc f' = some (.lst us') ∧ Paired (EntV Hc) us' (E1 ++ withHeads (hs.take m) R))
                ⟨f, us, _, _, rfl, Same.refl _, hf, s2b _ _ hu, ?_⟩ (fun m σ Hc _ ⟨_, _, _, _, _, sc, _⟩ => SqL.of (sc _ _ hgb)) ?_ ?_⟩
              · rw [List.take_zero]
                show Paired _ _ (E1 ++ [])
                rw [List.append_nil]
                exact pairedMap pu fun _ _ x => x.tups (Same.tups s2b)
              · rintro m x σ Hc hm ⟨f', us', v8, v9, rfl, sc, hf', hus', pus'⟩
                obtain ⟨hr1, ehr1, hrv⟩ := pairedAt phb hm
                have hrvc := HeadV.tups (Same.tups sc) hrv
                obtain ⟨fitr, lenr⟩ := hhd.ok hr1 (List.mem_of_getElem? ehr1)
                have hruc := sc _ _ hru
                have pruc := pairedMap pru fun _ _ x => EntV.tups (Same.tups sc) x
                refine ⟨_, rfl, _, rfl, r, rfl, ⟨_, SqL.of hruc⟩, fun G hG => lc_list (K := K) (a := r) (xs := ru) (fun j Hd => ∃ ws : List V, Same Hc Hd ∧ Hd G = some (.lst ws) ∧ Paired (EntV Hd) ws ((R.take j).map fun e => (small hr1 - 1 + 1 + e.1, hr1 :: e.2)))
                  ⟨[], Same.new hG, upd_same, .nil⟩ (fun j Hd _ ⟨_, sd, _⟩ => SqL.of (sd _ _ hruc)) ?_ ?_⟩
                · rintro j y Hd hj ⟨ws, sd, hw, pw⟩
                  obtain ⟨e, ee, hev⟩ := pairedAt pruc hj
                  obtain ⟨t, qe, hsE, rfl, ht, hqe, pE⟩ := EntV.tups (Same.tups sd) hev
                  have hrvd := HeadV.tups (Same.tups sd) hrvc
                  have jl := (List.getElem?_eq_some_iff.mp ee).1
                  have wl : ws.length ≤ j := by rw [Paired.length pw, List.length_map, List.length_take]; omega
                  have capn := Nat.le_trans capR capc.2
                  obtain ⟨eok, edn, ecs⟩ := evR.ok e (List.mem_of_getElem? ee)
                  have el : (e.2.length : Int) ≤ 5 := by
                    have a1 := len_le_total eok
                    have a2 := done_len old eok
                    rw [edn] at a2
                    omega
                  have hel : hsE.length = e.2.length := Paired.length pE
                  have fin : ∀ (Hx : Hp) (tq t3 : Addr), Same Hd Hx → Hx tq = some (.tup (x :: hsE)) → Hx t3 = none → (upd Hx t3 (.tup [.int (small hr1 - 1 + 1 + e.1), .ref tq])) G = some (.lst ws) ∧
                      Same Hc (upd (upd Hx t3 (.tup [.int (small hr1 - 1 + 1 + e.1), .ref tq])) G (.lst (ws ++ [.ref t3]))) ∧ Paired (EntV (upd (upd Hx t3 (.tup [.int (small hr1 - 1 + 1 + e.1), .ref tq])) G (.lst (ws ++ [.ref t3])))) (ws ++ [.ref t3]) ((R.take (j + 1)).map fun e => (small hr1 - 1 + 1 + e.1, hr1 :: e.2)) := by
                    intro Hx tq t3 sx htq ht3
                    have s3 := sx.trans (Same.new (o := .tup [.int (small hr1 - 1 + 1 + e.1), .ref tq]) ht3)
                    have hG3 := s3 _ _ hw
                    have tG : Tups (upd Hx t3 (.tup [.int (small hr1 - 1 + 1 + e.1), .ref tq])) (upd (upd Hx t3 (.tup [.int (small hr1 - 1 + 1 + e.1), .ref tq])) G (.lst (ws ++ [.ref t3]))) := Tups.lst hG3
                    have t3G := (Same.tups s3).trans tG
                    refine ⟨hG3, fun b o z => ?_, ?_⟩
                    · rw [upd_ne (ne_of_none z hG)]
                      exact s3 _ _ (sd _ _ z)
                    · rw [take_snoc ee, List.map_append]
                      refine pairedApp (pairedMap pw fun _ _ x => x.tups t3G) (.cons ⟨t3, tq, x :: hsE, rfl, tG _ _ upd_same, tG _ _ (Same.new ht3 _ _ htq), .cons (hrvd.tups t3G) (pairedMap pE fun _ _ x => x.tups t3G)⟩ .nil)
                  cases hr1 with
                  | bring bs =>
                    obtain ⟨ph, qh, rfl, h1, h2⟩ := hrvd
                    have ev : small (.bring bs) - 1 + 1 + e.1 = 1 + ((i + 1 : Nat) : Int) + e.1 := by
                      have lb : ((bs.length : Nat) : Int).toNat = i + 1 := lenr
                      show 1 + (bs.length : Int) - 1 + 1 + e.1 = _
                      omega
                    rw [ev] at fin
                    refine ⟨rfl, _, rfl, ph, _, _, _, rfl, rfl, SqT.of h1, rfl, rfl, _, rfl, ite2 (fun _ => ?_) fun h => absurd (by decide) h⟩
                    refine ⟨_, rfl, _, _, rfl, rfl, _, rfl, t, _, _, _, rfl, rfl, SqT.of ht, rfl, _, _, rfl, rfl, _, rfl, sizeS (by show 1 ≤ 100000; decide), fun t2 ht2 => ?_⟩
                    have s2 := Same.new (o := .tup [.ref ph]) ht2
                    refine ⟨_, rfl, t, _, _, _, rfl, rfl, SqT.of (s2 _ _ ht), rfl, t2, qe, _, _, rfl, rfl, SqT.of upd_same, SqT.of (s2 _ _ hqe), by simp, sizeS (by show 1 + _ ≤ 100000; omega), fun en => ⟨sizeS (by show 2 ≤ 100000; decide), fun t3 ht3 => ?_⟩, fun _ u hu => ⟨sizeS (by show 2 ≤ 100000; decide), fun t3 ht3 => ?_⟩⟩
                    · subst en
                      obtain ⟨f1, f2, f3⟩ := fin _ t2 t3 s2 upd_same ht3
                      exact ⟨ws, f1, sizeL (by omega), _, f2, upd_same, f3⟩
                    · obtain ⟨f1, f2, f3⟩ := fin _ u t3 (s2.trans (Same.new hu)) upd_same ht3
                      exact ⟨ws, f1, sizeL (by omega), _, f2, upd_same, f3⟩
                  | copy b n =>
                    obtain ⟨ph, rfl, h1⟩ := hrvd
                    have ev : small (.copy b n) - 1 + 1 + e.1 = 1 + 1 + e.1 := by
                      show (2 : Int) - 1 + 1 + e.1 = _
                      omega
                    rw [ev] at fin
                    refine ⟨rfl, _, rfl, ph, _, _, _, rfl, rfl, SqT.of h1, rfl, rfl, _, rfl, ite2 (fun h => absurd h (by decide)) fun _ => ?_⟩
                    refine ⟨_, _, rfl, rfl, _, rfl, t, _, _, _, rfl, rfl, SqT.of ht, rfl, _, _, rfl, rfl, _, rfl, sizeS (by show 1 ≤ 100000; decide), fun t2 ht2 => ?_⟩
                    have s2 := Same.new (o := .tup [.ref ph]) ht2
                    refine ⟨_, rfl, t, _, _, _, rfl, rfl, SqT.of (s2 _ _ ht), rfl, t2, qe, _, _, rfl, rfl, SqT.of upd_same, SqT.of (s2 _ _ hqe), by simp, sizeS (by show 1 + _ ≤ 100000; omega), fun en => ⟨sizeS (by show 2 ≤ 100000; decide), fun t3 ht3 => ?_⟩, fun _ u hu => ⟨sizeS (by show 2 ≤ 100000; decide), fun t3 ht3 => ?_⟩⟩
                    · subst en
                      obtain ⟨f1, f2, f3⟩ := fin _ t2 t3 s2 upd_same ht3
                      exact ⟨ws, f1, sizeL (by omega), _, f2, upd_same, f3⟩
                    · obtain ⟨f1, f2, f3⟩ := fin _ u t3 (s2.trans (Same.new hu)) upd_same ht3
                      exact ⟨ws, f1, sizeL (by omega), _, f2, upd_same, f3⟩
                  | run b n =>
                    obtain ⟨ph, rfl, h1⟩ := hrvd
                    have ev : small (.run b n) - 1 + 1 + e.1 = 1 + 1 + e.1 := by
                      show (2 : Int) - 1 + 1 + e.1 = _
                      omega
                    rw [ev] at fin
                    refine ⟨rfl, _, rfl, ph, _, _, _, rfl, rfl, SqT.of h1, rfl, rfl, _, rfl, ite2 (fun h => absurd h (by decide)) fun _ => ?_⟩
                    refine ⟨_, _, rfl, rfl, _, rfl, t, _, _, _, rfl, rfl, SqT.of ht, rfl, _, _, rfl, rfl, _, rfl, sizeS (by show 1 ≤ 100000; decide), fun t2 ht2 => ?_⟩
                    have s2 := Same.new (o := .tup [.ref ph]) ht2
                    refine ⟨_, rfl, t, _, _, _, rfl, rfl, SqT.of (s2 _ _ ht), rfl, t2, qe, _, _, rfl, rfl, SqT.of upd_same, SqT.of (s2 _ _ hqe), by simp, sizeS (by show 1 + _ ≤ 100000; omega), fun en => ⟨sizeS (by show 2 ≤ 100000; decide), fun t3 ht3 => ?_⟩, fun _ u hu => ⟨sizeS (by show 2 ≤ 100000; decide), fun t3 ht3 => ?_⟩⟩
                    · subst en
                      obtain ⟨f1, f2, f3⟩ := fin _ t2 t3 s2 upd_same ht3
                      exact ⟨ws, f1, sizeL (by omega), _, f2, upd_same, f3⟩
                    · obtain ⟨f1, f2, f3⟩ := fin _ u t3 (s2.trans (Same.new hu)) upd_same ht3
                      exact ⟨ws, f1, sizeL (by omega), _, f2, upd_same, f3⟩
                · rintro Hd ⟨ws, sd, hw, pw⟩
                  rw [rul, List.take_length] at pw
                  have ul := Paired.length pus'
                  have wl := Paired.length pw
                  rw [List.length_append, withHeads_len, List.length_take] at ul
                  rw [List.length_map] at wl
                  have m1 : min m hs.length * R.length ≤ 8 * cap (new.length - (i + 1)) := Nat.mul_le_mul (by omega) capR
                  refine ⟨f', G, us', ws, rfl, rfl, sd _ _ hus', hw, sizeS (by omega), fun u hu => ?_⟩
                  have s2c := s2.trans (s2b.trans (sc.trans sd))
                  refine ⟨u, us' ++ ws, _, _, rfl, (sc.trans sd).trans (Same.new hu), s2c.free hu, upd_same, ?_⟩
                  have ew : withHeads (hs.take (m + 1)) R = withHeads (hs.take m) R ++ R.map fun e => (small hr1 - 1 + 1 + e.1, hr1 :: e.2) := by
                    unfold withHeads
                    rw [take_snoc ehr1, List.flatMap_append, List.flatMap_cons, List.flatMap_nil, List.append_nil]
                  rw [ew, ← List.append_assoc]
                  exact pairedApp (pairedMap pus' fun _ _ x => x.tups (Same.tups (sd.trans (Same.new hu)))) (pairedMap pw fun _ _ x => x.tups (Same.tups (Same.new hu)))
              · rintro σ Hc ⟨f', us', v8, v9, rfl, sc, hf', hus', pus'⟩
                rw [hvll, List.take_length] at pus'
                refine ⟨f', us', _, _, _, _, _, _, _, rfl, s2.trans (s2b.trans sc), hf', hus', pus', heads_step up hhd evR, ?_⟩
                rw [List.length_append, withHeads_len]
                have m1 : hs.length * R.length ≤ 8 * cap (new.length - (i + 1)) := Nat.mul_le_mul hhl2 capR
                omega
        · rintro σ H2 ⟨f, us, E1, v4, v5, v6, v7, v8, v9, rfl, s2, hf, hu, pu, up, cl⟩
          have en : ((new.length : Int) + 1 - 1).toNat = new.length := by omega
          rw [en] at up cl
          refine ⟨_, rfl, k H2 f us E1 s2 hf hu pu (upto_all up hne) ?_⟩
          obtain ⟨n, hn1⟩ : ∃ n, new.length = n + 1 := ⟨new.length - 1, by omega⟩
          have := caps_cap n
          rw [hn1] at cl ⊢
          omega
end
/-! ### how entries compare -/
def ordRows : List Row → List Row → Ordering
  | [], [] => .eq
  | [], _ :: _ => .lt
  | _ :: _, [] => .gt
  | r :: a, r' :: b => (PySem.W.KBq.ord r.key r'.key).then (ordRows a b)
theorem ordRows_eq : ∀ (a b : List Row), ordRows a b = .eq ↔ a.map Row.key = b.map Row.key
  | [], [] => by simp [ordRows]
  | [], _ :: _ => by simp [ordRows]
  | _ :: _, [] => by simp [ordRows]
  | r :: a, r' :: b => by
    have ih := ordRows_eq a b
    have e := ord_eq r.key r'.key
    show (PySem.W.KBq.ord r.key r'.key).then (ordRows a b) = .eq ↔ _
    rw [List.map_cons, List.map_cons, List.cons.injEq]
    cases h : PySem.W.KBq.ord r.key r'.key with
    | eq =>
      rw [h] at e
      exact ⟨fun z => ⟨e.mp rfl, ih.mp z⟩, fun z => ih.mpr z.2⟩
    | lt =>
      rw [h] at e
      exact ⟨(fun z => by cases z), fun z => absurd (e.mpr z.1) (fun z => by cases z)⟩
    | gt =>
      rw [h] at e
      exact ⟨(fun z => by cases z), fun z => absurd (e.mpr z.1) (fun z => by cases z)⟩
theorem ordRows_lt : ∀ (a b : List Row), ordRows a b = .lt ↔ a.map Row.key < b.map Row.key
  | [], [] => by simp [ordRows]
  | [], _ :: _ => by simp [ordRows]
  | _ :: _, [] => by simp [ordRows]
  | r :: a, r' :: b => by
    have ih := ordRows_lt a b
    have e := ord_eq r.key r'.key
    have l := ord_lt r.key r'.key
    show (PySem.W.KBq.ord r.key r'.key).then (ordRows a b) = .lt ↔ _
    rw [List.map_cons, List.map_cons, List.cons_lt_cons_iff]
    cases h : PySem.W.KBq.ord r.key r'.key with
    | eq =>
      rw [h] at e l
      exact ⟨fun z => .inr ⟨e.mp rfl, ih.mp z⟩, fun z => z.elim (fun z => absurd (l.mpr z) (fun z => by cases z)) fun z => ih.mpr z.2⟩
    | lt =>
      rw [h] at e l
      exact ⟨fun _ => .inl (l.mp rfl), fun _ => rfl⟩
    | gt =>
      rw [h] at e l
      exact ⟨(fun z => by cases z), fun z => z.elim (fun z => absurd (l.mpr z) (fun z => by cases z)) fun z => absurd (e.mpr z.1) (fun z => by cases z)⟩
def ordEnt (e e' : Int × List Row) : Ordering := (compare e.1 e'.1).then (ordRows e.2 e'.2)
theorem ordEnt_lt (e e' : Int × List Row) : ordEnt e e' = .lt ↔ e.1 < e'.1 ∨ (e.1 = e'.1 ∧ e.2.map Row.key < e'.2.map Row.key) := by
  have l := ordRows_lt e.2 e'.2
  unfold ordEnt
  cases h : compare e.1 e'.1 with
  | eq =>
    have h := Int.compare_eq_eq.mp h
    exact ⟨fun z => .inr ⟨h, l.mp z⟩, fun z => z.elim (fun z => by omega) fun z => l.mpr z.2⟩
  | lt =>
    have h := Int.compare_eq_lt.mp h
    exact ⟨fun _ => .inl h, fun _ => rfl⟩
  | gt =>
    have h := Int.compare_eq_gt.mp h
    exact ⟨(fun z => by cases z), fun z => z.elim (fun z => by omega) fun z => by omega⟩
theorem HeadV.inj {H : Hp} {v : V} : ∀ {r r' : Row}, HeadV H v r → HeadV H v r' → r = r' := by
  have tupi : ∀ {p p' : Addr} {xs ys : List V}, V.ref p = V.ref p' → H p = some (.tup xs) → H p' = some (.tup ys) → xs = ys := by
    intro p p' xs ys e a b
    injection e with e
    subst e
    rw [a] at b
    injection b with b
    injection b
  intro r r' h h'
  cases r with
  | bring bs =>
    obtain ⟨p, q, rfl, a, b⟩ := h
    cases r' with
    | bring cs =>
      obtain ⟨p', q', e, a', b'⟩ := h'
      have z := tupi e a a'
      injection z with _ z
      injection z with z _
      have z2 := tupi z b b'
      rw [(List.map_inj_right (fun x y e => by injection e)).mp z2]
    | copy b n =>
      obtain ⟨p', e, a'⟩ := h'
      cases tupi e a a'
    | run b n =>
      obtain ⟨p', e, a'⟩ := h'
      cases tupi e a a'
  | copy b n =>
    obtain ⟨p, rfl, a⟩ := h
    cases r' with
    | bring cs =>
      obtain ⟨p', q', e, a', b'⟩ := h'
      cases tupi e a a'
    | copy b' n' =>
      obtain ⟨p', e, a'⟩ := h'
      have z : [V.str "copy", V.int b, V.int n] = [V.str "copy", V.int b', V.int n'] := tupi e a a'
      injection z with _ z
      injection z with z1 z
      injection z with z2 _
      injection z1 with z1
      injection z2 with z2
      rw [z1, z2]
    | run b' n' =>
      obtain ⟨p', e, a'⟩ := h'
      have z : [V.str "copy", V.int b, V.int n] = [V.str "run", V.int b', V.int n'] := tupi e a a'
      injection z with z _
      injection z with z
      exact absurd z (by decide)
  | run b n =>
    obtain ⟨p, rfl, a⟩ := h
    cases r' with
    | bring cs =>
      obtain ⟨p', q', e, a', b'⟩ := h'
      cases tupi e a a'
    | copy b' n' =>
      obtain ⟨p', e, a'⟩ := h'
      have z : [V.str "run", V.int b, V.int n] = [V.str "copy", V.int b', V.int n'] := tupi e a a'
      injection z with z _
      injection z with z
      exact absurd z (by decide)
    | run b' n' =>
      obtain ⟨p', e, a'⟩ := h'
      have z : [V.str "run", V.int b, V.int n] = [V.str "run", V.int b', V.int n'] := tupi e a a'
      injection z with _ z
      injection z with z1 z
      injection z with z2 _
      injection z1 with z1
      injection z2 with z2
      rw [z1, z2]
theorem heads_inj {H : Hp} : ∀ {hs : List V} {a b : List Row}, Paired (HeadV H) hs a → Paired (HeadV H) hs b → a = b
  | _, _, _, .nil, .nil => rfl
  | _, _, _, .cons x t, .cons y u => by rw [HeadV.inj x y, heads_inj t u]
theorem lex_ints {H : Hp} {n : Nat} : ∀ (a b : List Int), LexV (Ov H (n + 1)) (a.map V.int) (b.map V.int) (PySem.W.KBq.ord a b)
  | [], [] => .nil
  | [], _ :: _ => .less
  | _ :: _, [] => .more
  | x :: a, y :: b => by
    rw [ord_cons]
    exact .cons (ov_int x y) fun _ => lex_ints a b
theorem ov_head {H : Hp} {n : Nat} {v u : V} : ∀ {r r' : Row}, HeadV H v r → HeadV H u r' → Ov H (n + 4) v u (PySem.W.KBq.ord r.key r'.key) := by
  have key : ∀ {r r' : Row}, HeadV H v r → HeadV H u r' → v = u → PySem.W.KBq.ord r.key r'.key = .eq := by
    intro r r' a b e
    subst e
    rw [HeadV.inj a b]
    exact (ord_eq _ _).mpr rfl
  intro r r' h h'
  have kk := key h h'
  cases r with
  | bring bs =>
    obtain ⟨p, q, rfl, a, b⟩ := h
    cases r' with
    | bring cs =>
      obtain ⟨p', q', rfl, a', b'⟩ := h'
      refine ov_tup a a' ?_ fun e => kk (by rw [e])
      show LexV _ _ _ (PySem.W.KBq.ord (0 :: bs) (0 :: cs))
      rw [ord_cons, Int.compare_eq_eq.mpr rfl, ← then_eq (PySem.W.KBq.ord bs cs)]
      refine .cons (ov_str (by decide +kernel) (by decide +kernel)) fun _ => .cons (ov_tup b b' (lex_ints bs cs) fun e => ?_) fun _ => .nil
      subst e
      rw [b] at b'
      injection b' with b'
      injection b' with b'
      rw [(List.map_inj_right (fun x y e => by injection e)).mp b']
      exact (ord_eq _ _).mpr rfl
    | copy b' n' =>
      obtain ⟨p', rfl, a'⟩ := h'
      exact ov_tup a a' (LexV.cons (o1 := .lt) (o2 := .lt) (ov_str (by decide +kernel) (by decide +kernel)) fun z => by cases z) fun e => kk (by rw [e])
    | run b' n' =>
      obtain ⟨p', rfl, a'⟩ := h'
      exact ov_tup a a' (LexV.cons (o1 := .lt) (o2 := .lt) (ov_str (by decide +kernel) (by decide +kernel)) fun z => by cases z) fun e => kk (by rw [e])
  | copy b n =>
    obtain ⟨p, rfl, a⟩ := h
    cases r' with
    | bring cs =>
      obtain ⟨p', q', rfl, a', b'⟩ := h'
      exact ov_tup a a' (LexV.cons (o1 := .gt) (o2 := .lt) (ov_str (by decide +kernel) (by decide +kernel)) fun z => by cases z) fun e => kk (by rw [e])
    | copy b' n' =>
      obtain ⟨p', rfl, a'⟩ := h'
      refine ov_tup a a' ?_ fun e => kk (by rw [e])
      show LexV _ _ _ (PySem.W.KBq.ord [1, b, n] [1, b', n'])
      rw [ord_pair]
      exact LexV.cons (o1 := .eq) (ov_str (by decide +kernel) (by decide +kernel)) fun _ => .cons (ov_int _ _) fun _ => .cons (ov_int _ _) fun _ => .nil
    | run b' n' =>
      obtain ⟨p', rfl, a'⟩ := h'
      exact ov_tup a a' (LexV.cons (o1 := .lt) (o2 := .lt) (ov_str (by decide +kernel) (by decide +kernel)) fun z => by cases z) fun e => kk (by rw [e])
  | run b n =>
    obtain ⟨p, rfl, a⟩ := h
    cases r' with
    | bring cs =>
      obtain ⟨p', q', rfl, a', b'⟩ := h'
      exact ov_tup a a' (LexV.cons (o1 := .gt) (o2 := .lt) (ov_str (by decide +kernel) (by decide +kernel)) fun z => by cases z) fun e => kk (by rw [e])
    | copy b' n' =>
      obtain ⟨p', rfl, a'⟩ := h'
      exact ov_tup a a' (LexV.cons (o1 := .gt) (o2 := .lt) (ov_str (by decide +kernel) (by decide +kernel)) fun z => by cases z) fun e => kk (by rw [e])
    | run b' n' =>
      obtain ⟨p', rfl, a'⟩ := h'
      refine ov_tup a a' ?_ fun e => kk (by rw [e])
      show LexV _ _ _ (PySem.W.KBq.ord [2, b, n] [2, b', n'])
      rw [ord_pair]
      exact LexV.cons (o1 := .eq) (ov_str (by decide +kernel) (by decide +kernel)) fun _ => .cons (ov_int _ _) fun _ => .cons (ov_int _ _) fun _ => .nil
theorem lex_heads {H : Hp} {n : Nat} : ∀ {hs hs' : List V} {a b : List Row}, Paired (HeadV H) hs a → Paired (HeadV H) hs' b → LexV (Ov H (n + 4)) hs hs' (ordRows a b)
  | _, _, _, _, .nil, .nil => .nil
  | _, _, _, _, .nil, .cons _ _ => .less
  | _, _, _, _, .cons _ _, .nil => .more
  | _, _, _, _, .cons x t, .cons y u => .cons (ov_head x y) fun _ => lex_heads t u
theorem ov_ent {H : Hp} {n : Nat} {v u : V} {e e' : Int × List Row} (h : EntV H v e) (h' : EntV H u e') : Ov H (n + 6) v u (ordEnt e e') := by
  obtain ⟨t, q, hs, rfl, a, b, c⟩ := h
  obtain ⟨t', q', hs', rfl, a', b', c'⟩ := h'
  refine ov_tup a a' ?_ fun z => ?_
  · unfold ordEnt
    rw [← then_eq (ordRows e.2 e'.2)]
    refine .cons (ov_int _ _) fun _ => .cons (ov_tup b b' (lex_heads c c') fun z => ?_) fun _ => .nil
    subst z
    rw [b] at b'
    injection b' with b'
    injection b' with b'
    subst b'
    rw [heads_inj c c']
    exact (ordRows_eq _ _).mpr rfl
  · subst z
    rw [a] at a'
    injection a' with a'
    injection a' with a'
    injection a' with z1 a'
    injection a' with z2 _
    injection z1 with z1
    injection z2 with z2
    subst z2
    rw [b] at b'
    injection b' with b'
    injection b' with b'
    subst b'
    unfold ordEnt
    rw [z1, heads_inj c c', Int.compare_eq_eq.mpr rfl]
    exact (ordRows_eq _ _).mpr rfl
theorem small_size {r : Row} {c : Int} (h : r.ok c) (hc : c ≤ 6) (hl : r.len ≤ 20) : rowSize r = small r := by
  have e1 : ∀ n : Int, n ≤ 82 → numSize n = 1 := fun n hn => if_pos (by omega)
  unfold rowSize rowCode
  rw [List.length_append]
  have a := numCode_len (firstNum r)
  have w := r.word_le
  have e2 := e1 (firstNum r) (by unfold firstNum; omega)
  rw [e2] at a
  cases r with
  | copy b n =>
    have h1 := h.2.2
    have h2 := h.2.1
    have b2 := numCode_len b
    rw [e1 b (by omega)] at b2
    show (((numCode (firstNum (.copy b n))).length + (numCode b).length : Nat) : Int) = 2
    omega
  | run b n =>
    show (((numCode (firstNum (.run b n))).length + 1 : Nat) : Int) = 2
    omega
  | bring bs =>
    show (((numCode (firstNum (.bring bs))).length + bs.length : Nat) : Int) = 1 + (bs.length : Int)
    omega
theorem small_cost {c : Int} (hc : c ≤ 6) : ∀ {rows : List Row}, (∀ r ∈ rows, r.ok c) → total rows ≤ 20 → cost rows = scost rows
  | [], _, _ => rfl
  | r :: rows, h, t => by
    have a := Row.len_pos (h r List.mem_cons_self)
    have b := total_nn (l := rows) fun x hx => h x (List.mem_cons_of_mem _ hx)
    have t : r.len + total rows ≤ 20 := t
    have ih := small_cost hc (rows := rows) (fun x hx => h x (List.mem_cons_of_mem _ hx)) (by omega)
    unfold cost scost at ih ⊢
    rw [List.map_cons, List.map_cons, List.sum_cons, List.sum_cons, ih, small_size (h r List.mem_cons_self) hc (by omega)]
theorem best_is {old new : List Int} {E : List (Int × List Row)} {rs : List Row} {e : Int × List Row} (ev : Every old new E) (L : IsLeast old new rs) (lo : old.length ≤ 6) (ln : new.length ≤ 5) (he : e ∈ E) (min : ∀ l ∈ E, ordEnt l e ≠ .lt) : e.2 = rs ∧ e.1 = 2 + cost rs := by
  obtain ⟨ok, dn, cs⟩ := ev.ok e he
  have t1 := done_len old ok
  rw [dn] at t1
  have t2 := L.total
  have c1 := small_cost (c := (old.length : Int)) (by omega) ok (by omega)
  have c2 := small_cost (c := (old.length : Int)) (by omega) L.ok (by omega)
  have m := min _ (ev.all rs L.ok L.is)
  rw [Ne, ordEnt_lt] at m
  have m : ¬ ((2 + scost rs) < e.1 ∨ ((2 + scost rs) = e.1 ∧ rs.map Row.key < e.2.map Row.key)) := m
  rcases L.lex e.2 ok dn with q | ⟨q1, q2⟩
  · exact absurd (.inl (by omega)) m
  · have z : ¬ rs.map Row.key < e.2.map Row.key := fun y => m (.inr ⟨by omega, y⟩)
    have ee := keys_inj (List.le_antisymm (List.not_lt.mp z) (List.not_lt.mp q2))
    exact ⟨ee, by omega⟩
theorem cut5 (xs : List V) : cutV xs none (some 5) = xs.take 5 := by
  unfold cutV
  rw [HT.sIx_none, show (some (5 : Int)) = some ((5 : Nat) : Int) from rfl, HT.sIx_nat, List.drop_zero, Nat.sub_zero]
  by_cases c : 5 ≤ xs.length
  · rw [Nat.min_eq_left c]
  · rw [Nat.min_eq_right (by omega), List.take_length]
    exact (List.take_of_length_le (by omega)).symm
theorem listOfK8 {X : Cx} {K : PySem.W.Frag} (h : X.K = K) : CallR X (.type "list") (fun xs H Q => ∃ p ys, xs = [.ref p] ∧ (SqL K H p ys ∨ SqT K H p ys) ∧ ∀ l, H l = none → Q (.ref l) (upd H l (.lst ys))) := by subst h; exact call_list_of
def spLaw (K : PySem.W.Frag) : Sp := fun vs H Q _ => ∃ (a : Addr) (ns : List Int), vs = [.ref a] ∧ SqL K H a (ns.map V.int) ∧ ns.length ≤ 63 ∧ ∀ H', Q (.bl true) H'
section
variable {P : Program} {w : World} {K : PySem.W.Frag} {mg : Str → Option Value} {base : Heap}
theorem ok_law (T : All K mg) {f : Addr} {fd : FuncData} (F : Fun K "law" "law" s_law f fd) : FnOk P w K mg base CX0 7 f fd ["_law_script"] (spLaw K) := by
  have G_law_dice : FnOk P w K mg base CX0 1 T.d_law_dice.f T.d_law_dice.fd ["_law_script"] (spDice K) := ok_law_dice T
  have G_law_next : FnOk P w K mg base CX0 1 T.d_law_next.f T.d_law_next.fd ["_law_dice_here", "_law_many"] (spNext K) := ok_law_next T
  have G_law_bytes : FnOk P w K mg base CX0 2 T.d_law_bytes.f T.d_law_bytes.fd ["_law_d", "_law_most"] (spBytes K) := ok_law_bytes T
  have G_law_every : FnOk P w K mg base CX0 6 T.d_law_every.f T.d_law_every.fd ["_law_old", "_law_new_one"] (spEvery 6) := ok_law_every T 6
  have G_law_is_patch : FnOk P w K mg base CX0 3 T.d_law_is_patch.f T.d_law_is_patch.fd ["_law_told", "_law_rows"] spIsPatch := ok_law_is_patch T
  have G_bytes_of : FnOk P w K mg base CX0 2 T.d_bytes_of.f T.d_bytes_of.fd ["numbers"] (spBytesOf K) := ok_bytes_of T
  have G_size : FnOk P w K mg base CX0 4 T.d_size.f T.d_size.fd ["patch"] spSizeOf := ok_size T
  have G_least : FnOk P w K mg base CX0 4 T.d_least.f T.d_least.fd ["old", "new"] spLeast := ok_least T
  refine F.ok sc_law (fun vs H Q E h => ?_) (fun cdv A outer s H vs Q E hr h => ?_)
  · obtain ⟨a, ns, rfl, _⟩ := h
    rfl
  · obtain ⟨a, ns, rfl, hS, hl, k⟩ := h
    refine ⟨_, (pss_cons 
      (ps_set (i := 1) sc_law.nd rfl (Or.inl rfl) (pe_call G_law_dice (hr.mono (by decide)) rfl T.d_law_dice.m T.d_law_dice.F.kp T.d_law_dice.b .nil pass0 (pa_cons (pv 0) pa_nil))) (pss_cons 
      (ps_par (i := 2) (j := 3) (by rfl) sc_law.nd rfl rfl (by decide) rfl rfl (pa_cons (pe_call G_law_bytes (hr.mono (by decide)) rfl T.d_law_bytes.m T.d_law_bytes.F.kp T.d_law_bytes.b .nil pass0 (pa_cons (pv 1) (pa_cons pe_int pa_nil))) (pa_cons (pe_call G_law_bytes (hr.mono (by decide)) rfl T.d_law_bytes.m T.d_law_bytes.F.kp T.d_law_bytes.b .nil pass0 (pa_cons (pv 1) (pa_cons pe_int pa_nil))) pa_nil)) (by rfl)) (pss_cons (ps_join 
      (ps_if (PW.pt (pw_and (pt_cmpR op_eq (pe_call G_law_next (hr.mono (by decide)) rfl T.d_law_next.m T.d_law_next.F.kp T.d_law_next.b .nil pass0 (pa_cons (pv 1) (pa_cons pe_int pa_nil))) pe_int (nomark _)) (pw_and1 (pt_cmpR op_gt (pe_callB call_len (by rfl) T.b_len PySem.boot_len (pa_cons (pv 2) pa_nil)) pe_int (nomark _))))) (pss_cons 
      (ps_set (i := 4) sc_law.nd rfl (Or.inl rfl) (pe_call G_law_next (hr.mono (by decide)) rfl T.d_law_next.m T.d_law_next.F.kp T.d_law_next.b .nil pass0 (pa_cons (pv 1) (pa_cons (pe_callB call_len (by rfl) T.b_len PySem.boot_len (pa_cons (pv 2) pa_nil)) pa_nil)))) (pss_one 
      (ps_set (i := 3) sc_law.nd rfl (Or.inl rfl) (pe_slice sl_list (pe_op op_cat (pe_slice sl_list (pv 2) (po_some (pv 4)) po_none) (pe_slice sl_list (pv 2) po_none (po_some (pv 4)))) po_none (po_some pe_int))))) pss_nil)) (pss_cons 
      (ps_set (i := 5) sc_law.nd rfl (Or.inl rfl) (pe_callB (cr_minO rfl rfl hr.units) (by rfl) T.b_min (by decide +kernel) (pa_cons (pe_call G_law_every (hr.mono (by decide)) rfl T.d_law_every.m T.d_law_every.F.kp T.d_law_every.b .nil pass0 (pa_cons (pv 2) (pa_cons (pv 3) pa_nil))) pa_nil))) (pss_cons 
      (ps_setLc (i := 6) (own := [("_law_row", 7)]) (g := gName 7) (tt := tYes) rfl sc_law.nd rfl rfl (sw_true rfl rfl rfl (by decide +kernel)) (pi_tup (pe_ix ix_tup (pv 5) pe_int (fun _ _ => rfl))) (blkOk_by (own := [("_law_row", 7)]) (N := ["_law_script", "_law_d", "_law_old", "_law_new_one", "_law_k", "_law_best", "_law_rows", "_law_row", "_law_handed"]) (sc := defScope s_law) (by decide +kernel)) (fun _ _ _ _ _ => (pg_name (i := 7) sc_law.nd rfl (Or.inl rfl))) (fun _ _ _ _ _ => pts_nil) (fun _ _ _ _ _ => (pe_ifExp (pt_cmpR op_eq (pe_ix (ixtK (K := K) rfl) (pv 7) pe_int (fun _ _ => rfl)) pe_str (nomark _)) (pe_tup (pa_cons (pe_ix (ixtK (K := K) rfl) (pv 7) pe_int (fun _ _ => rfl)) (pa_cons (pe_callTy (listOfK8 (K := K) rfl) (by rfl) T.b_list (by decide +kernel) (pa_cons (pe_ix (ixtK (K := K) rfl) (pv 7) pe_int (fun _ _ => rfl)) pa_nil)) pa_nil))) (pv 7)))) (pss_cons 
      (ps_set (i := 8) sc_law.nd rfl (Or.inl rfl) (pe_call G_least (hr.mono (by decide)) rfl T.d_least.m T.d_least.F.kp T.d_least.b .nil pass0 (pa_cons (pe_call G_bytes_of (hr.mono (by decide)) rfl T.d_bytes_of.m T.d_bytes_of.F.kp T.d_bytes_of.b .nil pass0 (pa_cons (pv 2) pa_nil)) (pa_cons (pe_call G_bytes_of (hr.mono (by decide)) rfl T.d_bytes_of.m T.d_bytes_of.F.kp T.d_bytes_of.b .nil pass0 (pa_cons (pv 3) pa_nil)) pa_nil)))) (pss_one 
      (ps_ret (pe_and (pe_call G_law_is_patch (hr.mono (by decide)) rfl T.d_law_is_patch.m T.d_law_is_patch.F.kp T.d_law_is_patch.b .nil pass0 (pa_cons (pv 8) (pa_cons (pv 6) pa_nil))) (pe_one (pe_cmpR op_eq (pe_call G_size (hr.mono (by decide)) rfl T.d_size.m T.d_size.F.kp T.d_size.b .nil pass0 (pa_cons (pv 8) pa_nil)) (pe_ix ix_tup (pv 5) pe_int (fun _ _ => rfl)) (nomark _)))))))))))), ?_⟩
    refine ⟨_, rfl, a, ns, rfl, hS, hl, fun H1 d s1 hd D1 => ?_⟩
    refine ⟨_, rfl, a, ns, d, 6, rfl, D1, by decide, by decide, fun H2 o es b2 D2 ho ho2 hb hel => ?_⟩
    have nod : o ≠ d := D1.ne ho
    refine ⟨_, rfl, a, ns, d, 5, rfl, D2, by decide, by decide, fun H3 q0 ns0 b3 D3 hq0 hq03 hb0 hel0 => ⟨_, _, rfl, ?_⟩⟩
    have ho3 := b3 o _ nod ho2
    refine ⟨fun σ' H' => ∃ (q : Addr) (new : List Int) (v4 : Option V), σ' = [some (.ref a), some (.ref d), some (.ref o), some (.ref q), v4, none, none, none, none] ∧ H' o = some (.lst (es.map V.int)) ∧ H' q = some (.lst (new.map V.int)) ∧ B8 new ∧ new.length ≤ 5, ?_, ?_⟩
    · refine ⟨_, rfl, a, ns, d, 2, rfl, D3, by decide, by decide, fun H4 r b4 D4 r0 r1 => ⟨rfl, _, rfl, ?_⟩⟩
      have ho4 := b4 o _ nod ho3
      have nqd : q0 ≠ d := D2.ne hq0
      have hq4 := b4 q0 _ nqd hq03
      refine ite2 (fun _ => ?_) fun _ => ?_
      · refine ⟨_, rfl, _, es.length, rfl, .inl ⟨_, SqL.of ho4, by rw [List.length_map]⟩, _, _, rfl, rfl, _, rfl, ite2 (fun h => ?_) fun _ => ⟨q0, ns0, _, rfl, ho4, hq4, hb0, by omega⟩⟩
        have h : (es.length : Int) > 1 := of_decide_eq_true h
        refine ⟨_, rfl, _, rfl, _, es.length, rfl, .inl ⟨_, SqL.of ho4, by rw [List.length_map]⟩, a, ns, d, es.length, rfl, D4, by omega, by omega, fun H5 kk b5 D5 k0 k1 => ?_⟩
        have ho5 := b5 o _ nod ho4
        obtain ⟨m, rfl⟩ : ∃ m : Nat, kk = (m : Int) := ⟨kk.toNat, by omega⟩
        refine ⟨_, rfl, _, rfl, _, rfl, o, _, rfl, SqL.of ho5, fun l1 h1 => ?_⟩
        rw [cutFrom8 (by omega)]
        have s1 := Same.new (o := .lst ((es.drop m).map V.int)) h1
        refine ⟨_, rfl, _, rfl, _, rfl, o, _, rfl, SqL.of (s1 _ _ ho5), fun l2 h2 => ?_⟩
        rw [cutTo8 (by omega)]
        have s2 := s1.trans (Same.new (o := .lst ((es.take m).map V.int)) h2)
        have hl1 := Same.new (o := .lst ((es.take m).map V.int)) h2 _ _ (upd_same (H := H5) (a := l1) (o := .lst ((es.drop m).map V.int)))
        refine ⟨l1, l2, _, _, rfl, rfl, hl1, upd_same, sizeS (by rw [List.length_map, List.length_map, List.length_drop, List.length_take]; omega), fun l3 h3 => ?_⟩
        rw [← List.map_append]
        have s3 := s2.trans (Same.new (o := .lst ((es.drop m ++ es.take m).map V.int)) h3)
        refine ⟨5, rfl, l3, _, rfl, SqL.of upd_same, fun l4 h4 => ?_⟩
        have e5 : cutV ((es.drop m ++ es.take m).map V.int) none (some 5) = ((es.drop m ++ es.take m).take 5).map V.int := by rw [cut5, List.map_take]
        rw [e5]
        refine ⟨l4, _, _, rfl, (s3.trans (Same.new h4)) _ _ ho5, upd_same, fun x hx => ?_, by rw [List.length_take]; exact Nat.min_le_left _ _⟩
        rcases List.mem_append.mp (List.mem_of_mem_take hx) with hx | hx
        · exact hb x (List.mem_of_mem_drop hx)
        · exact hb x (List.mem_of_mem_take hx)
      · exact iteF ⟨q0, ns0, _, rfl, ho4, hq4, hb0, by omega⟩
    · rintro σ' H' ⟨q, new, v4, rfl, ho4, hq4, hbn, lnn⟩
      refine ⟨_, rfl, _, rfl, o, q, es, new, rfl, ho4, hq4, hbn, by omega, lnn, by omega, fun H5 r us E s5 hr5 hr hus ev capE => ?_⟩
      have eln : us.length = E.length := Paired.length hus
      have ne0 : us ≠ [] := by
        intro z
        rw [z] at eln
        have z2 : E = [] := List.length_eq_zero_iff.mp eln.symm
        have : ∃ rows : List Row, (∀ r ∈ rows, r.ok es.length) ∧ doneOf rows es = new := by
          by_cases c : new = []
          · exact ⟨[], fun r hr => (List.not_mem_nil hr).elim, by rw [c]; rfl⟩
          · have := List.length_pos_iff.mpr c
            exact ⟨[.bring new], fun r hr => by rw [List.mem_singleton.mp hr]; exact ⟨by omega, hbn⟩, by rw [done_cons, valR_bring]; exact List.append_nil _⟩
        obtain ⟨rows, h1, h2⟩ := this
        have := ev.all rows h1 h2
        rw [z2] at this
        exact List.not_mem_nil this
      refine ⟨r, us, _, E, ordEnt, rfl, SqL.of hr, ne0, eln, fun i j x y e e' hx hy he he' => ?_, fun e _ z => ?_, fun x _ b _ m _ h1 h2 h3 => ?_, fun i x e hx he hmin => ?_⟩
      · obtain ⟨e1, q1, v1⟩ := pairedAt hus hx
        obtain ⟨e2, q2, v2⟩ := pairedAt hus hy
        rw [he] at q1
        rw [he'] at q2
        injection q1 with q1
        injection q2 with q2
        subst q1 q2
        exact ov_ent (n := 2) v1 v2
      · rw [ordEnt_lt] at z
        rcases z with z | ⟨_, z⟩
        · omega
        · exact List.lt_irrefl _ z
      · rw [Ne, ordEnt_lt] at h1
        rw [ordEnt_lt] at h2 h3
        refine h1 ?_
        rcases h2 with h2 | ⟨h2, h2'⟩
        · rcases h3 with h3 | ⟨h3, _⟩ <;> exact .inl (by omega)
        · rcases h3 with h3 | ⟨h3, h3'⟩
          · exact .inl (by omega)
          · exact .inr ⟨by omega, List.lt_trans h3' h2'⟩
      · obtain ⟨e1, q1, v1⟩ := pairedAt hus hx
        rw [he] at q1
        injection q1 with q1
        subst q1
        obtain ⟨t, qq, hs, rfl, ht, hqq, ph⟩ := v1
        obtain ⟨eok, edn, ecs⟩ := ev.ok e (List.mem_of_getElem? he)
        have tot := done_len es eok
        rw [edn] at tot
        have ell := len_le_total eok
        have hsl : hs.length = e.2.length := Paired.length ph
        -- the rows
        refine ⟨_, rfl, t, _, _, _, rfl, rfl, SqT.of ht, rfl, qq, rfl, ⟨_, SqT.of hqq⟩, fun D hD => lc_tup (K := K) (a := qq) (xs := hs) (fun m H6 => ∃ ws : List V, Same H5 H6 ∧ H6 D = some (.lst ws) ∧ Paired (RowV H6) ws (e.2.take m) ∧ ws.length = m)
          ⟨[], Same.new hD, upd_same, .nil, rfl⟩ (fun m H6 _ ⟨_, s6, _⟩ => SqT.of (s6 _ _ hqq)) ?_ ?_⟩
        · rintro m x H6 hm ⟨ws, s6, hw, pw, wl⟩
          obtain ⟨rr, err, hrv⟩ := pairedAt ph hm
          have hrv6 := HeadV.tups (Same.tups s6) hrv
          have ml := (List.getElem?_eq_some_iff.mp err).1
          have fin : ∀ (Hx : Hp) (v : V), Same H6 Hx → RowV Hx v rr → (∀ bs p' q', rr = .bring bs → Hx p' = some (.tup [.str "bring", .ref q']) → v = .ref p' → q' ≠ D) →
              Hx D = some (.lst ws) ∧ Same H5 (upd Hx D (.lst (ws ++ [v]))) ∧ Paired (RowV (upd Hx D (.lst (ws ++ [v])))) (ws ++ [v]) (e.2.take (m + 1)) := by
            intro Hx v sx hv hq'
            have hwx := sx _ _ hw
            refine ⟨hwx, fun b o z => ?_, ?_⟩
            · rw [upd_ne (ne_of_none z hD)]
              exact sx _ _ (s6 _ _ z)
            · obtain ⟨vs', e', p'⟩ := rows_put hwx (pairedMap pw fun _ _ x => x.same sx) hv hq'
              rw [upd_same] at e'
              injection e' with e'
              injection e' with e'
              rw [take_snoc err]
              rw [← e'] at p'
              exact p'
          cases rr with
          | bring bs =>
            obtain ⟨ph1, qh, rfl, h1, h2⟩ := hrv6
            refine ⟨rfl, _, rfl, ph1, _, _, _, rfl, rfl, SqT.of h1, rfl, rfl, _, rfl, ite2 (fun _ => ?_) fun h => absurd (by decide) h⟩
            refine ⟨_, rfl, ph1, _, _, _, rfl, rfl, SqT.of h1, rfl, _, rfl, ph1, _, _, _, rfl, rfl, SqT.of h1, rfl, qh, _, rfl, .inr (SqT.of h2), fun l hl => ⟨sizeS (by show 2 ≤ 100000; decide), fun t2 ht2 => ?_⟩⟩
            have s8 := (Same.new (o := .lst (bs.map V.int)) hl).trans (Same.new (o := .tup [.str "bring", .ref l]) ht2)
            have hl8 := Same.new (o := .tup [.str "bring", .ref l]) ht2 _ _ (upd_same (H := H6) (a := l) (o := .lst (bs.map V.int)))
            obtain ⟨f1, f2, f3⟩ := fin _ (.ref t2) s8 ⟨t2, l, rfl, upd_same, hl8⟩ (fun bs' p' q' _ z1 z2 => by
              injection z2 with z2
              subst z2
              rw [upd_same] at z1
              injection z1 with z1
              injection z1 with z1
              injection z1 with _ z1
              injection z1 with z1 _
              injection z1 with z1
              rw [← z1]
              exact (ne_of_none hw hl).symm)
            exact ⟨ws, f1, sizeL (by omega), _, f2, upd_same, f3, by rw [List.length_append, wl]; rfl⟩
          | copy b n =>
            obtain ⟨ph1, rfl, h1⟩ := hrv6
            refine ⟨rfl, _, rfl, ph1, _, _, _, rfl, rfl, SqT.of h1, rfl, rfl, _, rfl, ite2 (fun h => absurd h (by decide)) fun _ => ?_⟩
            obtain ⟨f1, f2, f3⟩ := fin H6 (.ref ph1) (Same.refl _) ⟨ph1, rfl, h1⟩ (fun _ _ _ z => by cases z)
            exact ⟨_, rfl, ws, f1, sizeL (by omega), _, f2, upd_same, f3, by rw [List.length_append, wl]; rfl⟩
          | run b n =>
            obtain ⟨ph1, rfl, h1⟩ := hrv6
            refine ⟨rfl, _, rfl, ph1, _, _, _, rfl, rfl, SqT.of h1, rfl, rfl, _, rfl, ite2 (fun h => absurd h (by decide)) fun _ => ?_⟩
            obtain ⟨f1, f2, f3⟩ := fin H6 (.ref ph1) (Same.refl _) ⟨ph1, rfl, h1⟩ (fun _ _ _ z => by cases z)
            exact ⟨_, rfl, ws, f1, sizeL (by omega), _, f2, upd_same, f3, by rw [List.length_append, wl]; rfl⟩
        · rintro H6 ⟨ws, s6, hw, pw, wl⟩
          rw [hsl, List.take_length] at pw
          have ho6 := s6 _ _ (s5 _ _ ho4)
          have hq6 := s6 _ _ (s5 _ _ hq4)
          refine ⟨_, rfl, o, es, rfl, SqL.of ho6, hb, _, rfl, q, new, rfl, SqL.of hq6, hbn, es, new, rfl, hb, hbn, by omega, by omega, fun H7 v rs s7 L hP => ?_⟩
          obtain ⟨b1, b2⟩ := best_is ev L (by omega) lnn (List.mem_of_getElem? he) hmin
          rw [b1] at pw
          have Lg := L.good (by omega) (by omega)
          have lt := L.total
          refine ⟨_, rfl, _, rfl, v, D, rs, es.length, rfl, hP, (RowsAt.same s7 ⟨ws, hw, pw⟩), L.ok, by omega, fun H8 s8 => ⟨_, rfl, iteT ?_⟩⟩
          refine ⟨_, rfl, v, rs, rfl, hP.tups (Same.tups s8), Lg, fun H9 s9 => ?_⟩
          have s59 := s6.trans (s7.trans (s8.trans s9))
          have few : numSize rs.length = 1 := by
            have := len_le_total L.ok
            exact if_pos (by omega)
          have sz := code_size rs
          rw [few] at sz
          have e4 : ((codeOf rs).length : Int) = e.1 := by
            rw [← sz, b2]
            unfold cost
            omega
          refine ⟨_, rfl, t, _, _, _, rfl, rfl, SqT.of (s59 _ _ ht), rfl, rfl, ?_⟩
          rw [e4]
          have kk := k H9
          rw [← decide_eq_true (rfl : V.int e.1 = V.int e.1)] at kk
          exact kk
end
theorem all_mk {l : PySem.W.OpenLaw} {w : World} {K : PySem.W.Frag} {h : Heap} {mg : Str → Option Value} {fa f0 f1 f2 f3 f4 f5 f6 f7 f8 f9 f10 f11 f12 f13 f14 f15 f16 f17 f18 f19 f20 f21 f22 : Addr} (X : K.In h) (G : h.Ns mainGlobals mg) (hfa : mg "law" = some (.ref fa))
    {od0 an0 od1 an1 od2 an2 od3 an3 od4 an4 od5 an5 od6 an6 od7 an7 od8 an8 od9 an9 od10 an10 od11 an11 od12 an12 od13 an13 od14 an14 od15 an15 od16 an16 od17 an17 od18 an18 od19 an19 od20 an20 od21 an21 od22 an22 : Option Addr} {sl0 sl1 sl2 sl3 sl4 sl5 sl6 sl7 sl8 sl9 sl10 sl11 sl12 sl13 sl14 sl15 sl16 sl17 sl18 sl19 sl20 sl21 sl22 : Array (Option Value)} {oc0 kV0 dc0 pm0 cd0 ct0 oc1 kV1 dc1 pm1 cd1 ct1 oc2 kV2 dc2 pm2 cd2 ct2 oc3 kV3 dc3 pm3 cd3 ct3 oc4 kV4 dc4 pm4 cd4 ct4 oc5 kV5 dc5 pm5 cd5 ct5 oc6 kV6 dc6 pm6 cd6 ct6 oc7 kV7 dc7 pm7 cd7 ct7 oc8 kV8 dc8 pm8 cd8 ct8 oc9 kV9 dc9 pm9 cd9 ct9 oc10 kV10 dc10 pm10 cd10 ct10 oc11 kV11 dc11 pm11 cd11 ct11 oc12 kV12 dc12 pm12 cd12 ct12 oc13 kV13 dc13 pm13 cd13 ct13 oc14 kV14 dc14 pm14 cd14 ct14 oc15 kV15 dc15 pm15 cd15 ct15 oc16 kV16 dc16 pm16 cd16 ct16 oc17 kV17 dc17 pm17 cd17 ct17 oc18 kV18 dc18 pm18 cd18 ct18 oc19 kV19 dc19 pm19 cd19 ct19 oc20 kV20 dc20 pm20 cd20 ct20 oc21 kV21 dc21 pm21 cd21 ct21 oc22 kV22 dc22 pm22 cd22 ct22 : Value}
    (a0 : PySem.W.nsIn K mainGlobals "bytes_of" = some (some (.ref f0)))
    (l0 : K.lookup f0 = some ⟨oc0, od0, .func (PySem.W.fnOf "bytes_of" "bytes_of" (defArgs s_bytes_of) (defBody s_bytes_of) (defScope s_bytes_of) .none kV0 dc0 pm0 an0 cd0 ct0), sl0⟩)
    (c0 : PySem.W.codeIn K cd0 "bytes_of" = true) (k0 : PySem.W.keepIn K (.ref f0) = true)
    (a1 : PySem.W.nsIn K mainGlobals "numbers_of" = some (some (.ref f1)))
    (l1 : K.lookup f1 = some ⟨oc1, od1, .func (PySem.W.fnOf "numbers_of" "numbers_of" (defArgs s_numbers_of) (defBody s_numbers_of) (defScope s_numbers_of) .none kV1 dc1 pm1 an1 cd1 ct1), sl1⟩)
    (c1 : PySem.W.codeIn K cd1 "numbers_of" = true) (k1 : PySem.W.keepIn K (.ref f1) = true)
    (a2 : PySem.W.nsIn K mainGlobals "is_number" = some (some (.ref f2)))
    (l2 : K.lookup f2 = some ⟨oc2, od2, .func (PySem.W.fnOf "is_number" "is_number" (defArgs s_is_number) (defBody s_is_number) (defScope s_is_number) .none kV2 dc2 pm2 an2 cd2 ct2), sl2⟩)
    (c2 : PySem.W.codeIn K cd2 "is_number" = true) (k2 : PySem.W.keepIn K (.ref f2) = true)
    (a3 : PySem.W.nsIn K mainGlobals "can_be" = some (some (.ref f3)))
    (l3 : K.lookup f3 = some ⟨oc3, od3, .func (PySem.W.fnOf "can_be" "can_be" (defArgs s_can_be) (defBody s_can_be) (defScope s_can_be) .none kV3 dc3 pm3 an3 cd3 ct3), sl3⟩)
    (c3 : PySem.W.codeIn K cd3 "can_be" = true) (k3 : PySem.W.keepIn K (.ref f3) = true)
    (a4 : PySem.W.nsIn K mainGlobals "length_of" = some (some (.ref f4)))
    (l4 : K.lookup f4 = some ⟨oc4, od4, .func (PySem.W.fnOf "length_of" "length_of" (defArgs s_length_of) (defBody s_length_of) (defScope s_length_of) .none kV4 dc4 pm4 an4 cd4 ct4), sl4⟩)
    (c4 : PySem.W.codeIn K cd4 "length_of" = true) (k4 : PySem.W.keepIn K (.ref f4) = true)
    (a5 : PySem.W.nsIn K mainGlobals "check_edition" = some (some (.ref f5)))
    (l5 : K.lookup f5 = some ⟨oc5, od5, .func (PySem.W.fnOf "check_edition" "check_edition" (defArgs s_check_edition) (defBody s_check_edition) (defScope s_check_edition) .none kV5 dc5 pm5 an5 cd5 ct5), sl5⟩)
    (c5 : PySem.W.codeIn K cd5 "check_edition" = true) (k5 : PySem.W.keepIn K (.ref f5) = true)
    (a6 : PySem.W.nsIn K mainGlobals "check_patch" = some (some (.ref f6)))
    (l6 : K.lookup f6 = some ⟨oc6, od6, .func (PySem.W.fnOf "check_patch" "check_patch" (defArgs s_check_patch) (defBody s_check_patch) (defScope s_check_patch) .none kV6 dc6 pm6 an6 cd6 ct6), sl6⟩)
    (c6 : PySem.W.codeIn K cd6 "check_patch" = true) (k6 : PySem.W.keepIn K (.ref f6) = true)
    (a7 : PySem.W.nsIn K mainGlobals "size" = some (some (.ref f7)))
    (l7 : K.lookup f7 = some ⟨oc7, od7, .func (PySem.W.fnOf "size" "size" (defArgs s_size) (defBody s_size) (defScope s_size) .none kV7 dc7 pm7 an7 cd7 ct7), sl7⟩)
    (c7 : PySem.W.codeIn K cd7 "size" = true) (k7 : PySem.W.keepIn K (.ref f7) = true)
    (a8 : PySem.W.nsIn K mainGlobals "number_size" = some (some (.ref f8)))
    (l8 : K.lookup f8 = some ⟨oc8, od8, .func (PySem.W.fnOf "number_size" "number_size" (defArgs s_number_size) (defBody s_number_size) (defScope s_number_size) .none kV8 dc8 pm8 an8 cd8 ct8), sl8⟩)
    (c8 : PySem.W.codeIn K cd8 "number_size" = true) (k8 : PySem.W.keepIn K (.ref f8) = true)
    (a9 : PySem.W.nsIn K mainGlobals "first_number" = some (some (.ref f9)))
    (l9 : K.lookup f9 = some ⟨oc9, od9, .func (PySem.W.fnOf "first_number" "first_number" (defArgs s_first_number) (defBody s_first_number) (defScope s_first_number) .none kV9 dc9 pm9 an9 cd9 ct9), sl9⟩)
    (c9 : PySem.W.codeIn K cd9 "first_number" = true) (k9 : PySem.W.keepIn K (.ref f9) = true)
    (a10 : PySem.W.nsIn K mainGlobals "piece_size" = some (some (.ref f10)))
    (l10 : K.lookup f10 = some ⟨oc10, od10, .func (PySem.W.fnOf "piece_size" "piece_size" (defArgs s_piece_size) (defBody s_piece_size) (defScope s_piece_size) .none kV10 dc10 pm10 an10 cd10 ct10), sl10⟩)
    (c10 : PySem.W.codeIn K cd10 "piece_size" = true) (k10 : PySem.W.keepIn K (.ref f10) = true)
    (a11 : PySem.W.nsIn K mainGlobals "least" = some (some (.ref f11)))
    (l11 : K.lookup f11 = some ⟨oc11, od11, .func (PySem.W.fnOf "least" "least" (defArgs s_least) (defBody s_least) (defScope s_least) .none kV11 dc11 pm11 an11 cd11 ct11), sl11⟩)
    (c11 : PySem.W.codeIn K cd11 "least" = true) (k11 : PySem.W.keepIn K (.ref f11) = true)
    (a12 : PySem.W.nsIn K mainGlobals "one_behind_the_other" = some (some (.ref f12)))
    (l12 : K.lookup f12 = some ⟨oc12, od12, .func (PySem.W.fnOf "one_behind_the_other" "one_behind_the_other" (defArgs s_one_behind_the_other) (defBody s_one_behind_the_other) (defScope s_one_behind_the_other) .none kV12 dc12 pm12 an12 cd12 ct12), sl12⟩)
    (c12 : PySem.W.codeIn K cd12 "one_behind_the_other" = true) (k12 : PySem.W.keepIn K (.ref f12) = true)
    (a13 : PySem.W.nsIn K mainGlobals "next_pieces" = some (some (.ref f13)))
    (l13 : K.lookup f13 = some ⟨oc13, od13, .func (PySem.W.fnOf "next_pieces" "next_pieces" (defArgs s_next_pieces) (defBody s_next_pieces) (defScope s_next_pieces) .none kV13 dc13 pm13 an13 cd13 ct13), sl13⟩)
    (c13 : PySem.W.codeIn K cd13 "next_pieces" = true) (k13 : PySem.W.keepIn K (.ref f13) = true)
    (a14 : PySem.W.nsIn K mainGlobals "next_copies" = some (some (.ref f14)))
    (l14 : K.lookup f14 = some ⟨oc14, od14, .func (PySem.W.fnOf "next_copies" "next_copies" (defArgs s_next_copies) (defBody s_next_copies) (defScope s_next_copies) .none kV14 dc14 pm14 an14 cd14 ct14), sl14⟩)
    (c14 : PySem.W.codeIn K cd14 "next_copies" = true) (k14 : PySem.W.keepIn K (.ref f14) = true)
    (a15 : PySem.W.nsIn K mainGlobals "next_runs" = some (some (.ref f15)))
    (l15 : K.lookup f15 = some ⟨oc15, od15, .func (PySem.W.fnOf "next_runs" "next_runs" (defArgs s_next_runs) (defBody s_next_runs) (defScope s_next_runs) .none kV15 dc15 pm15 an15 cd15 ct15), sl15⟩)
    (c15 : PySem.W.codeIn K cd15 "next_runs" = true) (k15 : PySem.W.keepIn K (.ref f15) = true)
    (a16 : PySem.W.nsIn K mainGlobals "_law_dice" = some (some (.ref f16)))
    (l16 : K.lookup f16 = some ⟨oc16, od16, .func (PySem.W.fnOf "_law_dice" "_law_dice" (defArgs s_law_dice) (defBody s_law_dice) (defScope s_law_dice) .none kV16 dc16 pm16 an16 cd16 ct16), sl16⟩)
    (c16 : PySem.W.codeIn K cd16 "_law_dice" = true) (k16 : PySem.W.keepIn K (.ref f16) = true)
    (a17 : PySem.W.nsIn K mainGlobals "_law_next" = some (some (.ref f17)))
    (l17 : K.lookup f17 = some ⟨oc17, od17, .func (PySem.W.fnOf "_law_next" "_law_next" (defArgs s_law_next) (defBody s_law_next) (defScope s_law_next) .none kV17 dc17 pm17 an17 cd17 ct17), sl17⟩)
    (c17 : PySem.W.codeIn K cd17 "_law_next" = true) (k17 : PySem.W.keepIn K (.ref f17) = true)
    (a18 : PySem.W.nsIn K mainGlobals "_law_like" = some (some (.ref f18)))
    (l18 : K.lookup f18 = some ⟨oc18, od18, .func (PySem.W.fnOf "_law_like" "_law_like" (defArgs s_law_like) (defBody s_law_like) (defScope s_law_like) .none kV18 dc18 pm18 an18 cd18 ct18), sl18⟩)
    (c18 : PySem.W.codeIn K cd18 "_law_like" = true) (k18 : PySem.W.keepIn K (.ref f18) = true)
    (a19 : PySem.W.nsIn K mainGlobals "_law_bytes" = some (some (.ref f19)))
    (l19 : K.lookup f19 = some ⟨oc19, od19, .func (PySem.W.fnOf "_law_bytes" "_law_bytes" (defArgs s_law_bytes) (defBody s_law_bytes) (defScope s_law_bytes) .none kV19 dc19 pm19 an19 cd19 ct19), sl19⟩)
    (c19 : PySem.W.codeIn K cd19 "_law_bytes" = true) (k19 : PySem.W.keepIn K (.ref f19) = true)
    (a20 : PySem.W.nsIn K mainGlobals "_law_is_patch" = some (some (.ref f20)))
    (l20 : K.lookup f20 = some ⟨oc20, od20, .func (PySem.W.fnOf "_law_is_patch" "_law_is_patch" (defArgs s_law_is_patch) (defBody s_law_is_patch) (defScope s_law_is_patch) .none kV20 dc20 pm20 an20 cd20 ct20), sl20⟩)
    (c20 : PySem.W.codeIn K cd20 "_law_is_patch" = true) (k20 : PySem.W.keepIn K (.ref f20) = true)
    (a21 : PySem.W.nsIn K mainGlobals "_law_every" = some (some (.ref f21)))
    (l21 : K.lookup f21 = some ⟨oc21, od21, .func (PySem.W.fnOf "_law_every" "_law_every" (defArgs s_law_every) (defBody s_law_every) (defScope s_law_every) .none kV21 dc21 pm21 an21 cd21 ct21), sl21⟩)
    (c21 : PySem.W.codeIn K cd21 "_law_every" = true) (k21 : PySem.W.keepIn K (.ref f21) = true)
    (a22 : PySem.W.nsIn K mainGlobals "law" = some (some (.ref f22)))
    (l22 : K.lookup f22 = some ⟨oc22, od22, .func (PySem.W.fnOf "law" "law" (defArgs s_law) (defBody s_law) (defScope s_law) .none kV22 dc22 pm22 an22 cd22 ct22), sl22⟩)
    (c22 : PySem.W.codeIn K cd22 "law" = true) (k22 : PySem.W.keepIn K (.ref f22) = true)
    {t0 : Tok} (z0 : PySem.W.nsIn K mainGlobals "MOST" = some (some (.int 200 t0)))
    {t1 : Tok} (z1 : PySem.W.nsIn K mainGlobals "LAST_BYTE" = some (some (.int 255 t1)))
    {a_2 : Addr} {its_2 : Array Value} {n_2 : Nat} {sl_2 : Array (Option Value)} {t2_0 t2_1 t2_2 : Tok}
    (z2 : PySem.W.nsIn K mainGlobals "WORDS" = some (some (.ref a_2)))
    (y2 : K.lookup a_2 = some ⟨.type "tuple", none, .seq its_2 n_2, sl_2⟩)
    (x2 : its_2 = #[.str "copy" t2_0, .str "bring" t2_1, .str "run" t2_2])
    {t3 : Tok} (z3 : PySem.W.nsIn K mainGlobals "SEVENS" = some (some (.int 128 t3)))
    {t4 : Tok} (z4 : PySem.W.nsIn K mainGlobals "MOST_SEVENS" = some (some (.int 2 t4)))
    (y_bool : PySem.W.nsIn K mainGlobals "bool" = some none)
    (y_bytes : PySem.W.nsIn K mainGlobals "bytes" = some none)
    (y_enumerate : PySem.W.nsIn K mainGlobals "enumerate" = some none)
    (y_int : PySem.W.nsIn K mainGlobals "int" = some none)
    (y_isinstance : PySem.W.nsIn K mainGlobals "isinstance" = some none)
    (y_len : PySem.W.nsIn K mainGlobals "len" = some none)
    (y_list : PySem.W.nsIn K mainGlobals "list" = some none)
    (y_min : PySem.W.nsIn K mainGlobals "min" = some none)
    (y_range : PySem.W.nsIn K mainGlobals "range" = some none)
    (y_reversed : PySem.W.nsIn K mainGlobals "reversed" = some none)
    (y_str : PySem.W.nsIn K mainGlobals "str" = some none)
    (y_sum : PySem.W.nsIn K mainGlobals "sum" = some none)
    (y_tuple : PySem.W.nsIn K mainGlobals "tuple" = some none)
    (y_zip : PySem.W.nsIn K mainGlobals "zip" = some none)
    : ∃ fd : FuncData, (∀ (s : Shared) (v : Value), BindsTo s fd ⟨[v], []⟩ [("_law_script", v)]) ∧ ∀ base : Heap, K.In base → base.Ns mainGlobals mg → FnOk l.prog w K mg base CX0 7 fa fd ["_law_script"] (spLaw K) := by
  have e := hfa.symm.trans (PySem.W.mg_of X G a22)
  cases e
  have F0 := fun_mk (st := s_bytes_of) l0 c0 k0
  have b0 := F0.binds (ps := ["numbers"]) fun _ _ _ _ _ _ us hl => match us, hl with | [_], _ => rfl
  have F1 := fun_mk (st := s_numbers_of) l1 c1 k1
  have b1 := F1.binds (ps := ["some"]) fun _ _ _ _ _ _ us hl => match us, hl with | [_], _ => rfl
  have F2 := fun_mk (st := s_is_number) l2 c2 k2
  have b2 := F2.binds (ps := ["what", "least", "most"]) fun _ _ _ _ _ _ us hl => match us, hl with | [_, _, _], _ => rfl
  have F3 := fun_mk (st := s_can_be) l3 c3 k3
  have b3 := F3.binds (ps := ["piece"]) fun _ _ _ _ _ _ us hl => match us, hl with | [_], _ => rfl
  have F4 := fun_mk (st := s_length_of) l4 c4 k4
  have b4 := F4.binds (ps := ["piece"]) fun _ _ _ _ _ _ us hl => match us, hl with | [_], _ => rfl
  have F5 := fun_mk (st := s_check_edition) l5 c5 k5
  have b5 := F5.binds (ps := ["edition"]) fun _ _ _ _ _ _ us hl => match us, hl with | [_], _ => rfl
  have F6 := fun_mk (st := s_check_patch) l6 c6 k6
  have b6 := F6.binds (ps := ["patch"]) fun _ _ _ _ _ _ us hl => match us, hl with | [_], _ => rfl
  have F7 := fun_mk (st := s_size) l7 c7 k7
  have b7 := F7.binds (ps := ["patch"]) fun _ _ _ _ _ _ us hl => match us, hl with | [_], _ => rfl
  have F8 := fun_mk (st := s_number_size) l8 c8 k8
  have b8 := F8.binds (ps := ["number"]) fun _ _ _ _ _ _ us hl => match us, hl with | [_], _ => rfl
  have F9 := fun_mk (st := s_first_number) l9 c9 k9
  have b9 := F9.binds (ps := ["piece"]) fun _ _ _ _ _ _ us hl => match us, hl with | [_], _ => rfl
  have F10 := fun_mk (st := s_piece_size) l10 c10 k10
  have b10 := F10.binds (ps := ["piece"]) fun _ _ _ _ _ _ us hl => match us, hl with | [_], _ => rfl
  have F11 := fun_mk (st := s_least) l11 c11 k11
  have b11 := F11.binds (ps := ["old", "new"]) fun _ _ _ _ _ _ us hl => match us, hl with | [_, _], _ => rfl
  have F12 := fun_mk (st := s_one_behind_the_other) l12 c12 k12
  have b12 := F12.binds (ps := ["firsts"]) fun _ _ _ _ _ _ us hl => match us, hl with | [_], _ => rfl
  have F13 := fun_mk (st := s_next_pieces) l13 c13 k13
  have b13 := F13.binds (ps := ["old", "new", "at"]) fun _ _ _ _ _ _ us hl => match us, hl with | [_, _, _], _ => rfl
  have F14 := fun_mk (st := s_next_copies) l14 c14 k14
  have b14 := F14.binds (ps := ["old", "new", "at"]) fun _ _ _ _ _ _ us hl => match us, hl with | [_, _, _], _ => rfl
  have F15 := fun_mk (st := s_next_runs) l15 c15 k15
  have b15 := F15.binds (ps := ["new", "at"]) fun _ _ _ _ _ _ us hl => match us, hl with | [_, _], _ => rfl
  have F16 := fun_mk (st := s_law_dice) l16 c16 k16
  have b16 := F16.binds (ps := ["_law_script"]) fun _ _ _ _ _ _ us hl => match us, hl with | [_], _ => rfl
  have F17 := fun_mk (st := s_law_next) l17 c17 k17
  have b17 := F17.binds (ps := ["_law_dice_here", "_law_many"]) fun _ _ _ _ _ _ us hl => match us, hl with | [_, _], _ => rfl
  have F18 := fun_mk (st := s_law_like) l18 c18 k18
  have b18 := F18.binds (ps := ["_law_found", "_law_due"]) fun _ _ _ _ _ _ us hl => match us, hl with | [_, _], _ => rfl
  have F19 := fun_mk (st := s_law_bytes) l19 c19 k19
  have b19 := F19.binds (ps := ["_law_d", "_law_most"]) fun _ _ _ _ _ _ us hl => match us, hl with | [_, _], _ => rfl
  have F20 := fun_mk (st := s_law_is_patch) l20 c20 k20
  have b20 := F20.binds (ps := ["_law_told", "_law_rows"]) fun _ _ _ _ _ _ us hl => match us, hl with | [_, _], _ => rfl
  have F21 := fun_mk (st := s_law_every) l21 c21 k21
  have b21 := F21.binds (ps := ["_law_old", "_law_new_one"]) fun _ _ _ _ _ _ us hl => match us, hl with | [_, _], _ => rfl
  have F22 := fun_mk (st := s_law) l22 c22 k22
  have T : All K mg := ⟨⟨f0, _, F0, PySem.W.mg_of X G a0, b0⟩, ⟨f1, _, F1, PySem.W.mg_of X G a1, b1⟩, ⟨f2, _, F2, PySem.W.mg_of X G a2, b2⟩, ⟨f3, _, F3, PySem.W.mg_of X G a3, b3⟩, ⟨f4, _, F4, PySem.W.mg_of X G a4, b4⟩, ⟨f5, _, F5, PySem.W.mg_of X G a5, b5⟩, ⟨f6, _, F6, PySem.W.mg_of X G a6, b6⟩, ⟨f7, _, F7, PySem.W.mg_of X G a7, b7⟩, ⟨f8, _, F8, PySem.W.mg_of X G a8, b8⟩, ⟨f9, _, F9, PySem.W.mg_of X G a9, b9⟩, ⟨f10, _, F10, PySem.W.mg_of X G a10, b10⟩, ⟨f11, _, F11, PySem.W.mg_of X G a11, b11⟩, ⟨f12, _, F12, PySem.W.mg_of X G a12, b12⟩, ⟨f13, _, F13, PySem.W.mg_of X G a13, b13⟩, ⟨f14, _, F14, PySem.W.mg_of X G a14, b14⟩, ⟨f15, _, F15, PySem.W.mg_of X G a15, b15⟩, ⟨f16, _, F16, PySem.W.mg_of X G a16, b16⟩, ⟨f17, _, F17, PySem.W.mg_of X G a17, b17⟩, ⟨f18, _, F18, PySem.W.mg_of X G a18, b18⟩, ⟨f19, _, F19, PySem.W.mg_of X G a19, b19⟩, ⟨f20, _, F20, PySem.W.mg_of X G a20, b20⟩, ⟨f21, _, F21, PySem.W.mg_of X G a21, b21⟩, t0, PySem.W.mg_of X G z0, t1, PySem.W.mg_of X G z1, a_2, PySem.W.mg_of X G z2, fun H => .inr ⟨_, its_2, n_2, y2, rfl, rfl, by subst x2; (show 3 ≤ sizeLine; rw [sizeLine_eq]; decide), by subst x2; exact (.cons ⟨_, rfl⟩ (.cons ⟨_, rfl⟩ (.cons ⟨_, rfl⟩ .nil)))⟩, ⟨_, y2, rfl, rfl⟩, t3, PySem.W.mg_of X G z3, t4, PySem.W.mg_of X G z4, PySem.W.mg_none_of X G y_bool, PySem.W.mg_none_of X G y_bytes, PySem.W.mg_none_of X G y_enumerate, PySem.W.mg_none_of X G y_int, PySem.W.mg_none_of X G y_isinstance, PySem.W.mg_none_of X G y_len, PySem.W.mg_none_of X G y_list, PySem.W.mg_none_of X G y_min, PySem.W.mg_none_of X G y_range, PySem.W.mg_none_of X G y_reversed, PySem.W.mg_none_of X G y_str, PySem.W.mg_none_of X G y_sum, PySem.W.mg_none_of X G y_tuple, PySem.W.mg_none_of X G y_zip⟩
  exact ⟨PySem.W.fnOf "law" "law" (defArgs s_law) (defBody s_law) (defScope s_law) .none kV22 dc22 pm22 an22 cd22 ct22, fun s v => .of_eq rfl, fun base _ _ => ok_law T F22⟩
theorem walk {l : PySem.W.OpenLaw} {q : Program} {loose : List Str} {XP : (Str → Option Value) → Heap → Prop} {YP : World → Heap → Prop} {d : DefRec} {K : Params → PySem.W.Frag} (hn : l.most = some 63) (hdf : d.params.defaults = [])
    (hY : ∀ (w : World) (h : Heap), YP w h → (K w.params).In h)
    (F : ∀ (w : World) (mg : Str → Option Value) (fa : Addr) (h : Heap), (K w.params).In h → h.Ns mainGlobals mg → mg d.name = some (.ref fa) →
      ∃ fd : FuncData, (∀ (s : Shared) (u : Value), BindsTo s fd ⟨[u], []⟩ [("_law_script", u)]) ∧ ∀ base : Heap, (K w.params).In base → base.Ns mainGlobals mg → FnOk l.prog w (K w.params) mg base CX0 7 fa fd ["_law_script"] (spLaw (K w.params))) :
    PySem.W.WalkO q loose XP YP l.row.toRowW d [] (fun f vs => PySem.call f vs) :=
  L2.walk_of (n := 63) (k := 7) (x := "_law_script") (CX := fun _ => CX0) (sp := fun w => spLaw (K w.params)) hn (by decide) hdf ⟨rfl, by decide, by decide⟩ hY F (fun _ _ a ns hl _ hS => ⟨a, ns, rfl, hS, hl, fun _ => rfl⟩) fun _ _ _ _ _ z => z
end My
open PySem PySem.W PyProof.Rows
set_option maxRecDepth 100000 in
set_option maxHeartbeats 0 in
theorem PySem.Challenge.cw_patchover_k08_least_by_all_holds : PySem.Challenge.rw_patchover_k08_least_by_all.Holds := by
  w_on; o_law; k_head; (case hw => w_witness2)
  k_fill
  first | refine My.walk (l := PySem.Challenge.rw_patchover_k08_least_by_all) rfl rfl (fun w h Y => PySem.W.kIn_of Y) ?F | refine My.walk (l := PySem.Challenge.rw_patchover_k08_least_by_all) rfl rfl (fun w h Y => PySem.W.km_in_of Y) ?F
  case F =>
    intro w mg fa h KX G hmg
    refine' My.all_mk KX G hmg ?a0 ?l0 ?c0 ?k0 ?a1 ?l1 ?c1 ?k1 ?a2 ?l2 ?c2 ?k2 ?a3 ?l3 ?c3 ?k3 ?a4 ?l4 ?c4 ?k4 ?a5 ?l5 ?c5 ?k5 ?a6 ?l6 ?c6 ?k6 ?a7 ?l7 ?c7 ?k7 ?a8 ?l8 ?c8 ?k8 ?a9 ?l9 ?c9 ?k9 ?a10 ?l10 ?c10 ?k10 ?a11 ?l11 ?c11 ?k11 ?a12 ?l12 ?c12 ?k12 ?a13 ?l13 ?c13 ?k13 ?a14 ?l14 ?c14 ?k14 ?a15 ?l15 ?c15 ?k15 ?a16 ?l16 ?c16 ?k16 ?a17 ?l17 ?c17 ?k17 ?a18 ?l18 ?c18 ?k18 ?a19 ?l19 ?c19 ?k19 ?a20 ?l20 ?c20 ?k20 ?a21 ?l21 ?c21 ?k21 ?a22 ?l22 ?c22 ?k22 ?z0 ?z1 ?z2 ?y2 ?x2 ?z3 ?z4 ?y_bool ?y_bytes ?y_enumerate ?y_int ?y_isinstance ?y_len ?y_list ?y_min ?y_range ?y_reversed ?y_str ?y_sum ?y_tuple ?y_zip
    (case a0 => k_is)
    (case l0 => k_is)
    (case c0 => k_is)
    (case k0 => k_is)
    (case a1 => k_is)
    (case l1 => k_is)
    (case c1 => k_is)
    (case k1 => k_is)
    (case a2 => k_is)
    (case l2 => k_is)
    (case c2 => k_is)
    (case k2 => k_is)
    (case a3 => k_is)
    (case l3 => k_is)
    (case c3 => k_is)
    (case k3 => k_is)
    (case a4 => k_is)
    (case l4 => k_is)
    (case c4 => k_is)
    (case k4 => k_is)
    (case a5 => k_is)
    (case l5 => k_is)
    (case c5 => k_is)
    (case k5 => k_is)
    (case a6 => k_is)
    (case l6 => k_is)
    (case c6 => k_is)
    (case k6 => k_is)
    (case a7 => k_is)
    (case l7 => k_is)
    (case c7 => k_is)
    (case k7 => k_is)
    (case a8 => k_is)
    (case l8 => k_is)
    (case c8 => k_is)
    (case k8 => k_is)
    (case a9 => k_is)
    (case l9 => k_is)
    (case c9 => k_is)
    (case k9 => k_is)
    (case a10 => k_is)
    (case l10 => k_is)
    (case c10 => k_is)
    (case k10 => k_is)
    (case a11 => k_is)
    (case l11 => k_is)
    (case c11 => k_is)
    (case k11 => k_is)
    (case a12 => k_is)
    (case l12 => k_is)
    (case c12 => k_is)
    (case k12 => k_is)
    (case a13 => k_is)
    (case l13 => k_is)
    (case c13 => k_is)
    (case k13 => k_is)
    (case a14 => k_is)
    (case l14 => k_is)
    (case c14 => k_is)
    (case k14 => k_is)
    (case a15 => k_is)
    (case l15 => k_is)
    (case c15 => k_is)
    (case k15 => k_is)
    (case a16 => k_is)
    (case l16 => k_is)
    (case c16 => k_is)
    (case k16 => k_is)
    (case a17 => k_is)
    (case l17 => k_is)
    (case c17 => k_is)
    (case k17 => k_is)
    (case a18 => k_is)
    (case l18 => k_is)
    (case c18 => k_is)
    (case k18 => k_is)
    (case a19 => k_is)
    (case l19 => k_is)
    (case c19 => k_is)
    (case k19 => k_is)
    (case a20 => k_is)
    (case l20 => k_is)
    (case c20 => k_is)
    (case k20 => k_is)
    (case a21 => k_is)
    (case l21 => k_is)
    (case c21 => k_is)
    (case k21 => k_is)
    (case a22 => k_is)
    (case l22 => k_is)
    (case c22 => k_is)
    (case k22 => k_is)
    (case z0 => k_is)
    (case z1 => k_is)
    (case z2 => k_is)
    (case y2 => k_is)
    (case x2 => first | rfl | kernel_rfl)
    (case z3 => k_is)
    (case z4 => k_is)
    (case y_bool => k_is)
    (case y_bytes => k_is)
    (case y_enumerate => k_is)
    (case y_int => k_is)
    (case y_isinstance => k_is)
    (case y_len => k_is)
    (case y_list => k_is)
    (case y_min => k_is)
    (case y_range => k_is)
    (case y_reversed => k_is)
    (case y_str => k_is)
    (case y_sum => k_is)
    (case y_tuple => k_is)
    (case y_zip => k_is)
